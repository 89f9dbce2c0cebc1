import PyProof.Rows.All
import Wide.All
import OpenK.AllK
import Wide.FinOn
import HandS.ForMost
import HandS.ForExc
import HandS.TupAny
import HandS.Deep
import HandS.Flow
import HandS.Conv
import HandS.IsInst
import HandS.Zip
import HandS.Style
import HandS.Star
import HandS.Strs
import HandS.CallLocal
import KE.KDictZip
import KE.GoesMore
import KE.GoesZip
import KE.GoesEnum
import PyProof.ReprRoads
import PySem.Challenge.RW_tickworks_k18_standings_by_table
set_option Elab.async false
set_option linter.all false
set_option maxRecDepth 100000
set_option
      maxHeartbeats 4000000
/-! DL0: tuples that are known to be bare (no dict of their own). -/
namespace DL
open PySem PySem.Spec
      PyProof.Rows L2
/-- a bare tuple's object -/
def Pl (o : Obj) : Prop := o.cls = .type "tuple" ∧ o.dict = none ∧ o.slots = #[]
/-- at a stands a bare tuple of vs: laid as one, or written -/
def SqP (K : PySem.W.Frag) (F : Hp) (a : Addr) (vs : List V) : Prop :=
  (∃ o, F a = some (.frz o (.tup vs)) ∧ Pl o) ∨ ∃ (o : Obj) (its : Array Value) (n : Nat), K.lookup a = some o ∧ Pl o ∧ o.data = .seq its n ∧ its.size ≤ sizeLine ∧ Vals vs its.toList
theorem SqP.sqT {K : PySem.W.Frag} {F : Hp} {a : Addr} {vs : List V} (h : SqP K F a vs) : SqT K F a vs := by
  rcases h with ⟨o, h, _⟩ | ⟨o, its, n, h1, h2, h3, h4, h5⟩
  · exact .inl (.inr ⟨o, h⟩)
  · exact .inr ⟨o, its, n, h1, h2.1, h3, h4, h5⟩
/-- what a new tuple's reader promises -/
abbrev NewT (xs : List V) (H : Hp) (Q : VK) : Prop := ∀ p o, H p = none → Pl o → Q (.ref p) (upd H p (.frz o (.tup xs)))
section
variable {X : Cx} {es : List Expr} {pos : Pos} {t : TA}
theorem Inv.bare {pins : List (Addr × Obj)} {σ : L2.St} {H : Hp} {s : Shared} {xs : List V} {us : List Value} {tk : Nat} (I : Inv X pins σ H s) (hz : xs.length ≤ sizeLine) (r : Vals xs us) :
    Inv X pins σ (upd H s.heap.objs.size (.frz { cls := .type "tuple", data := .seq us.toArray } (.tup xs))) { s with heap := s.heap.push { cls := .type "tuple", data := .seq us.toArray }, toks := tk } :=
  I.laid (fun _ _ e => Heap.get?_push_of_some _ e) (Nat.le_refl _) ⟨Heap.get?_push_size _ rfl, hz, us, r, IsTup.new _ _⟩
theorem Pl.new {us : Array Value} : Pl { cls := .type "tuple", data := .seq us } := ⟨rfl, rfl, rfl⟩
/-- a display -/
def tTupP (t : TA) : TE := fun σ H Q => t σ H fun xs H1 => xs.length ≤ sizeLine ∧ NewT xs H1 Q
theorem pe_tupP {k : Nat} (h : PA X es t) : PE X (.Tuple es k pos) (tTupP t) := by
  constructor
  intro pins s σ H Q I hq
  refine wpAny_Tuple_spliced (thn (h.run pos pins s σ H _ I hq) fun us s1 ⟨xs, H1, I1, r, z, q⟩ => ⟨r.length ▸ z, ?_⟩)
  exact ⟨.ref _, _, Inv.bare I1 z r, rfl, q _ _ (I1.hok.fresh (Nat.le_refl _)) .new⟩
/-- t + u: one of them, where the other is empty -/
def rCatP (K : PySem.W.Frag) : R2 := fun x y H Q => ∃ a b xs ys, x = .ref a ∧ y = .ref b ∧ (SqT K H a xs ∧ SqT K H b ys) ∧ xs.length + ys.length ≤ sizeLine ∧
  (xs = [] → Q (.ref b) H) ∧ (ys = [] → xs ≠ [] → Q (.ref a) H) ∧ (ys ≠ [] → xs ≠ [] → NewT (xs ++ ys) H Q)
theorem op_catP : OpR X (binaryOp .Add) (rCatP X.K) := by
  intro pins s σ H x
        y v u Q I rx ry h
  obtain ⟨a, b, xs, ys, ex, ey, ⟨ha, hb⟩, hz, q0, q1, q2⟩ := h
  by_cases hx : xs = []
  · exact op_catA pins s σ H x y v u Q I rx ry ⟨a, b, xs, ys, ex, ey, ha, hb, hz, q0, fun n => absurd hx n, fun n => absurd hx n⟩
  · by_cases hy : ys = []
    · exact op_catA pins s σ H x y v u Q I rx ry ⟨a, b, xs, ys, ex, ey, ha, hb, hz, q0, fun n m => q1 m n, fun _ n => absurd hy n⟩
    · subst ex ey
      cases rx
      cases ry
      obtain ⟨its, r, p, _⟩ := I.tuple ha
      obtain ⟨jts, r', p', _⟩ := I.tuple hb
      have l1 := r.length
      have l2 := r'.length
      refine HT.cat_tup p p' (fun z => hx (r.nil_iff.mp z)) (fun z => absurd (r'.nil_iff.mp z) hy) (fun _ => ?_) (by omega)
      exact ⟨.ref _, _, Inv.bare (tk := s.toks) I (by rw [List.length_append]; exact hz) (r.append r'), rfl, q2 hy hx _ _ (I.hok.fresh (Nat.le_refl _)) .new⟩
/-- t[lo:hi]: t itself, where it is the whole -/
def Whole (n : Nat) (lo hi : Option Int) : Prop := HT.sIx n 0 lo = 0 ∧ HT.sIx n n hi = n
def rSlP (K : PySem.W.Frag) : V → Option Int → Option Int → Hp → VK → Prop := fun x lo hi H Q => ∃ a xs, x = .ref a ∧ SqT K H a xs ∧ (Whole xs.length lo hi → Q (.ref a) H) ∧ (¬ Whole xs.length lo hi → NewT (cutV xs lo hi) H Q)
theorem sl_tupP : SlR X (rSlP X.K) := by
  intro pins s σ H x v vl vu
        lo hi sl Q I rx hs pl pu h
  obtain ⟨a, xs, ex, hx, q1, q2⟩ := h
  by_cases hw : Whole xs.length lo hi
  · exact sl_tupA pins s σ H x v vl vu lo hi sl Q I rx hs pl pu ⟨a, xs, ex, hx, q1, fun n => absurd hw n⟩
  · subst ex
    cases rx
    obtain ⟨its, r, ht,
          hz⟩ := I.tuple hx
    have hl : its.toArray.size = xs.length := by rw [List.size_toArray, r.length]
    refine ⟨"tuple", _, PyProof.Rows.slot_tuple_getitem.lookup, ht.typeIs, HT.getItem_tuple_cut ht hs pl pu (hl ▸ hw) ?_ (hl ▸ hz)⟩
    rw [hl]
    exact ⟨.ref _, _, Inv.bare (tk := s.toks) I (Nat.le_trans (cutV_length xs lo hi) hz) ((r.drop _).take _), rfl, q2 hw _ _ (I.hok.fresh (Nat.le_refl _)) .new⟩
/-- tuple(xs) -/
def rTupP (K : PySem.W.Frag) : List V → Hp → VK → Prop := fun vs H Q => ∃ p ys, vs = [.ref p] ∧ ((SqL K H p ys ∧ NewT ys H Q) ∨ (SqT K H p ys ∧ Q (.ref p) H))
theorem call_tupP : CallR X (.type "tuple") (rTupP X.K) := by
  intro pins s σ
        H vs us Q I r h
  obtain ⟨p, ys, ev, h⟩ := h
  rcases h with
        ⟨hq, q⟩ | ⟨hq, q⟩
  · subst ev
    obtain ⟨u, eu, rx⟩ := vals1 r
    subst eu
    cases rx
    obtain ⟨its, r', pl, hz⟩ := I.list hq
    have hl := r'.length
    refine call_tuple_list pl.isList (fun h' kp => ?_) (by rw [List.size_toArray]; omega)
    have I1 : Inv X pins σ H { s with heap
          := h' } := I.kept (t' := s.toks) kp
    exact ⟨.ref _, _, Inv.bare (tk := s.toks) I1 hz r', rfl, q _ _ (I1.hok.fresh (Nat.le_refl _)) .new⟩
  · exact call_tuple_of pins s σ H vs us Q I r ⟨p, ys, ev, .inr ⟨hq, q⟩⟩
theorem bare_at {pins : List (Addr × Obj)} {σ : L2.St} {H : Hp} {s : Shared} {b : Addr} {zs : List V} (I : Inv X pins σ H s) (h : SqP X.K H b zs) : ∃ (jts : List Value) (n : Nat), Vals zs jts ∧ s.heap.get? b = some { cls := .type "tuple", dict := none, data := .seq jts.toArray n, slots := #[] } := by
  rcases h with ⟨o, e, p1, p2, p3⟩ | ⟨o, its, n, e, ⟨p1, p2, p3⟩, hd, hs, r⟩
  · obtain ⟨g, _, its, r, o', e', c', n, d'⟩ := I.hok b _ e
    rw [g] at e'
    cases e'
    refine ⟨its, n, r, ?_⟩
    rw [g]
    obtain ⟨cc, dd, data, sl⟩ := o
    simp only at p1 p2 p3 d'
    subst p1 p2 p3 d'
    rfl
  · refine ⟨its.toList, n, r, ?_⟩
    rw [I.kIn b o e]
    obtain ⟨cc, dd, data, sl⟩ := o
    simp only at p1 p2 p3 hd
    subst p1 p2 p3 hd
    simp
/-- xs.extend(t) -/
def rExtT (K : PySem.W.Frag) : V → List V → Hp → VK → Prop := fun x vs H Q => ∃ l b xs zs, x = .ref l ∧ vs = [.ref b] ∧ H l = some (.lst xs) ∧ SqP K H b zs ∧ xs.length + zs.length ≤ sizeLine ∧ Q .non (upd H l (.lst (xs ++ zs)))
theorem mt_extT : MtM X "list.extend" (rExtT X.K) := by
  intro pins s σ H x
        vs v us Q I rx rv h
  obtain ⟨l, b, xs, zs, ex, ev, hH, hB, hz, q⟩ := h
  subst ex ev
  cases rx
  obtain ⟨u, eu, ru⟩ := rv.one
  subst eu
  cases ru
  obtain ⟨z, its, n, r,
        hl, e⟩ := I.lstM hH
  obtain ⟨jts, n2, r2, e2⟩ := bare_at I hB
  have l2 := r2.length
  have hsz : its.toArray.size + jts.toArray.size ≤ sizeLine := by simp only [List.size_toArray]; omega
  have hlong : ¬ (!its.toArray.isEmpty && Builtin.List.listTooLong (its.toArray.size + jts.toArray.size)) = true := fun w => by
    rw [notLongL hsz, Bool.and_false] at w
    cases w
  refine call_meets PySem.F.slot_list_extend ⟨_, e, rfl⟩ PySem.F.entry_list_extend (PySem.F.args_list_extend_2 _ _) (AutoSeq1.list_extend_list_tuple_0 l its.toArray n b jts.toArray n2 hlong (by rw [List.size_toArray]; omega) (by omega)) ?_
  refine ⟨e, e2, .non, _, I.lset (its' := its ++ jts) hH e (by simp) (r.append r2) ?_, rfl, q⟩
  rw [List.length_append]
  exact hz
/-- a method of a bare tuple -/
def tTM (K : PySem.W.Frag) (r : V → List V → Hp → VK → Prop) (to : TE) (t : TA) : TE := fun σ H Q => to σ H fun x H1 => ∃ a xs, x = .ref a ∧ SqP K H1 a xs ∧ t σ H1 fun vs H2 => r x vs H2 Q
theorem pe_tm {o e : Expr} {es : List Expr} {to : TE} {name : Str} {apos cpos : Pos} {id : String} {r : V → List V → Hp → VK → Prop} (slot : Slot "tuple" name id) (hty : typeOf (.builtin id) = pure (.type "method_descriptor")) (hm : MtR X id r) (ho : PE X o to) (ha : PA X (e :: es) t)
    (hbase : attributeBase o name X.env
          (eval o X.env) = eval o X.env := by rfl)
    (hfew : ((backTo cpos (starEach (e :: es) X.env)).all (fun x => !x.1) && (backToKw cpos (keywordEach [] X.env)).all (fun x => x.1.isSome) && decide ((e :: es).length + ([] : List Keyword).length + (if ([] : List Keyword).isEmpty then 0 else 1) < 30)) = true := by rfl)
    (hline : (apos.endLine == cpos.line) = true := by rfl) (hs : starEach (e :: es) X.env = (false, eval e X.env)
          :: starEach es X.env := by rfl) (hplain : (backTo cpos (starEach es X.env)).any (·.1) = false := by rfl) :
    PE X (.Call (.Attribute o name apos) (e :: es) [] cpos) (tTM X.K r to t) := by
  constructor
  intro pins s σ H Q I h
  refine wpAny_Call_method_late hbase hfew hline rfl (thn (ho.run pins s σ H _ I h) fun v s1 ⟨x, H1, I1, r1, a, xs, ex, hq, q1⟩ => ?_)
  subst ex
  cases r1
  obtain ⟨jts, n, _, e1⟩ := bare_at I1 hq
  refine ⟨"tuple", id, PySem.F.plainAttrs_tuple, slot, hty, ⟨_, e1, rfl⟩, fun b eb => ?_, ?_⟩
  · cases eb
    exact ⟨_, e1, rfl⟩
  · have hA := ha.run cpos pins s1 σ H1 _ I1 q1
    rw [hs] at hA ⊢
    refine Calls.callWith_builtin (by show (false || (backTo cpos (starEach es
          X.env)).any (·.1)) = false; rw [hplain] <;> rfl) (Calls.evalArgs_plain ?_)
    exact thn hA fun us s2 ⟨vs, H2, I2, r2, q2⟩ => hm
          pins s2 σ H2 (.ref a) vs (.ref a) us Q I2 rfl r2 q2
end
end DL
set_option Elab.async false
set_option linter.all false
set_option maxRecDepth 100000
set_option
      maxHeartbeats 4000000
/-! DLA: data, worlds, what a frame knows, the judgements of a data-level reading. -/
namespace DL
open PySem PySem.Spec
      PyProof.Rows L2

/-! ### data -/
inductive D where
  | non
  | bl (b : Bool)
  | int (i : Int)
  | str (x : Str)
  | tup (l : List D)
  | lst (l : List D)
  | dct (ks : List Key) (l : List D)
  | raw (v : V)
  /-- a def of the module, by its name -/
  | fn (x : Str)
  /-- what zip and enumerate give out -/
  | pr (a b : D)
  /-- a list that is read only: the script, a written list -/
  | rol (l : List D)

/-- the drawing source: its dict, its cells -/
structure Src where
  sa : Addr
  ca : Addr
  cells : List Int
  left : Int
  mixed : Int
  turn : Int
abbrev Wo := Option Src
def adr : Wo → List Addr
  | none => []
  | some w => [w.sa, w.ca]

/-- an exception: its class, its own fields -/
structure Xc where
  cls : Value
  ns : List Str
  ds : List D

inductive Slot where
  | free
  | val (d : D)
  | own (l : List D)

abbrev Rho := List Slot
inductive Rs (α : Type) where
  | ok (a : α) (ρ : Rho) (w : Wo)
  | exc (x : Xc) (ρ : Rho) (w : Wo)
abbrev M (α : Type) := Rho → Wo → Option (Rs α)
def ret {α : Type} (a : α) : M α := fun ρ w => some (.ok a ρ w)
def bnd {α β : Type} (m : M α) (k : α → M β) : M β := fun ρ w =>
  match m ρ w with
  | some (.ok a ρ' w') => k a ρ' w'
  | some (.exc x ρ' w') => some (.exc x ρ' w')
  | none => none
def lft {α : Type} (o : Option α) : M α := fun ρ w => o.map fun a => .ok a ρ w
/-- what a def's call comes to -/
inductive Fr where
  | ok (d : D) (w : Wo)
  | exc (x : Xc) (w : Wo)
abbrev Fn1 := List D → Wo → Option Fr
inductive Fl where
  | nx | br | ct | rt (d : D)

/-! ### how data lie -/
mutual
inductive Rp (K : PySem.W.Frag) (F : Hp) : V → D → Prop
  | non : Rp K F .non .non
  | bl (b : Bool) : Rp K F (.bl b) (.bl b)
  | int (i : Int) : Rp K F (.int i) (.int i)
  | str (x : Str) (h : PyData.strOk x = true) : Rp K F (.str x) (.str x)
  | tup {a : Addr} {vs : List V} {ds : List D} : SqP K F a vs → RpAll K F vs ds → Rp K F (.ref a) (.tup ds)
  | lst {a : Addr} {vs : List V} {ds : List D} : F a = some (.lst vs) → RpAll K F vs ds → Rp K F (.ref a) (.lst ds)
  | dct {a : Addr} {ks : List Key} {vs : List V} {ds : List D} : F a = some (.dK (ks.zip vs)) → ks.length = vs.length → RpAll K F vs ds → Rp K F (.ref a) (.dct ks ds)
  | raw (v : V) : Rp K F v (.raw v)
  | fn {a : Addr} (x : Str) : PySem.W.nsIn K mainGlobals x = some (some (.ref a)) → Rp K F (.ref a) (.fn x)
  | pr {a : Addr} {v u : V} {d e : D} : SqT K F a [v, u] → Rp K F v d → Rp K F u e → Rp K F (.ref a) (.pr d e)
  | rol {a : Addr} {vs : List V} {ds : List D} : SqL K F a vs → RpAll K F vs ds → Rp K F (.ref a) (.rol ds)
inductive RpAll (K : PySem.W.Frag) (F : Hp) : List V → List D → Prop
  | nil : RpAll K F [] []
  | cons {v : V} {vs : List V} {d : D} {ds : List D} : Rp K F v d → RpAll K F vs ds → RpAll K F (v :: vs) (d :: ds)
end

def Sub (F F' : Hp) : Prop := ∀ a o, F a = some o → F' a = some o
theorem Sub.refl (F : Hp) : Sub F F := fun _ _ h => h
theorem Sub.trans {F F1 F2 : Hp} (a : Sub F F1) (b : Sub F1 F2) : Sub F F2 := fun x o h => b x o (a x o h)
theorem Sub.new {F : Hp} {p : Addr} {o : HO} (h : F p = none) : Sub F (upd F p o) := fun a u e => by
  rw [upd_ne (ne_of_none e h)]
  exact e
theorem Sub.back {F F' : Hp} (s : Sub F F') {a : Addr} (h : F' a = none) : F a = none := by
  cases q : F a with
  | none => rfl
  | some o =>
    rw [s a o q] at h
    cases h
section
variable {K : PySem.W.Frag} {F F' : Hp}
theorem Sub.rd {a : Addr} {u : HO} (s : Sub F F') (h : Rd F a u) : Rd F' a u := by
  rcases h with h | ⟨o, h⟩
  · exact .inl (s _ _ h)
  · exact .inr ⟨o, s _ _ h⟩
theorem Sub.sqT {a : Addr} {xs : List V} (s : Sub F F') (h : SqT K F a xs) : SqT K F' a xs := by
  rcases h with h | h
  · exact .inl (s.rd h)
  · exact .inr h
theorem Sub.sqP {a : Addr} {xs : List V} (s : Sub F F') (h : SqP K F a xs) : SqP K F' a xs := by
  rcases h with ⟨o, h, p⟩ | h
  · exact .inl ⟨o, s _ _ h, p⟩
  · exact .inr h
theorem Sub.sqL {a : Addr} {xs : List V} (s : Sub F F') (h : SqL K F a xs) : SqL K F' a xs := by
  rcases h with h | h
  · exact .inl (s.rd h)
  · exact .inr h
mutual
theorem Rp.mono (s : Sub F F') : ∀ (d : D) (v : V), Rp K F v d → Rp K F' v d
  | .non, _, h => by cases h; exact .non
  | .bl _, _, h => by cases h; exact .bl _
  | .int _, _, h => by cases h; exact .int _
  | .str _, _, h => by
    cases h with
    | str _ g => exact .str _ g
  | .tup ds, _, h => by
    cases h with
    | tup h1 h2 => exact .tup (s.sqP h1) (RpAll.mono s ds _ h2)
  | .lst ds, _, h => by
    cases h with
    | lst h1 h2 => exact .lst (s _ _ h1) (RpAll.mono s ds _ h2)
  | .dct ks ds, _, h => by
    cases h with
    | dct h1 h2 h3 => exact .dct (s _ _ h1) h2 (RpAll.mono s ds _ h3)
  | .raw v, _, h => by cases h; exact .raw _
  | .fn x, _, h => by
    cases h with
    | fn _ g => exact .fn x g
  | .pr d e, _, h => by
    cases h with
    | pr h1 h2 h3 => exact .pr (s.sqT h1) (Rp.mono s d _ h2) (Rp.mono s e _ h3)
  | .rol ds, _, h => by
    cases h with
    | rol h1 h2 => exact .rol (s.sqL h1) (RpAll.mono s ds _ h2)
theorem RpAll.mono (s : Sub F F') : ∀ (ds : List D) (vs : List V), RpAll K F vs ds → RpAll K F' vs ds
  | [], _, h => by cases h; exact .nil
  | d :: ds, _, h => by
    cases h with
    | cons h1 h2 => exact .cons (Rp.mono s d _ h1) (RpAll.mono s ds _ h2)
end
theorem Rp.up {d : D} {v : V} (h : Rp K F v d) (s : Sub F F') : Rp K F' v d := Rp.mono s d v h
theorem RpAll.up {ds : List D} {vs : List V} (h : RpAll K F vs ds) (s : Sub F F') : RpAll K F' vs ds := RpAll.mono s ds vs h
theorem RpAll.length : ∀ {ds : List D} {vs : List V}, RpAll K F vs ds → vs.length = ds.length
  | [], _, h => by cases h; rfl
  | d :: ds, _, h => by
    cases h with
    | cons h1 h2 => simp [RpAll.length h2]
theorem RpAll.get : ∀ {ds : List D} {vs : List V} {i : Nat} {d : D}, RpAll K F vs ds → ds[i]? = some d → ∃ v, vs[i]? = some v ∧ Rp K F v d
  | [], _, i, d, h, e => by simp at e
  | x :: ds, _, i, d, h, e => by
    cases h with
    | cons h1 h2 =>
      cases i with
      | zero => cases e; exact ⟨_, rfl, h1⟩
      | succ i => exact RpAll.get (i := i) h2 e
theorem RpAll.append : ∀ {ds es : List D} {vs us : List V}, RpAll K F vs ds → RpAll K F us es → RpAll K F (vs ++ us) (ds ++ es)
  | [], _, _, _, h, g => by cases h; exact g
  | d :: ds, _, _, _, h, g => by
    cases h with
    | cons h1 h2 => exact .cons h1 (RpAll.append h2 g)
theorem RpAll.take : ∀ {ds : List D} {vs : List V} (n : Nat), RpAll K F vs ds → RpAll K F (vs.take n) (ds.take n)
  | _, _, 0, _ => .nil
  | [], _, n + 1, h => by cases h; exact .nil
  | d :: ds, _, n + 1, h => by
    cases h with
    | cons h1 h2 => exact .cons h1 (RpAll.take n h2)
theorem RpAll.drop : ∀ {ds : List D} {vs : List V} (n : Nat), RpAll K F vs ds → RpAll K F (vs.drop n) (ds.drop n)
  | _, _, 0, h => h
  | [], _, n + 1, h => by cases h; exact .nil
  | d :: ds, _, n + 1, h => by
    cases h with
    | cons h1 h2 => exact RpAll.drop n h2
theorem RpAll.reverse {ds : List D} {vs : List V} (h : RpAll K F vs ds) : RpAll K F vs.reverse ds.reverse := by
  induction ds generalizing vs with
  | nil => cases h; exact .nil
  | cons d ds ih =>
    cases h with
    | cons h1 h2 =>
      rw [List.reverse_cons,
            List.reverse_cons]
      exact (ih h2).append (.cons h1 .nil)
theorem RpAll.eraseIdx : ∀ {ds : List D} {vs : List V} (n : Nat), RpAll K F vs ds → RpAll K F (vs.eraseIdx n) (ds.eraseIdx n)
  | [], _, _, h => by cases h; exact .nil
  | d :: ds, _, 0, h => by
    cases h with
    | cons h1 h2 => exact h2
  | d :: ds, _, n + 1, h => by
    cases h with
    | cons h1 h2 => exact .cons h1 (RpAll.eraseIdx n h2)
theorem RpAll.dropLast {ds : List D} {vs : List V} (h : RpAll K F vs ds) : RpAll K F vs.dropLast ds.dropLast := by
  rw [List.dropLast_eq_take, List.dropLast_eq_take, h.length]
  exact h.take _
theorem RpAll.getBack : ∀ {ds : List D} {vs : List V} {i : Nat} {v : V}, RpAll K F vs ds → vs[i]? = some v → ∃ d, ds[i]? = some d ∧ Rp K F v d
  | [], _, i, d, h, e => by cases h; simp at e
  | x :: ds, _, i, d, h, e => by
    cases h with
    | cons h1 h2 =>
      cases i with
      | zero => cases e; exact ⟨_, rfl, h1⟩
      | succ i => exact RpAll.getBack (i := i) h2 e
end

/-! ### what a frame knows -/
/-- the entry -/
structure Bs where
  K : PySem.W.Frag
  H : Hp
  F : Hp
  w : Wo
def srcK (w : Src) : List (Key × V) := [(.inr "cells", .ref w.ca), (.inr "left", .int w.left), (.inr "mixed", .int w.mixed), (.inr "turn", .int w.turn)]
def WdOk (F : Hp) (H : Hp) : Wo → Prop
  | none => True
  | some w => F w.sa = none ∧ F w.ca = none ∧ w.sa ≠ w.ca ∧ H w.sa = some (.dK (srcK w)) ∧ H w.ca = some (.lst (w.cells.map V.int))
theorem WdOk.there {F H : Hp} {w : Wo} (x : WdOk F H w) {a : Addr} (h : a ∈ adr w) : F a = none ∧ ∃ o, H a = some o := by
  cases w with
  | none => cases h
  | some w =>
    obtain ⟨h1, h2, h3, h4, h5⟩ := x
    have h : a ∈ [w.sa, w.ca] := h
    rcases List.mem_cons.mp
          h with e | e
    · subst e; exact ⟨h1, _, h4⟩
    · rcases List.mem_cons.mp
          e with e | e
      · subst e; exact ⟨h2, _, h5⟩
      · cases e
/-- from one heap to a later one: what was there but the world is as it was; what is newly frozen was not there; the world's addresses are the same, or new -/
structure Goes (H : Hp) (F : Hp) (w : Wo) (H' F' : Hp) (w' : Wo) : Prop where
  sub : Sub F F'
  keep : ∀ a o, H a = some o → a ∉ adr w → H' a = some o
  frs : ∀ a o, F' a = some o → F a = some o ∨ H a = none
  old : ∀ a, a ∈ adr w → a ∈ adr w'
  new : ∀ a, a ∈ adr w' → a ∈ adr w ∨ H a = none
theorem Goes.refl (H F : Hp) (w : Wo) : Goes H F w H F w := ⟨Sub.refl _, fun _ _ h _ => h, fun _ _ h => .inl h, fun _ h => h, fun _ h => .inl h⟩
theorem Goes.back {H F H1 F1 : Hp} {w w1 : Wo} (k : WdOk F1 H1 w1) (a : Goes H F w H1 F1 w1) {x : Addr} (e : H1 x = none) : H x = none := by
  cases q : H x with
  | none => rfl
  | some o =>
    by_cases hx : x ∈ adr w
    · obtain ⟨_, o', h⟩ := k.there (a.old x hx)
      rw [e] at h
      cases h
    · rw [a.keep x o q hx] at e
      cases e
theorem Goes.trans {H F H1 F1 H2 F2 : Hp} {w w1 w2 : Wo} (k : WdOk F1 H1 w1) (a : Goes H F w H1 F1 w1) (b : Goes H1 F1 w1 H2 F2 w2) : Goes H F w H2 F2 w2 :=
  ⟨a.sub.trans b.sub, fun x o h n => b.keep x o (a.keep x o h n) (fun z => (a.new x z).elim n (fun q => by rw [h] at q; cases q)), fun x o h => (b.frs x o h).elim (fun q => a.frs x o q) (fun q => .inr (a.back k q)),
    fun x h => b.old x (a.old x h), fun x h => (b.new x h).elim (fun q => a.new x q) (fun q => .inr (a.back k q))⟩

/-- a frame's state: B its entry, F what is frozen, ρ its slots, w the world; σ, H: the layer's own -/
structure Ok (B : Bs) (F : Hp) (ρ : Rho) (w : Wo) (σ : L2.St) (H : Hp) : Prop where
  sub : Sub F H
  go : Goes B.H B.F B.w H F w
  wd : WdOk F H w
  len : σ.length = ρ.length
  val : ∀ (i : Nat) (d : D), ρ[i]? = some (Slot.val d) → ∃ v, σ[i]? = some (some v) ∧ Rp B.K F v d
  own : ∀ (i : Nat) (ds : List D), ρ[i]? = some (Slot.own ds) → ∃ (a : Addr) (vs : List V), σ[i]? = some (some (.ref a)) ∧ H a = some (.lst vs) ∧ F a = none ∧ B.H a = none ∧ a ∉ adr w ∧ RpAll B.K F vs ds
  inj : ∀ (i j : Nat) (a : Addr) (di dj : List D), ρ[i]? = some (Slot.own di) → ρ[j]? = some (Slot.own dj) → σ[i]? = some (some (.ref a)) → σ[j]? = some (some (.ref a)) → i = j

/-- an address that a frame may lay anew -/
theorem Ok.fresh {B : Bs} {F : Hp} {ρ : Rho} {w : Wo} {σ : L2.St} {H : Hp} (k : Ok B F ρ w σ H) {p : Addr} (h : H p = none) : B.H p = none ∧ F p = none ∧ p ∉ adr w := by
  refine ⟨k.go.back k.wd h, k.sub.back h, fun z => ?_⟩
  obtain ⟨_, o, e⟩ := k.wd.there z
  rw [h] at e
  cases e
theorem wd_upd {F H F' : Hp} {w : Wo} {p : Addr} {o : HO} (k : WdOk F H w) (hp : p ∉ adr w) (hF : ∀ a, a ≠ p → F' a = F a) : WdOk F' (upd H p o) w := by
  cases w with
  | none => trivial
  | some w =>
    obtain ⟨h1, h2, h3, h4, h5⟩ := k
    have n1 : w.sa ≠ p := fun e => hp (by rw [← e]; exact List.mem_cons_self)
    have n2 : w.ca ≠ p := fun e => hp (by rw [← e]; exact List.mem_cons_of_mem _ List.mem_cons_self)
    exact ⟨by rw [hF _ n1]; exact h1, by rw [hF _ n2]; exact h2, h3, by rw [upd_ne n1]; exact h4, by rw [upd_ne n2]; exact h5⟩
/-- a new frozen object -/
theorem Ok.laid {B : Bs} {F : Hp} {ρ : Rho} {w : Wo} {σ : L2.St} {H : Hp} (k : Ok B F ρ w σ H) {p : Addr} (h : H p = none) (o : HO) : Sub F (upd F p o) ∧ Ok B (upd F p o) ρ w σ (upd H p o) := by
  obtain ⟨h0, hF, hw⟩ := k.fresh h
  have s : Sub F (upd F p o) := .new hF
  refine ⟨s, ⟨fun a u e => ?_, ⟨k.go.sub.trans s, fun a u e n => ?_, fun a u e => ?_, k.go.old, k.go.new⟩, wd_upd k.wd hw fun a n => upd_ne n, k.len, fun i d e => ?_, fun i ds e => ?_, k.inj⟩⟩
  · by_cases ha : a = p
    · subst ha
      rw [upd_same] at e ⊢
      exact e
    · rw [upd_ne ha] at e ⊢
      exact k.sub a u e
  · rw [upd_ne (fun z => by rw [z, h0] at e; cases e)]
    exact k.go.keep a u e n
  · by_cases ha : a = p
    · subst ha; exact .inr h0
    · rw [upd_ne ha] at e
      exact k.go.frs a u e
  · obtain ⟨v, h1, h2⟩ := k.val i d e
    exact ⟨v, h1, h2.up s⟩
  · obtain ⟨a, vs, h1, h2, h3, h4, h5, h6⟩ := k.own i ds e
    have n : a ≠ p := ne_of_none h2 h
    exact ⟨a, vs, h1, by rw [upd_ne n]; exact h2, by rw [upd_ne n]; exact h3, h4, h5, h6.up s⟩
/-- what is known of a new list that nobody holds yet -/
structure New (B : Bs) (F : Hp) (ρ : Rho) (w : Wo) (σ : L2.St) (H : Hp) (a : Addr) (ds : List D) : Prop where
  at' : ∃ vs, H a = some (.lst vs) ∧ RpAll B.K F vs ds
  nF : F a = none
  n0 : B.H a = none
  nw : a ∉ adr w
  ns : ∀ (i : Nat) (ds : List D), ρ[i]? = some (Slot.own ds) → σ[i]? ≠ some (some (.ref a))
/-- a new list laid, held by nobody -/
theorem Ok.newL {B : Bs} {F : Hp} {ρ : Rho} {w : Wo} {σ : L2.St} {H : Hp} (k : Ok B F ρ w σ H) {p : Addr} (h : H p = none) {vs : List V} {ds : List D} (r : RpAll B.K F vs ds) : Ok B F ρ w σ (upd H p (.lst vs)) ∧ New B F ρ w σ (upd H p (.lst vs)) p ds := by
  obtain ⟨h0, hF, hw⟩ := k.fresh h
  refine ⟨⟨fun a u e => ?_, ⟨k.go.sub, fun a u e n => ?_, k.go.frs, k.go.old, k.go.new⟩, wd_upd k.wd hw fun a n => rfl, k.len, k.val, fun i ds e => ?_, k.inj⟩, ⟨⟨vs, upd_same, r⟩, hF, h0, hw, fun i ds e z => ?_⟩⟩
  · rw [upd_ne (fun z => by rw [z, hF] at e; cases e)]
    exact k.sub a u e
  · rw [upd_ne (fun z => by rw [z, h0] at e; cases e)]
    exact k.go.keep a u e n
  · obtain ⟨a, vs, h1, h2, h3, h4, h5, h6⟩ := k.own i ds e
    exact ⟨a, vs, h1, by rw [upd_ne (ne_of_none h2 h)]; exact h2, h3, h4, h5, h6⟩
  · obtain ⟨a, vs, h1, h2, _⟩ := k.own i ds e
    rw [h1] at z
    cases z
    rw [h] at h2
    cases h2
/-- it is frozen -/
theorem Ok.freeze {B : Bs} {F : Hp} {ρ : Rho} {w : Wo} {σ : L2.St} {H : Hp} (k : Ok B F ρ w σ H) {a : Addr} {ds : List D} (n : New B F ρ w σ H a ds) : ∃ F', Sub F F' ∧ Ok B F' ρ w σ H ∧ Rp B.K F' (.ref a) (.lst ds) := by
  obtain ⟨⟨vs, h, r⟩, hF, h0, hw, hs⟩ := n
  have s : Sub F (upd F a (.lst vs)) := .new hF
  refine ⟨_, s, ⟨fun b u e => ?_, ⟨k.go.sub.trans s, k.go.keep, fun b u e => ?_, k.go.old, k.go.new⟩, ?_, k.len, fun i d e => ?_, fun i ds e => ?_, k.inj⟩, .lst upd_same (r.up s)⟩
  · by_cases hb : b = a
    · subst hb
      rw [upd_same] at e
      rw [h]
      exact e
    · rw [upd_ne hb] at e
      exact k.sub b u e
  · by_cases hb : b = a
    · subst hb; exact .inr h0
    · rw [upd_ne hb] at e
      exact k.go.frs b u e
  · have k2 := k.wd
    cases w with
    | none => trivial
    | some w =>
      obtain ⟨g1, g2, g3, g4, g5⟩ := k2
      have n1 : w.sa ≠ a := fun e => hw (by rw [← e]; exact List.mem_cons_self)
      have n2 : w.ca ≠ a := fun e => hw (by rw [← e]; exact List.mem_cons_of_mem _ List.mem_cons_self)
      exact ⟨by rw [upd_ne n1]; exact g1, by rw [upd_ne n2]; exact g2, g3, g4, g5⟩
  · obtain ⟨v, h1, h2⟩ := k.val i d e
    exact ⟨v, h1, h2.up s⟩
  · obtain ⟨b, us, h1, h2, h3, h4, h5, h6⟩ := k.own i ds e
    have nb : b ≠ a := fun z => hs i ds e (by rw [h1, z])
    exact ⟨b, us, h1, h2, by rw [upd_ne nb]; exact h3, h4, h5, h6.up s⟩
section
variable {B : Bs} {F : Hp} {ρ : Rho} {w : Wo} {σ : L2.St} {H : Hp}
theorem get_set_self {α : Type} {l : List α} {i : Nat} {x y : α} (h : (l.set i x)[i]? = some y) : x = y ∧ i < l.length := by
  rw [List.getElem?_set] at h
  simp at h
  exact ⟨h.2, h.1⟩
theorem get_set_ne {α : Type} {l : List α} {i j : Nat} {x y : α} (n : i ≠ j) (h : (l.set i x)[j]? = some y) : l[j]? = some y := by
  rw [List.getElem?_set_ne n] at h
  exact h
/-- a slot takes a value -/
theorem Ok.setV (k : Ok B F ρ w σ H) {v : V} {d : D} (i : Nat) (r : Rp B.K F v d) : Ok B F (ρ.set i (.val d)) w (σ.set i (some v)) H := by
  refine ⟨k.sub, k.go, k.wd, by rw [List.length_set, List.length_set]; exact k.len, fun j e h => ?_, fun j e h => ?_, fun j l a dj dl h1 h2 h3 h4 => ?_⟩
  · by_cases hj : i = j
    · subst hj
      obtain ⟨q, hi⟩ := get_set_self h
      cases q
      exact ⟨v, by rw [List.getElem?_set_self (by rw [k.len]; exact hi)], r⟩
    · obtain ⟨u, h1, h2⟩ := k.val j e (get_set_ne hj h)
      exact ⟨u, by rw [List.getElem?_set_ne hj]; exact h1, h2⟩
  · by_cases hj : i = j
    · subst hj
      obtain ⟨q, _⟩ := get_set_self h
      cases q
    · obtain ⟨a, vs, h1, h2⟩ := k.own j e (get_set_ne hj h)
      exact ⟨a, vs, by rw [List.getElem?_set_ne hj]; exact h1, h2⟩
  · have n1 : i ≠ j := fun z => by
      subst z
      obtain ⟨q, _⟩ := get_set_self h1
      cases q
    have n2 : i ≠ l := fun z => by
      subst z
      obtain ⟨q, _⟩ := get_set_self h2
      cases q
    rw [List.getElem?_set_ne n1] at h3
    rw [List.getElem?_set_ne n2] at h4
    exact k.inj j l a dj dl (get_set_ne n1 h1) (get_set_ne n2 h2) h3 h4
/-- a slot takes a new list -/
theorem Ok.setN (k : Ok B F ρ w σ H) {a : Addr} {ds : List D} (i : Nat) (n : New B F ρ w σ H a ds) : Ok B F (ρ.set i (.own ds)) w (σ.set i (some (.ref a))) H := by
  obtain ⟨⟨vs, h, r⟩, hF, h0, hw, hs⟩ := n
  refine ⟨k.sub, k.go, k.wd, by rw [List.length_set, List.length_set]; exact k.len, fun j e h => ?_, fun j e g => ?_, fun j l b dj dl h1 h2 h3 h4 => ?_⟩
  · by_cases hj : i = j
    · subst hj
      obtain ⟨q, hi⟩ := get_set_self h
      cases q
    · obtain ⟨u, h1, h2⟩ := k.val j e (get_set_ne hj h)
      exact ⟨u, by rw [List.getElem?_set_ne hj]; exact h1, h2⟩
  · by_cases hj : i = j
    · subst hj
      obtain ⟨q, hi⟩ := get_set_self g
      cases q
      exact ⟨a, vs, by rw [List.getElem?_set_self (by rw [k.len]; exact hi)], h, hF, h0, hw, r⟩
    · obtain ⟨a, vs, h1, h2⟩ := k.own j e (get_set_ne hj g)
      exact ⟨a, vs, by rw [List.getElem?_set_ne hj]; exact h1, h2⟩
  · by_cases n1 : i = j
    · by_cases n2 : i = l
      · rw [← n1, ← n2]
      · exfalso
        subst n1
        obtain ⟨_, hi⟩ := get_set_self h1
        rw [List.getElem?_set_self (by rw [k.len]; exact hi)] at h3
        rw [List.getElem?_set_ne n2] at h4
        cases h3
        exact hs l dl (get_set_ne n2 h2) h4
    · by_cases n2 : i = l
      · exfalso
        subst n2
        obtain ⟨_, hi⟩ := get_set_self h2
        rw [List.getElem?_set_self (by rw [k.len]; exact hi)] at h4
        rw [List.getElem?_set_ne n1] at h3
        cases h4
        exact hs j dj (get_set_ne n1 h1) h3
      · rw [List.getElem?_set_ne n1] at h3
        rw [List.getElem?_set_ne n2] at h4
        exact k.inj j l b dj dl (get_set_ne n1 h1) (get_set_ne n2 h2) h3 h4
/-- a slot's own list is frozen; the slot keeps it as a value -/
theorem Ok.freezeAt (k : Ok B F ρ w σ H) {i : Nat} {ds : List D} (e : ρ[i]? = some (.own ds)) : ∃ v F', σ[i]? = some (some v) ∧ Sub F F' ∧ Ok B F' (ρ.set i (.val (.lst ds))) w σ H ∧ Rp B.K F' v (.lst ds) := by
  obtain ⟨a, vs, h1, h2, h3, h4, h5, h6⟩ := k.own i ds e
  have hi : i < σ.length := (List.getElem?_eq_some_iff.mp h1).1
  have hi2 : i < ρ.length := (List.getElem?_eq_some_iff.mp e).1
  have ns : ∀ (j : Nat) (dj : List D), (ρ.set i Slot.free)[j]? = some (Slot.own dj) → σ[j]? ≠ some (some (V.ref a)) := fun j dj g z => by
    by_cases hj : i = j
    · subst hj
      obtain ⟨q, _⟩ := get_set_self g
      cases q
    · exact hj (k.inj i j a ds dj e (get_set_ne hj g) h1 z)
  have k0 : Ok B F (ρ.set i Slot.free) w σ H := by
    refine ⟨k.sub, k.go, k.wd, by rw [List.length_set]; exact k.len, fun j e h => ?_, fun j e h => ?_, fun j l a dj dl h1 h2 h3 h4 => ?_⟩
    · by_cases hj : i = j
      · subst hj
        obtain ⟨q, _⟩ := get_set_self h
        cases q
      · exact k.val j e (get_set_ne hj h)
    · by_cases hj : i = j
      · subst hj
        obtain ⟨q, _⟩ := get_set_self h
        cases q
      · exact k.own j e (get_set_ne hj h)
    · have n1 : i ≠ j := fun z => by
        subst z
        obtain ⟨q, _⟩ := get_set_self h1
        cases q
      have n2 : i ≠ l := fun z => by
        subst z
        obtain ⟨q, _⟩ := get_set_self h2
        cases q
      exact k.inj j l a dj dl (get_set_ne n1 h1) (get_set_ne n2 h2) h3 h4
  obtain ⟨F', s, k', r⟩ := k0.freeze ⟨⟨vs, h2, h6⟩, h3, h4, h5, ns⟩
  refine ⟨_, F', h1, s, ?_, r⟩
  have k2 := k'.setV i r
  rw [List.set_set] at k2
  have es : σ.set i (some (V.ref a)) = σ := by
    apply List.ext_getElem?
    intro j
    by_cases hj : i = j
    · subst hj
      rw [List.getElem?_set_self hi, h1]
    · rw [List.getElem?_set_ne hj]
  rw [es] at k2
  exact k2
/-- a slot's own list is changed -/
theorem Ok.change (k : Ok B F ρ w σ H) {i : Nat} {ds es : List D} {a : Addr} {us : List V} (e : ρ[i]? = some (.own ds)) (h : σ[i]? = some (some (.ref a))) (r : RpAll B.K F us es) : Ok B F (ρ.set i (.own es)) w σ (upd H a (.lst us)) := by
  obtain ⟨a', vs, h1, h2, h3, h4, h5, h6⟩ := k.own i ds e
  rw [h] at h1
  cases h1
  have hi2 : i < ρ.length := (List.getElem?_eq_some_iff.mp e).1
  refine ⟨fun b u g => ?_, ⟨k.go.sub, fun b u g n => ?_, k.go.frs, k.go.old, k.go.new⟩, wd_upd k.wd h5 fun _ _ => rfl, by rw [List.length_set]; exact k.len, fun j d g => ?_, fun j d g => ?_, fun j l b dj dl g1 g2 g3 g4 => ?_⟩
  · rw [upd_ne (fun z => by rw [z, h3] at g; cases g)]
    exact k.sub b u g
  · rw [upd_ne (fun z => by rw [z, h4] at g; cases g)]
    exact k.go.keep b u g n
  · by_cases hj : i = j
    · subst hj
      obtain ⟨q, _⟩ := get_set_self g
      cases q
    · exact k.val j d (get_set_ne hj g)
  · by_cases hj : i = j
    · subst hj
      obtain ⟨q, _⟩ := get_set_self g
      cases q
      exact ⟨a, us, h, upd_same, h3, h4, h5, r⟩
    · obtain ⟨b, ws, g1, g2, g3, g4, g5, g6⟩ := k.own j d (get_set_ne hj g)
      have nb : b ≠ a := fun z => hj (k.inj i j a ds d e (get_set_ne hj g) h (by rw [g1, z]))
      exact ⟨b, ws, g1, by rw [upd_ne nb]; exact g2, g3, g4, g5, g6⟩
  · have own' : ∀ (j : Nat) (dj : List D), (ρ.set i (Slot.own es))[j]? = some (Slot.own dj) → ∃ dj', ρ[j]? = some (Slot.own dj') := fun j dj g => by
      by_cases hj : i = j
      · subst hj; exact ⟨ds, e⟩
      · exact ⟨dj, get_set_ne hj g⟩
    obtain ⟨d1, e1⟩ := own' j dj g1
    obtain ⟨d2, e2⟩ := own' l dl g2
    exact k.inj j l b d1 d2 e1 e2 g3 g4
end
end DL
set_option Elab.async false
set_option linter.all false
set_option maxRecDepth 100000
set_option
      maxHeartbeats 4000000
/-! DLB: the judgements; names, constants, operators. -/
namespace DL
open PySem PySem.Spec
      PyProof.Rows L2

/-- what must follow a run that comes to r -/
def Post {α β : Type} (B : Bs) (W : WX) (R : Hp → β → α → Prop) (r : Rs α) (F : Hp) (σ : L2.St) (Q : β → Hp → Prop) : Prop :=
  match r with
  | .ok a ρ w => ∀ b F' H', Sub F F' → Ok B F' ρ w σ H' → R F' b a → Q b H'
  | .exc x ρ w => ∀ d F' H', Sub F F' → Ok B F' ρ w σ H' → (x.ns = [] ∧ d = none ∨ ∃ p vs, d = some p ∧ H' p = some (.xd (x.ns.zip vs)) ∧ x.ns.length = vs.length ∧ RpAll B.K F' vs x.ds) → W x.cls d σ H'
theorem Post.imp {α β : Type} {B : Bs} {W : WX} {R : Hp → β → α → Prop} {r : Rs α} {F F1 : Hp} {σ : L2.St} {Q : β → Hp → Prop} (s : Sub F F1) (p : Post B W R r F σ Q) : Post B W R r F1 σ Q := by
  cases r with
  | ok a ρ w => exact fun b F' H' s' k h => p b F' H' (s.trans s') k h
  | exc x ρ w => exact fun d F' H' s' k h => p d F' H' (s.trans s') k h
abbrev TX (β : Type) := L2.St → Hp → (β → Hp → Prop) → Prop
def Sim {α β : Type} (B : Bs) (W : WX) (R : Hp → β → α → Prop) (t : TX β) (m : M α) : Prop :=
  ∀ ρ w r, m ρ w = some r → ∀ F σ H, Ok B F ρ w σ H → ∀ Q, Post B W R r F σ Q → t σ H Q
abbrev RV (B : Bs) : Hp → V → D → Prop := fun F v d => Rp B.K F v d
abbrev RA (B : Bs) : Hp → List V → List D → Prop := fun F v d => RpAll B.K F v d
abbrev RB : Hp → Bool → Bool → Prop := fun _ b a => b = a

/-- one after the other: the first one's value is at hand in the second one -/
theorem Sim.bnd {α α' β β' : Type} {B : Bs} {W : WX} {R : Hp → β → α → Prop} {R' : Hp → β' → α' → Prop} {t : TX β} {m : M α} {k : α → M α'} {tk : β → TX β'}
    (ha : Sim B W R t m) (hk : ∀ a ρ w r, k a ρ w = some r → ∀ b F σ H, Ok B F ρ w σ H → R F b a → ∀ Q, Post B W R' r F σ Q → tk b σ H Q) : Sim B W R' (fun σ H Q => t σ H fun b H1 => tk b σ H1 Q) (bnd m k) := by
  intro ρ w r hr F σ H ok Q p
  unfold DL.bnd at hr
  cases h : m ρ w with
  | none => rw [h] at hr; cases hr
  | some r1 =>
    rw [h] at hr
    cases r1 with
    | ok a ρ1 w1 => exact ha ρ w _ h F σ H ok _ fun b F' H' s ok' h' => hk a ρ1 w1 r hr b F' σ H' ok' h' Q (p.imp s)
    | exc x ρ1 w1 =>
      cases hr
      exact ha ρ w _ h F σ H ok _ fun d F' H' s ok' h' => p d F' H' s ok' h'

/-- the same from frames of which P holds -/
def SimP {α β : Type} (B : Bs) (W : WX) (P : Hp → Prop) (R : Hp → β → α → Prop) (t : TX β) (m : M α) : Prop :=
  ∀ ρ w r, m ρ w = some r → ∀ F σ H, Ok B F ρ w σ H → P F → ∀ Q, Post B W R r F σ Q → t σ H Q
def Mono (P : Hp → Prop) : Prop := ∀ F F', Sub F F' → P F → P F'
theorem Mono.triv : Mono fun _ => True := fun _ _ _ h => h
theorem Mono.rp {K : PySem.W.Frag} {v : V} {d : D} : Mono fun F => Rp K F v d := fun _ _ s h => h.up s
theorem Mono.rps {K : PySem.W.Frag} {v : List V} {d : List D} : Mono fun F => RpAll K F v d := fun _ _ s h => h.up s
theorem Mono.and {P P' : Hp → Prop} (a : Mono P) (b : Mono P') : Mono fun F => P F ∧ P' F := fun F F' s h => ⟨a F F' s h.1, b F F' s h.2⟩
theorem SimP.bnd {α α' β β' : Type} {B : Bs} {W : WX} {P : Hp → Prop} {R : Hp → β → α → Prop} {R' : Hp → β' → α' → Prop} {t : TX β} {m : M α} {k : α → M α'} {tk : β → TX β'} (hP : Mono P)
    (ha : Sim B W R t m) (hk : ∀ a b, SimP B W (fun F => P F ∧ R F b a) R' (tk b) (k a)) : SimP B W P R' (fun σ H Q => t σ H fun b H1 => tk b σ H1 Q) (bnd m k) := by
  intro ρ w r hr F σ H ok hp Q p
  unfold DL.bnd at hr
  cases h : m ρ w with
  | none => rw [h] at hr; cases hr
  | some r1 =>
    rw [h] at hr
    cases r1 with
    | ok a ρ1 w1 => exact ha ρ w _ h F σ H ok _ fun b F' H' s ok' h' => hk a b ρ1 w1 r hr F' σ H' ok' ⟨hP F F' s hp, h'⟩ Q (p.imp s)
    | exc x ρ1 w1 =>
      cases hr
      exact ha ρ w _ h F σ H ok _ fun d F' H' s ok' h' => p d F' H' s ok' h'
theorem SimP.top {α β : Type} {B : Bs} {W : WX} {R : Hp → β → α → Prop} {t : TX β} {m : M α} (h : SimP B W (fun _ => True) R t m) : Sim B W R t m := fun ρ w r hr F σ H ok Q p => h ρ w r hr F σ H ok trivial Q p
theorem Sim.p {α β : Type} {B : Bs} {W : WX} {P : Hp → Prop} {R : Hp → β → α → Prop} {t : TX β} {m : M α} (h : Sim B W R t m) : SimP B W P R t m := fun ρ w r hr F σ H ok _ Q p => h ρ w r hr F σ H ok Q p

/-- an operation on values that the frame knows -/
def OpS (B : Bs) (W : WX) (r : R2) (f : D → D → M D) : Prop :=
  ∀ dx dy ρ w res, f dx dy ρ w = some res → ∀ F σ H x y, Ok B F ρ w σ H → Rp B.K F x dx → Rp B.K F y dy → ∀ Q, Post B W (RV B) res F σ Q → r x y H Q
theorem sim_op {B : Bs} {W : WX} {ta tb : TE} {ma mb : M D} {r : R2} {f : D → D → M D} (ha : Sim B W (RV B) ta ma) (hb : Sim B W (RV B) tb mb) (hr : OpS B W r f) : Sim B W (RV B) (tOp r ta tb) (bnd ma fun a => bnd mb fun b => f a b) := by
  intro ρ w res hres F σ H ok Q p
  refine (Sim.bnd (R' := RV B) (tk := fun x σ H Q => tb σ H fun y H2 => r x y H2 Q) ha fun a ρ1 w1 r1 hr1 x F1 σ1 H1 ok1 rx Q1 p1 => ?_) ρ w res hres F σ H ok Q p
  unfold DL.bnd at hr1
  cases h : mb ρ1 w1 with
  | none => rw [h] at hr1; cases hr1
  | some r2 =>
    rw [h] at hr1
    cases r2 with
    | ok b ρ2 w2 => exact hb ρ1 w1 _ h F1 σ1 H1 ok1 _ fun y F2 H2 s2 ok2 ry => hr a b ρ2 w2 r1 hr1 F2 σ1 H2 x y ok2 (rx.up s2) ry Q1 (p1.imp s2)
    | exc z ρ2 w2 =>
      cases hr1
      exact hb ρ1 w1 _ h F1 σ1 H1 ok1 _ fun d F2 H2 s2 ok2 q => p1 d F2 H2 s2 ok2 q
/-- a pure one: nothing is laid -/
theorem OpS.pure {B : Bs} {W : WX} {r : R2} {f : D → D → Option D} (h : ∀ dx dy d, f dx dy = some d → ∀ (F H : Hp) x y, Sub F H → Rp B.K F x dx → Rp B.K F y dy → ∀ Q : VK, (∀ v, Rp B.K F v d → Q v H) → r x y H Q) : OpS B W r fun a b => lft (f a b) := by
  intro dx dy ρ w res hres F σ H x y ok rx ry Q p
  have hres : (f dx dy).map (fun a => Rs.ok a ρ w) = some res := hres
  cases e : f dx dy with
  | none => rw [e] at hres; cases hres
  | some d =>
    rw [e] at hres
    cases hres
    exact h dx dy d e F H x y ok.sub rx ry Q fun v rv => p v F H (Sub.refl F) ok rv
/-- one that may lay a new tuple -/
theorem OpS.tup {B : Bs} {W : WX} {r : R2} {f : D → D → Option D} (h : ∀ dx dy d, f dx dy = some d → ∀ (F H : Hp) x y, Sub F H → Rp B.K F x dx → Rp B.K F y dy → ∀ Q : VK, (∀ v, Rp B.K F v d → Q v H) → (∀ vs ds, d = .tup ds → RpAll B.K F vs ds → NewT vs H Q) →
    (∀ vs ds, d = .lst ds → RpAll B.K F vs ds → ∀ p, H p = none → Q (.ref p) (upd H p (.lst vs))) → r x y H Q) : OpS B W r fun a b => lft (f a b) := by
  intro dx dy ρ w res hres F σ H x y ok rx ry Q p
  have hres : (f dx dy).map (fun a => Rs.ok a ρ w) = some res := hres
  cases e : f dx dy with
  | none => rw [e] at hres; cases hres
  | some d =>
    rw [e] at hres
    cases hres
    refine h dx dy d e F H x y ok.sub rx ry Q (fun v rv => p v F H (Sub.refl F) ok rv) (fun vs ds ed rs q o hq po => ?_) (fun vs ds ed rs q hq => ?_)
    · subst ed
      obtain ⟨s, ok'⟩ := ok.laid hq (.frz o (.tup vs))
      exact p _ _ _ s ok' (.tup (.inl ⟨o, upd_same, po⟩) (rs.up s))
    · subst ed
      obtain ⟨s, ok'⟩ := ok.laid hq (.lst vs)
      exact p _ _ _ s ok' (.lst upd_same (rs.up s))

theorem lft_some {α : Type} {o : Option α} {ρ : Rho} {w : Wo} {r : Rs α} (h : lft o ρ w = some r) : ∃ a, o = some a ∧ r = .ok a ρ w := by
  cases o with
  | none => cases h
  | some a => exact ⟨a, rfl, (Option.some.inj h).symm⟩
/-! ### judgements -/
/-- the context that the rules ask for: n the level of the defs that may be called -/
structure Cq (K : PySem.W.Frag) (X : Cx) (B : Bs) (W : WX) (n : Nat) : Prop where
  hX : X.K = K
  hK : K = B.K
  tk : Takes X W
  hr : Room n X.A
  calm : X.calm = true
  nd : X.N.Nodup
structure SE (X : Cx) (B : Bs) (W : WX) (e : Expr) (t : TE) (m : M D) : Prop where
  pe : PE X e t
  sim : Sim B W (RV B) t m
structure ST (X : Cx) (B : Bs) (W : WX) (e : Expr) (t : TT) (m : M Bool) : Prop where
  pt : PT X e t
  sim : Sim B W RB t m
structure SA (X : Cx) (B : Bs) (W : WX) (es : List Expr) (t : TA) (m : M (List D)) : Prop where
  pa : PA X es t
  sim : Sim B W (RA B) t m

section
variable {X : Cx} {Kf : PySem.W.Frag} {B : Bs} {W : WX} {n : Nat} {a b c e : Expr} {es : List Expr} {ta tb tc te : TE} {ma mb mc me : M D} {pos : Pos}
/-! ### DL: names and constants -/
def getS (i : Nat) : M D := fun ρ w =>
  match ρ[i]? with
  | some (.val d) => some (.ok d ρ w)
  | some (.own l) => some (.ok (.lst l) (ρ.set i (.val (.lst l))) w)
  | _ => none
theorem sim_var (i : Nat) : Sim B W (RV B) (tVar i) (getS i) := by
  intro ρ w r hr F σ H ok Q p
  unfold getS at hr
  split at hr
  · rename_i d h
    cases hr
    obtain ⟨v, h1, h2⟩ := ok.val i d h
    exact ⟨v, h1, p v F H (Sub.refl F) ok h2⟩
  · rename_i l h
    cases hr
    obtain ⟨v, F', h1, s, ok', rv⟩ := ok.freezeAt h
    exact ⟨v, h1, p v F' H s ok' rv⟩
  · cases hr
theorem se_var (i : Nat) {x : Str} (hN : X.N[i]? = some x := by rfl) (hv : Vis X.env.scope x := by first | exact Or.inl rfl | exact Or.inr (Or.inl rfl) | exact Or.inr (Or.inr rfl)) (hd : (x == ("__debug__" : Str)) = false := by decide)
    (hcd : (x == ("__classdict__" : Str)) = false := by decide) : SE X B W (.Name x pos) (tVar i) (getS i) := ⟨pe_var hN hv hd hcd, sim_var i⟩
theorem sim_c {v : V} {d : D} (h : ∀ F, Rp B.K F v d) : Sim B W (RV B) (tC v) (ret d) := by
  intro ρ w r hr F σ H ok Q p
  cases hr
  exact p v F H (Sub.refl F) ok (h F)
theorem se_int {i j} : SE X B W (.Constant (.int i) j pos) (tC (.int i)) (ret (.int i)) := ⟨pe_int, sim_c fun _ => .int i⟩
theorem se_bl {i j} : SE X B W (.Constant (.bool i) j pos) (tC (.bl i)) (ret (.bl i)) := ⟨pe_bl, sim_c fun _ => .bl i⟩
theorem se_non {j} : SE X B W (.Constant .none j pos) (tC .non) (ret .non) := ⟨pe_non, sim_c fun _ => .non⟩
theorem se_str {x j} (h : PyData.strOk x = true := by decide +kernel) : SE X B W (.Constant (.str x) j pos) (tC (.str x)) (ret (.str x)) := ⟨pe_str, sim_c fun _ => .str x h⟩
theorem se_glob {x : Str} {v : V} {u : Value} {d : D} (hg : Gl X x) (hm : X.mg x = some u) (r : RelV v u) (h : ∀ F, Rp B.K F v d) (hd : (x == ("__debug__" : Str)) = false := by decide) : SE X B W (.Name x pos) (tC v) (ret d) := ⟨pe_glob hg hm r hd, sim_c h⟩

/-! ### argument lists, displays -/
def mNil : M (List D) := ret []
def mCons (m : M D) (ms : M (List D)) : M (List D) := bnd m fun d => bnd ms fun ds => ret (d :: ds)
theorem sim_cons {t : TE} {ts : TA} {m : M D} {ms : M (List D)} (h : Sim B W (RV B) t m) (hs : Sim B W (RA B) ts ms) : Sim B W (RA B) (tCons t ts) (mCons m ms) := by
  intro ρ w r hr F σ H ok Q p
  refine (Sim.bnd (R' := RA B) (tk := fun x σ H Q => ts σ H fun xs H2 => Q (x :: xs) H2) h fun d ρ1 w1 r1 hr1 x F1 σ1 H1 ok1 rx Q1 p1 => ?_) ρ w r hr F σ H ok Q p
  unfold DL.bnd at hr1
  cases h : ms ρ1 w1 with
  | none => rw [h] at hr1; cases hr1
  | some r2 =>
    rw [h] at hr1
    cases r2 with
    | ok ds ρ2 w2 =>
      cases hr1
      exact hs ρ1 w1 _ h F1 σ1 H1 ok1 _ fun vs F2 H2 s2 ok2 rs => p1 (x :: vs) F2 H2 s2 ok2 (.cons (rx.up s2) rs)
    | exc z ρ2 w2 =>
      cases hr1
      exact hs ρ1 w1 _ h F1 σ1 H1 ok1 _ fun d F2 H2 s2 ok2 q => p1 d F2 H2 s2 ok2 q
theorem sa_nil : SA X B W [] tNil mNil := ⟨pa_nil, fun ρ w r hr F σ H ok Q p => by
  cases hr
  exact p [] F H (Sub.refl F) ok .nil⟩
theorem sa_cons {ts : TA} {ms : M (List D)} (h : SE X B W e te me) (hs : SA X B W es ts ms) (hst : starEach (e :: es) X.env = (false, eval e X.env) :: starEach es X.env := by rfl) : SA X B W (e :: es) (tCons te ts) (mCons me ms) := ⟨pa_cons h.pe hs.pa hst, sim_cons h.sim hs.sim⟩
def mTup (ms : M (List D)) : M D := bnd ms fun ds => if ds.length ≤ 100000 then ret (.tup ds) else fun _ _ => none
theorem small {k : Nat} (h : k ≤ 100000) : k ≤ sizeLine := Nat.le_trans h (by decide)
theorem sim_tup {ts : TA} {ms : M (List D)} (hs : Sim B W (RA B) ts ms) : Sim B W (RV B) (tTupP ts) (mTup ms) := by
  intro ρ w r hr F σ H ok Q p
  refine (Sim.bnd (R' := RV B) (tk := fun xs σ H Q => xs.length ≤ sizeLine ∧ NewT xs H Q) hs fun ds ρ1 w1 r1 hr1 vs F1 σ1 H1 ok1 rs Q1 p1 => ?_) ρ w r hr F σ H ok Q p
  split at hr1
  · rename_i hl
    cases hr1
    refine ⟨by rw [rs.length]; exact small hl, fun q o hq po => ?_⟩
    obtain ⟨s, ok'⟩ := ok1.laid hq (.frz o (.tup vs))
    exact p1 _ _ _ s ok' (.tup (.inl ⟨o, upd_same, po⟩) (rs.up s))
  · cases hr1
theorem se_tup {ts : TA} {ms : M (List D)} {k : Nat} (hs : SA X B W es ts ms) : SE X B W (.Tuple es k pos) (tTupP ts) (mTup ms) := ⟨pe_tupP hs.pa, sim_tup hs.sim⟩
def mLst (ms : M (List D)) : M D := bnd ms fun ds => if ds.length ≤ 100000 then ret (.lst ds) else fun _ _ => none
theorem sim_lst {ts : TA} {ms : M (List D)} (hs : Sim B W (RA B) ts ms) : Sim B W (RV B) (tLst ts) (mLst ms) := by
  intro ρ w r hr F σ H ok Q p
  refine (Sim.bnd (R' := RV B) (tk := fun xs σ H Q => xs.length ≤ sizeLine ∧ ∀ p, H p = none → Q (.ref p) (upd H p (.lst xs))) hs fun ds ρ1 w1 r1 hr1 vs F1 σ1 H1 ok1 rs Q1 p1 => ?_) ρ w r hr F σ H ok Q p
  split at hr1
  · rename_i hl
    cases hr1
    refine ⟨by rw [rs.length]; exact small hl, fun q hq => ?_⟩
    obtain ⟨s, ok'⟩ := ok1.laid hq (.lst vs)
    exact p1 _ _ _ s ok' (.lst upd_same (rs.up s))
  · cases hr1
theorem se_lst {ts : TA} {ms : M (List D)} (hs : SA X B W es ts ms) : SE X B W (.List es pos) (tLst ts) (mLst ms) := ⟨pe_lst hs.pa, sim_lst hs.sim⟩

/-! ### operators -/
theorem strOk_app {x y : Str} (h : PyData.strOk x = true) (g : PyData.strOk y = true) : PyData.strOk (x ++ y) = true := by
  unfold PyData.strOk at *
  show (x.cps ++ y.cps).all _ = true
  rw [Array.all_append, h, g]
  rfl
def addD : D → D → Option D
  | .int i, .int j => some (.int (i + j))
  | .str x, .str y => if x.length + y.length ≤ 100000 then some (.str (x ++ y)) else none
  | .tup xs, .tup ys => if xs.length + ys.length ≤ 100000 then some (.tup (xs ++ ys)) else none
  | .lst xs, .lst ys => if xs.length + ys.length ≤ 100000 then some (.lst (xs ++ ys)) else none
  | _, _ => none
def rAddA (K : PySem.W.Frag) : R2 := fun x y H Q => (∃ i j, x = .int i ∧ y = .int j ∧ Q (.int (i + j)) H) ∨ (∃ i j, x = .str i ∧ y = .str j ∧ i.length + j.length ≤ sizeLine ∧ Q (.str (i ++ j)) H) ∨ rCatP K x y H Q ∨ rCat x y H Q
theorem op_addA : OpR X (binaryOp .Add) (rAddA X.K) := op_add.or (op_add_str.or (op_catP.or op_cat))
theorem ops_add : OpS B W (rAddA B.K) fun a b => lft (addD a b) := by
  refine .tup fun dx dy d h F H x y sub rx ry Q q qt ql => ?_
  unfold addD at h
  split at h
  · cases h; cases rx; cases ry
    exact .inl ⟨_, _, rfl, rfl, q _ (.int _)⟩
  · split at h
    · rename_i hl
      cases h
      cases rx with
      | str _ g1 =>
        cases ry with
        | str _ g2 => exact .inr (.inl ⟨_, _, rfl, rfl, small hl, q _ (.str _ (strOk_app g1 g2))⟩)
    · cases h
  · split at h
    · rename_i hl
      cases h
      cases rx with
      | tup h1 r1 =>
        cases ry with
        | tup h2 r2 =>
          refine .inr (.inr (.inl ⟨_, _, _, _, rfl, rfl, ⟨(sub.sqP h1).sqT, (sub.sqP h2).sqT⟩, by rw [r1.length, r2.length]; exact small hl, fun e => ?_, fun e _ => ?_, fun _ _ => qt _ _ rfl (r1.append r2)⟩))
          · subst e
            cases r1
            exact q _ (.tup h2 r2)
          · subst e
            cases r2
            refine q _ ?_
            rw [List.append_nil]
            exact .tup h1 r1
    · cases h
  · split at h
    · rename_i hl
      cases h
      cases rx with
      | lst h1 r1 =>
        cases ry with
        | lst h2 r2 =>
          exact .inr (.inr (.inr ⟨_, _, _, _, rfl, rfl, sub _ _ h1, sub _ _ h2, by rw [r1.length, r2.length]; exact small hl, fun p hp => ql _ _ rfl (r1.append r2) p hp⟩))
    · cases h
  · cases h
def mBin (f : D → D → Option D) (ma mb : M D) : M D := bnd ma fun a => bnd mb fun b => lft (f a b)
theorem se_add (q : Cq Kf X B W n) (ha : SE X B W a ta ma) (hb : SE X B W b tb mb) : SE X B W (.BinOp a .Add b pos) (tOp (rAddA Kf) ta tb) (mBin addD ma mb) := by
  cases q.hX
  exact ⟨pe_op op_addA ha.pe hb.pe, by rw [q.hK]; exact sim_op ha.sim hb.sim ops_add⟩
def intD (C : Int → Int → Bool) (g : Int → Int → Int) : D → D → Option D
  | .int i, .int j => if C i j then some (.int (g i j)) else none
  | _, _ => none
theorem ops_int {C : Int → Int → Bool} {C' : Int → Int → Prop} {g : Int → Int → Int} (hC : ∀ i j, C i j = true → C' i j) : OpS B W (rI C' fun i j => .int (g i j)) fun a b => lft (intD C g a b) := by
  refine .pure fun dx dy d h F H x y sub rx ry Q q => ?_
  unfold intD at h
  split at h
  · split at h
    · rename_i hc
      cases h; cases rx; cases ry
      exact ⟨_, _, rfl, rfl, hC _ _ hc, q _ (.int _)⟩
    · cases h
  · cases h
theorem ops_int0 {g : Int → Int → Int} : OpS B W (rI0 fun i j => .int (g i j)) fun a b => lft (intD (fun _ _ => true) g a b) := by
  refine .pure fun dx dy d h F H x y sub rx ry Q q => ?_
  unfold intD at h
  split at h
  · cases h; cases rx; cases ry
    exact ⟨_, _, rfl, rfl, q _ (.int _)⟩
  · cases h
abbrev subD := intD (fun _ _ => true) fun i j => i - j
abbrev modD := intD (fun _ j => decide (0 < j)) fun i j => i % j
abbrev fdivD := intD (fun _ j => decide (0 < j) && decide (j < 1073741824)) fun i j => i / j
theorem se_sub (ha : SE X B W a ta ma) (hb : SE X B W b tb mb) : SE X B W (.BinOp a .Sub b pos) (tOp (rI0 fun i j => .int (i - j)) ta tb) (mBin subD ma mb) := ⟨pe_op op_sub ha.pe hb.pe, sim_op ha.sim hb.sim ops_int0⟩
theorem se_mod (ha : SE X B W a ta ma) (hb : SE X B W b tb mb) : SE X B W (.BinOp a .Mod b pos) (tOp (rI (fun _ j => 0 < j) fun i j => .int (i % j)) ta tb) (mBin modD ma mb) := ⟨pe_op op_mod ha.pe hb.pe, sim_op ha.sim hb.sim (ops_int fun _ _ h => of_decide_eq_true h)⟩
theorem se_fdiv (ha : SE X B W a ta ma) (hb : SE X B W b tb mb) : SE X B W (.BinOp a .FloorDiv b pos) (tOp (rI CDiv fun i j => .int (i / j)) ta tb) (mBin fdivD ma mb) := ⟨pe_op op_fdiv ha.pe hb.pe, sim_op ha.sim hb.sim (ops_int fun _ _ h => by
  rw [Bool.and_eq_true] at h
  exact ⟨of_decide_eq_true h.1, of_decide_eq_true h.2⟩)⟩
/-- *: ints, one below 2^64; a list, an int -/
def inB (i : Int) : Bool := decide (-18446744073709551616 < i) && decide (i < 18446744073709551616)
def mulD : D → D → Option D
  | .int i, .int j => if inB i || inB j then some (.int (i * j)) else none
  | .lst xs, .int k => if 0 ≤ k ∧ k ≤ 1000 ∧ xs.length ≤ 100 then some (.lst (List.replicate k.toNat xs).flatten) else none
  | _, _ => none
def rMulA : R2 := fun x y H Q => rI CMul (fun i j => .int (i * j)) x y H Q ∨ rRep x y H Q
theorem op_mulA : OpR X (binaryOp .Mult) rMulA := op_mul.or op_rep
theorem RpAll.rep {K : PySem.W.Frag} {F : Hp} {vs : List V} {ds : List D} (h : RpAll K F vs ds) : ∀ k : Nat, RpAll K F (List.replicate k vs).flatten (List.replicate k ds).flatten
  | 0 => .nil
  | k + 1 => by
    rw [List.replicate_succ, List.replicate_succ,
          List.flatten_cons, List.flatten_cons]
    exact h.append (RpAll.rep h k)
theorem ops_mul : OpS B W rMulA fun a b => lft (mulD a b) := by
  refine .tup fun dx dy d h F H x y sub rx ry Q q qt ql => ?_
  unfold mulD at h
  split at h
  · split at h
    · rename_i i j hc
      cases h; cases rx; cases ry
      refine .inl ⟨_, _, rfl, rfl, ?_, q _ (.int _)⟩
      unfold inB at hc
      simp only [Bool.or_eq_true, Bool.and_eq_true, decide_eq_true_eq] at hc
      exact hc
    · cases h
  · split at h
    · rename_i xs k hc
      obtain ⟨c1, c2, c3⟩ := hc
      cases h
      cases rx with
      | lst h1 r1 =>
        cases ry
        refine .inr ⟨_, _, _, rfl, rfl, sub _ _ h1, by omega, by omega, ?_, fun p hp => ql _ _ rfl (r1.rep _) p hp⟩
        rw [r1.length]
        have : xs.length * k.toNat ≤ 100 * 1000 := Nat.mul_le_mul c3 (by omega)
        exact small this
    · cases h
  · cases h
theorem se_mul (ha : SE X B W a ta ma) (hb : SE X B W b tb mb) : SE X B W (.BinOp a .Mult b pos) (tOp rMulA ta tb) (mBin mulD ma mb) := ⟨pe_op op_mulA ha.pe hb.pe, sim_op ha.sim hb.sim ops_mul⟩
end
end DL
set_option Elab.async false
set_option linter.all false
set_option maxRecDepth 100000
set_option
      maxHeartbeats 4000000
/-! DLC: equality, membership, comparisons, tests, subscripts. -/
namespace DL
open PySem PySem.Spec
      PyProof.Rows L2

/-! ### equality of data -/
mutual
def deq : D → D → Bool
  | .non, .non => true
  | .bl a, .bl b => a == b
  | .bl a, .int j => (if a then 1 else 0) == j
  | .int i, .bl b => i == (if b then 1 else 0)
  | .int i, .int j => i == j
  | .str x, .str y => x == y
  | .lst xs, .lst ys => deqs xs ys
  | .tup xs, .tup ys => deqs xs ys
  | _, _ => false
def deqs : List D → List D → Bool
  | [], [] => true
  | x :: xs, y :: ys => deq x y && deqs xs ys
  | _, _ => false
end
mutual
def dat : Nat → D → Bool
  | _, .non => true
  | _, .bl _ => true
  | _, .int _ => true
  | _, .str _ => true
  | n + 1, .lst xs => dats n xs
  | n + 1, .tup xs => dats n xs
  | _, _ => false
def dats : Nat → List D → Bool
  | _, [] => true
  | n, x :: xs => dat n x && dats n xs
end
mutual
def toP : D → PyData
  | .non => .none
  | .bl b => .bool b
  | .int i => .int i
  | .str x => .str x
  | .lst xs => .list (toPs xs)
  | .tup xs => .tuple (toPs xs)
  | .dct _ _ => .none
  | .raw _ => .none
  | .fn _ => .none
  | .pr _ _ => .none
  | .rol _ => .none
def toPs : List D → List PyData
  | [] => []
  | x :: xs => toP x :: toPs xs
end
mutual
theorem deq_eqv : ∀ (n : Nat) (d e : D), dat n d = true → dat n e = true → PyData.eqv (toP d) (toP e) = deq d e
  | n, .non, e, h, g => by cases e <;> simp_all [deq, toP, PyData.eqv, dat]
  | n, .bl a, e, h, g => by cases e <;> simp_all [deq, toP, PyData.eqv, dat]
  | n, .int a, e, h, g => by cases e <;> simp_all [deq, toP, PyData.eqv, dat]
  | n, .str a, e, h, g => by cases e <;> simp_all [deq, toP, PyData.eqv, dat]
  | 0, .lst a, e, h, g => by simp [dat] at h
  | 0, .tup a, e, h, g => by simp [dat] at h
  | n + 1, .lst a, e, h, g => by
    cases e with
    | lst b =>
      simp only [deq, toP, PyData.eqv]
      exact deqs_eqv n a b (by simpa [dat] using h) (by simpa [dat] using g)
    | _ => simp_all [deq, toP, PyData.eqv, dat]
  | n + 1, .tup a, e, h, g => by
    cases e with
    | tup b =>
      simp only [deq, toP, PyData.eqv]
      exact deqs_eqv n a b (by simpa [dat] using h) (by simpa [dat] using g)
    | _ => simp_all [deq, toP, PyData.eqv, dat]
  | n, .dct _ _, e, h, g => by cases n <;> simp [dat] at h
  | n, .raw _, e, h, g => by cases n <;> simp [dat] at h
  | n, .fn _, e, h, g => by cases n <;> simp [dat] at h
  | n, .pr _ _, e, h, g => by cases n <;> simp [dat] at h
  | n, .rol _, e, h, g => by cases n <;> simp [dat] at h
theorem deqs_eqv : ∀ (n : Nat) (d e : List D), dats n d = true → dats n e = true → PyData.eqvAll (toPs d) (toPs e) = deqs d e
  | n, [], [], h, g => by simp only [deqs, toPs, PyData.eqvAll]
  | n, [], e :: es, h, g => by simp only [deqs, toPs, PyData.eqvAll]
  | n, d :: ds, [], h, g => by simp only [deqs, toPs, PyData.eqvAll]
  | n, d :: ds, e :: es, h, g => by
    simp only [dats, Bool.and_eq_true] at h g
    simp only [deqs, toPs, PyData.eqvAll]
    rw [deq_eqv n d e h.1 g.1, deqs_eqv n ds es h.2 g.2]
end
mutual
theorem dat_depth : ∀ (n : Nat) (d : D), dat n d = true → (toP d).depth ≤ n
  | n, .non, h => by simp [toP, PyData.depth]
  | n, .bl a, h => by simp [toP, PyData.depth]
  | n, .int a, h => by simp [toP, PyData.depth]
  | n, .str a, h => by simp [toP, PyData.depth]
  | 0, .lst a, h => by simp [dat] at h
  | 0, .tup a, h => by simp [dat] at h
  | n + 1, .lst a, h => by
    have := dats_depth n a (by simpa [dat] using h)
    simp only [toP, PyData.depth]
    omega
  | n + 1, .tup a, h => by
    have := dats_depth n a (by simpa [dat] using h)
    simp only [toP, PyData.depth]
    omega
  | n, .dct _ _, h => by cases n <;> simp [dat] at h
  | n, .raw _, h => by cases n <;> simp [dat] at h
  | n, .fn _, h => by cases n <;> simp [dat] at h
  | n, .pr _ _, h => by cases n <;> simp [dat] at h
  | n, .rol _, h => by cases n <;> simp [dat] at h
theorem dats_depth : ∀ (n : Nat) (d : List D), dats n d = true → PyData.depthAll (toPs d) ≤ n
  | n, [], h => by simp [toPs, PyData.depthAll]
  | n, d :: ds, h => by
    simp only [dats, Bool.and_eq_true] at h
    have h1 := dat_depth n d h.1
    have h2 := dats_depth n ds h.2
    simp only [toPs, PyData.depthAll]
    omega
end
section
variable {K : PySem.W.Frag} {F H : Hp}
mutual
theorem rp_dp (s : Sub F H) : ∀ (n : Nat) (d : D) (v : V), dat n d = true → Rp K F v d → Dp K H v (toP d) ∧ (toP d).canLay0 = true
  | n, .non, _, h, r => by cases r; exact ⟨.non, by simp [toP, PyData.canLay0]⟩
  | n, .bl _, _, h, r => by cases r; exact ⟨.bl _, by simp [toP, PyData.canLay0]⟩
  | n, .int _, _, h, r => by cases r; exact ⟨.int _, by simp [toP, PyData.canLay0]⟩
  | n, .str _, _, h, r => by
    cases r with
    | str _ g => exact ⟨.str _, by simpa [toP, PyData.canLay0] using g⟩
  | 0, .lst a, _, h, r => by simp [dat] at h
  | 0, .tup a, _, h, r => by simp [dat] at h
  | n + 1, .lst a, _, h, r => by
    cases r with
    | lst h1 h2 =>
      obtain ⟨g1, g2⟩ := rps_dp s n a _ (by simpa [dat] using h) h2
      exact ⟨.lst (SqL.of (s _ _ h1)) g1, by simpa [toP, PyData.canLay0] using g2⟩
  | n + 1, .tup a, _, h, r => by
    cases r with
    | tup h1 h2 =>
      obtain ⟨g1, g2⟩ := rps_dp s n a _ (by simpa [dat] using h) h2
      exact ⟨.tup (s.sqP h1).sqT g1, by simpa [toP, PyData.canLay0] using g2⟩
  | n, .dct _ _, _, h, r => by cases n <;> simp [dat] at h
  | n, .raw _, _, h, r => by cases n <;> simp [dat] at h
  | n, .fn _, _, h, r => by cases n <;> simp [dat] at h
  | n, .pr _ _, _, h, r => by cases n <;> simp [dat] at h
  | n, .rol _, _, h, r => by cases n <;> simp [dat] at h
theorem rps_dp (s : Sub F H) : ∀ (n : Nat) (d : List D) (v : List V), dats n d = true → RpAll K F v d → DpAll K H v (toPs d) ∧ PyData.canLayAll0 (toPs d) = true
  | n, [], _, h, r => by cases r; exact ⟨.nil, by simp [toPs, PyData.canLayAll0]⟩
  | n, d :: ds, _, h, r => by
    cases r with
    | cons r1 r2 =>
      simp only [dats, Bool.and_eq_true] at h
      obtain ⟨g1, g2⟩ := rp_dp s n d _ h.1 r1
      obtain ⟨g3, g4⟩ := rps_dp s n ds _ h.2 r2
      exact ⟨.cons g1 g3, by simp [toPs, PyData.canLayAll0, g2, g4]⟩
end
theorem rp_shaped (s : Sub F H) {d : D} {v : V} (h : dat 60 d = true) (r : Rp K F v d) : Dp K H v (toP d) ∧ SeqAt.shaped (toP d) = true := by
  obtain ⟨h1, h2⟩ := rp_dp s 60 d v h r
  refine ⟨h1, ?_⟩
  show ((toP d).canLay0 && decide ((toP d).depth ≤ 64)) = true
  rw [h2, decide_eq_true (Nat.le_trans (dat_depth 60 d h) (by decide))]
  rfl
end
def eqD (a b : D) : Option D := if dat 60 a && dat 60 b then some (.bl (deq a b)) else none
def neD (a b : D) : Option D := if dat 60 a && dat 60 b then some (.bl (!deq a b)) else none
section
variable {X : Cx} {Kf : PySem.W.Frag} {B : Bs} {W : WX} {n : Nat}
theorem ops_eq : OpS B W (rEqD B.K) fun a b => lft (eqD a b) := by
  refine .pure fun dx dy d h F H x y sub rx ry Q q => ?_
  unfold eqD at h
  split at h
  · rename_i hc
    rw [Bool.and_eq_true] at hc
    cases h
    obtain ⟨p1, s1⟩ := rp_shaped sub hc.1 rx
    obtain ⟨p2, s2⟩ := rp_shaped sub hc.2 ry
    exact ⟨_, _, p1, p2, s1, s2, by rw [deq_eqv 60 dx dy hc.1 hc.2]; exact q _ (.bl _)⟩
  · cases h
theorem ops_ne : OpS B W (rNeD B.K) fun a b => lft (neD a b) := by
  refine .pure fun dx dy d h F H x y sub rx ry Q q => ?_
  unfold neD at h
  split at h
  · rename_i hc
    rw [Bool.and_eq_true] at hc
    cases h
    obtain ⟨p1, s1⟩ := rp_shaped sub hc.1 rx
    obtain ⟨p2, s2⟩ := rp_shaped sub hc.2 ry
    exact ⟨_, _, p1, p2, s1, s2, by rw [deq_eqv 60 dx dy hc.1 hc.2]; exact q _ (.bl _)⟩
  · cases h
/-! ### membership: lists, tuples; texts -/
def memD (x : D) : List D → Bool
  | [] => false
  | y :: ys => deq y x || memD x ys
def inD : D → D → Option D
  | x, .lst ys => if dat 60 x && dats 59 ys then some (.bl (memD x ys)) else none
  | x, .tup ys => if dat 60 x && dats 59 ys then some (.bl (memD x ys)) else none
  | .str x, .str y => some (.bl (!(Builtin.Str.occurrences y x 0 y.length 1).isEmpty))
  | _, _ => none
def notD : Option D → Option D
  | some (.bl b) => some (.bl (!b))
  | _ => none
def niD (x y : D) : Option D := notD (inD x y)
def rInTD (K : PySem.W.Frag) : R2 := fun x y H Q => ∃ d ds, Dp K H x d ∧ Dp K H y (.tuple ds) ∧ SeqAt.shaped d = true ∧ SeqAt.shaped (.tuple ds) = true ∧ Q (.bl (ds.any fun z => PyData.eqv z d)) H
def rNiTD (K : PySem.W.Frag) : R2 := fun x y H Q => ∃ d ds, Dp K H x d ∧ Dp K H y (.tuple ds) ∧ SeqAt.shaped d = true ∧ SeqAt.shaped (.tuple ds) = true ∧ Q (.bl (!ds.any fun z => PyData.eqv z d)) H
theorem op_inTD (hu : X.A.units + 65 < cLine) : OpR X (compareOp .In) (rInTD X.K) := by
  intro pins s σ H x
        y v u Q I rx ry h
  obtain ⟨d, ds, hd,
        he, sd, se, q⟩ := h
  obtain ⟨as, r1⟩ :=
        Dp.reads I d x v hd rx
  obtain ⟨bs, r2⟩ := Dp.reads I (.tuple ds) y u he ry
  exact SeqAt.in_tuple_reads r2 r1 (SeqAt.canLay_of_shaped se) (SeqAt.canLay_of_shaped sd) (room_in_shaped sd hu) ⟨.bl _, H, I, rfl, q⟩
theorem op_niTD (hu : X.A.units + 65 < cLine) : OpR X (compareOp .NotIn) (rNiTD X.K) := by
  intro pins s σ H x
        y v u Q I rx ry h
  obtain ⟨d, ds, hd,
        he, sd, se, q⟩ := h
  obtain ⟨as, r1⟩ :=
        Dp.reads I d x v hd rx
  obtain ⟨bs, r2⟩ := Dp.reads I (.tuple ds) y u he ry
  exact SeqAt.notIn_tuple_reads r2 r1 (SeqAt.canLay_of_shaped se) (SeqAt.canLay_of_shaped sd) (room_in_shaped sd hu) ⟨.bl _, H, I, rfl, q⟩
def rStrIn (neg : Bool) : R2 := fun x y H Q => ∃ i j, x = .str i ∧ y = .str j ∧ Q (.bl (if neg then (!(!(Builtin.Str.occurrences j i 0 j.length 1).isEmpty)) else (!(Builtin.Str.occurrences j i 0 j.length 1).isEmpty))) H
def rInA (K : PySem.W.Frag) : R2 := fun x y H Q => rInD K x y H Q ∨ rInTD K x y H Q ∨ rStrIn false x y H Q
def rNiA (K : PySem.W.Frag) : R2 := fun x y H Q => rNotInD K x y H Q ∨ rNiTD K x y H Q ∨ rStrIn true x y H Q
theorem op_inA (hu : X.A.units + 65 < cLine) : OpR X (compareOp .In) (rInA X.K) := (op_inD hu).or ((op_inTD hu).or op_in_str)
theorem op_niA (hu : X.A.units + 65 < cLine) : OpR X (compareOp .NotIn) (rNiA X.K) := (op_notInD hu).or ((op_niTD hu).or op_notin_str)
theorem mem_any : ∀ (x : D) (ys : List D), dat 60 x = true → dats 59 ys = true → ((toPs ys).any fun z => PyData.eqv z (toP x)) = memD x ys
  | x, [], _, _ => rfl
  | x, y :: ys, h, g => by
    simp only [dats, Bool.and_eq_true] at g
    have g1 : dat 60 y = true := dat_up 59 y g.1
    show (PyData.eqv (toP y) (toP x) || (toPs ys).any _) = (deq y x || memD x ys)
    rw [deq_eqv 60 y x g1 h, mem_any x ys h g.2]
where
  dat_up : ∀ (n : Nat) (d : D), dat n d = true → dat (n + 1) d = true
    | n, .non, _ => by simp [dat]
    | n, .bl _, _ => by simp [dat]
    | n, .int _, _ => by simp [dat]
    | n, .str _, _ => by simp [dat]
    | 0, .lst _, h => by simp [dat] at h
    | 0, .tup _, h => by simp [dat] at h
    | n + 1, .lst a, h => by
      simp only [dat] at h ⊢
      exact dats_up n a h
    | n + 1, .tup a, h => by
      simp only [dat] at h ⊢
      exact dats_up n a h
    | n, .dct _ _, h => by cases n <;> simp [dat] at h
    | n, .raw _, h => by cases n <;> simp [dat] at h
    | n, .fn _, h => by cases n <;> simp [dat] at h
    | n, .pr _ _, h => by cases n <;> simp [dat] at h
    | n, .rol _, h => by cases n <;> simp [dat] at h
  dats_up : ∀ (n : Nat) (d : List D), dats n d = true → dats (n + 1) d = true
    | n, [], _ => by simp [dats]
    | n, d :: ds, h => by
      simp only [dats, Bool.and_eq_true] at h ⊢
      exact ⟨dat_up n d h.1, dats_up n ds h.2⟩
theorem ops_in : OpS B W (rInA B.K) fun a b => lft (inD a b) := by
  refine .pure fun dx dy d h F H x y sub rx ry Q q => ?_
  unfold inD at h
  split at h
  · split at h
    · rename_i ys hc
      rw [Bool.and_eq_true] at hc
      cases h
      obtain ⟨p1, s1⟩ := rp_shaped sub hc.1 rx
      obtain ⟨p2, s2⟩ := rp_shaped sub (d := .lst ys) (by simpa [dat] using hc.2) ry
      refine .inl ⟨_, toPs ys, p1, by simpa [toP] using p2, s1, by simpa [toP] using s2, ?_⟩
      rw [mem_any _ _ hc.1 hc.2]
      exact q _ (.bl _)
    · cases h
  · split at h
    · rename_i ys hc
      rw [Bool.and_eq_true] at hc
      cases h
      obtain ⟨p1, s1⟩ := rp_shaped sub hc.1 rx
      obtain ⟨p2, s2⟩ := rp_shaped sub (d := .tup ys) (by simpa [dat] using hc.2) ry
      refine .inr (.inl ⟨_, toPs ys, p1, by simpa [toP] using p2, s1, by simpa [toP] using s2, ?_⟩)
      rw [mem_any _ _ hc.1 hc.2]
      exact q _ (.bl _)
    · cases h
  · cases h; cases rx; cases ry
    exact .inr (.inr ⟨_, _, rfl, rfl, q _ (.bl _)⟩)
  · cases h
theorem ops_ni : OpS B W (rNiA B.K) fun a b => lft (niD a b) := by
  refine .pure fun dx dy d h F H x y sub rx ry Q q => ?_
  unfold niD inD at h
  split at h
  · split at h
    · rename_i ys hc
      rw [Bool.and_eq_true] at hc
      cases h
      obtain ⟨p1, s1⟩ := rp_shaped sub hc.1 rx
      obtain ⟨p2, s2⟩ := rp_shaped sub (d := .lst ys) (by simpa [dat] using hc.2) ry
      refine .inl ⟨_, toPs ys, p1, by simpa [toP] using p2, s1, by simpa [toP] using s2, ?_⟩
      rw [mem_any _ _ hc.1 hc.2]
      exact q _ (.bl _)
    · cases h
  · split at h
    · rename_i ys hc
      rw [Bool.and_eq_true] at hc
      cases h
      obtain ⟨p1, s1⟩ := rp_shaped sub hc.1 rx
      obtain ⟨p2, s2⟩ := rp_shaped sub (d := .tup ys) (by simpa [dat] using hc.2) ry
      refine .inr (.inl ⟨_, toPs ys, p1, by simpa [toP] using p2, s1, by simpa [toP] using s2, ?_⟩)
      rw [mem_any _ _ hc.1 hc.2]
      exact q _ (.bl _)
    · cases h
  · cases h; cases rx; cases ry
    exact .inr (.inr ⟨_, _, rfl, rfl, q _ (.bl _)⟩)
  · cases h
/-! ### order: ints, texts -/
def cmpD (p : Int → Int → Bool) : D → D → Option D
  | .int i, .int j => some (.bl (p i j))
  | _, _ => none
theorem ops_cmp {p : Int → Int → Bool} : OpS B W (rI0 fun i j => .bl (p i j)) fun a b => lft (cmpD p a b) := by
  refine .pure fun dx dy d h F H x y sub rx ry Q q => ?_
  unfold cmpD at h
  split at h
  · cases h; cases rx; cases ry
    exact ⟨_, _, rfl, rfl, q _ (.bl _)⟩
  · cases h
def isN (neg : Bool) (d e : D) : Option D :=
  match e with
  | .non => match d with
    | .raw _ => none
    | .fn _ => none
    | .pr _ _ => none
    | .rol _ => none
    | .non => some (.bl (!neg))
    | _ => some (.bl neg)
  | _ => none
def rIsN (neg : Bool) : R2 := fun x y H Q => y = .non ∧ Q (.bl (if neg then !decide (x = .non) else decide (x = .non))) H
theorem ops_isN {neg : Bool} : OpS B W (rIsN neg) fun a b => lft (isN neg a b) := by
  refine .pure fun dx dy d h F H x y sub rx ry Q q => ?_
  unfold isN at h
  split at h
  · cases ry
    refine ⟨rfl, ?_⟩
    split at h
    · cases h
    · cases h
    · cases h
    · cases h
    · cases h; cases rx
      have e : (if neg = true then !decide (V.non = V.non) else decide (V.non = V.non)) = !neg := by cases neg <;> rfl
      rw [e]
      exact q _ (.bl _)
    · cases h
      have hx : x ≠ .non := by
        intro z
        subst z
        cases rx <;> simp_all
      have e : (if neg = true then !decide (x = V.non) else decide (x = V.non)) = neg := by
        rw [decide_eq_false hx]
        cases neg <;> rfl
      rw [e]
      exact q _ (.bl _)
  · cases h
end
end DL
set_option Elab.async false
set_option linter.all false
set_option maxRecDepth 100000
set_option
      maxHeartbeats 4000000
/-! DLD: comparisons and tests as rules, subscripts, slices. -/
namespace DL
open PySem PySem.Spec
      PyProof.Rows L2
theorem Cq.u65 {Kf : PySem.W.Frag} {X : Cx} {B : Bs} {W : WX} {n : Nat} (q : Cq Kf X B W n) : X.A.units + 65 < cLine := by
  cases q.hX
  have := q.hr.un; omega
theorem Cq.u64 {Kf : PySem.W.Frag} {X : Cx} {B : Bs} {W : WX} {n : Nat} (q : Cq Kf X B W n) : X.A.units + 64 < cLine := by
  cases q.hX
  have := q.hr.un; omega

def asB : Option D → M Bool
  | some (.bl c) => ret c
  | _ => fun _ _ => none
theorem asB_some {o : Option D} {ρ : Rho} {w : Wo} {r : Rs Bool} (h : asB o ρ w = some r) : ∃ k, o = some (.bl k) ∧ r = .ok k ρ w := by
  cases o with
  | none => cases h
  | some d => cases d <;> first | (cases h; done) | exact ⟨_, rfl, (Option.some.inj h).symm⟩
def mBinT (f : D → D → Option D) (ma mb : M D) : M Bool := bnd ma fun a => bnd mb fun b => asB (f a b)
section
variable {X : Cx} {Kf : PySem.W.Frag} {B : Bs} {W : WX} {n : Nat} {a b c e : Expr} {es : List Expr} {ta tb tc te : TE} {ma mb mc me : M D} {pos : Pos} {r r' : R2} {f g : D → D → Option D}
theorem se_cmp1 {op : CmpOp} (ho : OpR X (compareOp op) r) (hs : OpS B W r fun a b => lft (f a b)) (ha : SE X B W a ta ma) (hb : SE X B W b tb mb) (hm : behindInMarks op b = false) : SE X B W (.Compare a [op] [b] pos) (tOp r ta tb) (mBin f ma mb) :=
  ⟨pe_cmpR ho ha.pe hb.pe hm, sim_op ha.sim hb.sim hs⟩
/-- a bool value as a test -/
theorem sim_asB (hs : OpS B W r fun a b => lft (f a b)) (ha : Sim B W (RV B) ta ma) (hb : Sim B W (RV B) tb mb) : Sim B W RB (tTest (tOp r ta tb)) (mBinT f ma mb) := by
  intro ρ w res hres F σ H ok Q p
  have key : ∀ r1, mBin f ma mb ρ w = some r1 → Post B W (RV B) r1 F σ (fun x H' => ∃ k, x = .bl k ∧ Q k H') → tTest (tOp r ta tb) σ H Q := fun r1 h1 p1 => sim_op ha hb hs ρ w r1 h1 F σ H ok _ p1
  unfold mBinT bnd at hres
  unfold mBin bnd at key
  cases h1 : ma ρ w with
  | none => rw [h1] at hres; cases hres
  | some r1 =>
    rw [h1] at hres key
    cases r1 with
    | exc x ρ1 w1 =>
      cases hres
      exact key _ rfl p
    | ok d1 ρ1 w1 =>
      dsimp only at hres key
      cases h2 : mb ρ1 w1 with
      | none => rw [h2] at hres; cases hres
      | some r2 =>
        rw [h2] at hres key
        cases r2 with
        | exc x ρ2 w2 =>
          cases hres
          exact key _ rfl p
        | ok d2 ρ2 w2 =>
          dsimp only at hres key
          obtain ⟨k, hk, e⟩ := asB_some hres
          subst e
          refine key (.ok (.bl k) ρ2 w2) (by unfold lft; rw [hk]; rfl) fun v F' H' s ok' rv => ?_
          cases rv
          exact ⟨k, rfl, p k F' H' s ok' rfl⟩
theorem st_cmp1 {op : CmpOp} (ho : OpR X (compareOp op) r) (hs : OpS B W r fun a b => lft (f a b)) (ha : SE X B W a ta ma) (hb : SE X B W b tb mb) (hm : behindInMarks op b = false) : ST X B W (.Compare a [op] [b] pos) (tTest (tOp r ta tb)) (mBinT f ma mb) :=
  ⟨pt_cmpR ho ha.pe hb.pe hm, sim_asB hs ha.sim hb.sim⟩
abbrev ltD := cmpD fun i j => decide (i < j)
abbrev leD := cmpD fun i j => decide (i ≤ j)
abbrev gtD := cmpD fun i j => decide (j < i)
abbrev geD := cmpD fun i j => decide (j ≤ i)
theorem op_isNA : OpR X (compareOp .Is) (rIsN false) := op_isN
theorem op_notNA : OpR X (compareOp .IsNot) (rIsN true) := op_notN
theorem se_eq (q : Cq Kf X B W n) (ha : SE X B W a ta ma) (hb : SE X B W b tb mb) : SE X B W (.Compare a [.Eq] [b] pos) (tOp (rEqD Kf) ta tb) (mBin eqD ma mb) := by
  cases q.hX
  exact se_cmp1 (op_eqD q.u64) (by rw [q.hK]; exact ops_eq) ha hb (nomark _)
theorem se_ne (q : Cq Kf X B W n) (ha : SE X B W a ta ma) (hb : SE X B W b tb mb) : SE X B W (.Compare a [.NotEq] [b] pos) (tOp (rNeD Kf) ta tb) (mBin neD ma mb) := by
  cases q.hX
  exact se_cmp1 (op_neD q.u64) (by rw [q.hK]; exact ops_ne) ha hb (nomark _)
theorem se_in (q : Cq Kf X B W n) (ha : SE X B W a ta ma) (hb : SE X B W b tb mb) (hm : behindInMarks .In b = false := by with_unfolding_all rfl) : SE X B W (.Compare a [.In] [b] pos) (tOp (rInA Kf) ta tb) (mBin inD ma mb) := by
  cases q.hX
  exact se_cmp1 (op_inA q.u65) (by rw [q.hK]; exact ops_in) ha hb hm
theorem se_ni (q : Cq Kf X B W n) (ha : SE X B W a ta ma) (hb : SE X B W b tb mb) (hm : behindInMarks .NotIn b = false := by with_unfolding_all rfl) : SE X B W (.Compare a [.NotIn] [b] pos) (tOp (rNiA Kf) ta tb) (mBin niD ma mb) := by
  cases q.hX
  exact se_cmp1 (op_niA q.u65) (by rw [q.hK]; exact ops_ni) ha hb hm
theorem se_lt (ha : SE X B W a ta ma) (hb : SE X B W b tb mb) : SE X B W (.Compare a [.Lt] [b] pos) (tOp (rI0 fun i j => .bl (decide (i < j))) ta tb) (mBin ltD ma mb) := se_cmp1 op_lt ops_cmp ha hb (nomark _)
theorem se_le (ha : SE X B W a ta ma) (hb : SE X B W b tb mb) : SE X B W (.Compare a [.LtE] [b] pos) (tOp (rI0 fun i j => .bl (decide (i ≤ j))) ta tb) (mBin leD ma mb) := se_cmp1 op_le ops_cmp ha hb (nomark _)
theorem se_gt (ha : SE X B W a ta ma) (hb : SE X B W b tb mb) : SE X B W (.Compare a [.Gt] [b] pos) (tOp (rI0 fun i j => .bl (decide (j < i))) ta tb) (mBin gtD ma mb) := se_cmp1 op_gt ops_cmp ha hb (nomark _)
theorem se_ge (ha : SE X B W a ta ma) (hb : SE X B W b tb mb) : SE X B W (.Compare a [.GtE] [b] pos) (tOp (rI0 fun i j => .bl (decide (j ≤ i))) ta tb) (mBin geD ma mb) := se_cmp1 op_ge ops_cmp ha hb (nomark _)
theorem se_is (ha : SE X B W a ta ma) (hb : SE X B W b tb mb) : SE X B W (.Compare a [.Is] [b] pos) (tOp (rIsN false) ta tb) (mBin (isN false) ma mb) := se_cmp1 op_isNA ops_isN ha hb (nomark _)
theorem se_isnot (ha : SE X B W a ta ma) (hb : SE X B W b tb mb) : SE X B W (.Compare a [.IsNot] [b] pos) (tOp (rIsN true) ta tb) (mBin (isN true) ma mb) := se_cmp1 op_notNA ops_isN ha hb (nomark _)
theorem st_eq (q : Cq Kf X B W n) (ha : SE X B W a ta ma) (hb : SE X B W b tb mb) : ST X B W (.Compare a [.Eq] [b] pos) (tTest (tOp (rEqD Kf) ta tb)) (mBinT eqD ma mb) := by
  cases q.hX
  exact st_cmp1 (op_eqD q.u64) (by rw [q.hK]; exact ops_eq) ha hb (nomark _)
theorem st_ne (q : Cq Kf X B W n) (ha : SE X B W a ta ma) (hb : SE X B W b tb mb) : ST X B W (.Compare a [.NotEq] [b] pos) (tTest (tOp (rNeD Kf) ta tb)) (mBinT neD ma mb) := by
  cases q.hX
  exact st_cmp1 (op_neD q.u64) (by rw [q.hK]; exact ops_ne) ha hb (nomark _)
theorem st_in (q : Cq Kf X B W n) (ha : SE X B W a ta ma) (hb : SE X B W b tb mb) (hm : behindInMarks .In b = false := by with_unfolding_all rfl) : ST X B W (.Compare a [.In] [b] pos) (tTest (tOp (rInA Kf) ta tb)) (mBinT inD ma mb) := by
  cases q.hX
  exact st_cmp1 (op_inA q.u65) (by rw [q.hK]; exact ops_in) ha hb hm
theorem st_ni (q : Cq Kf X B W n) (ha : SE X B W a ta ma) (hb : SE X B W b tb mb) (hm : behindInMarks .NotIn b = false := by with_unfolding_all rfl) : ST X B W (.Compare a [.NotIn] [b] pos) (tTest (tOp (rNiA Kf) ta tb)) (mBinT niD ma mb) := by
  cases q.hX
  exact st_cmp1 (op_niA q.u65) (by rw [q.hK]; exact ops_ni) ha hb hm
theorem st_lt (ha : SE X B W a ta ma) (hb : SE X B W b tb mb) : ST X B W (.Compare a [.Lt] [b] pos) (tTest (tOp (rI0 fun i j => .bl (decide (i < j))) ta tb)) (mBinT ltD ma mb) := st_cmp1 op_lt ops_cmp ha hb (nomark _)
theorem st_le (ha : SE X B W a ta ma) (hb : SE X B W b tb mb) : ST X B W (.Compare a [.LtE] [b] pos) (tTest (tOp (rI0 fun i j => .bl (decide (i ≤ j))) ta tb)) (mBinT leD ma mb) := st_cmp1 op_le ops_cmp ha hb (nomark _)
theorem st_gt (ha : SE X B W a ta ma) (hb : SE X B W b tb mb) : ST X B W (.Compare a [.Gt] [b] pos) (tTest (tOp (rI0 fun i j => .bl (decide (j < i))) ta tb)) (mBinT gtD ma mb) := st_cmp1 op_gt ops_cmp ha hb (nomark _)
theorem st_ge (ha : SE X B W a ta ma) (hb : SE X B W b tb mb) : ST X B W (.Compare a [.GtE] [b] pos) (tTest (tOp (rI0 fun i j => .bl (decide (j ≤ i))) ta tb)) (mBinT geD ma mb) := st_cmp1 op_ge ops_cmp ha hb (nomark _)
theorem st_is (ha : SE X B W a ta ma) (hb : SE X B W b tb mb) : ST X B W (.Compare a [.Is] [b] pos) (tTest (tOp (rIsN false) ta tb)) (mBinT (isN false) ma mb) := st_cmp1 op_isNA ops_isN ha hb (nomark _)
theorem st_isnot (ha : SE X B W a ta ma) (hb : SE X B W b tb mb) : ST X B W (.Compare a [.IsNot] [b] pos) (tTest (tOp (rIsN true) ta tb)) (mBinT (isN true) ma mb) := st_cmp1 op_notNA ops_isN ha hb (nomark _)

/-! ### and, or, not; a if t else b -/
section
variable {tT tU : TT} {mT mU : M Bool} {rest : List Expr}
structure SW (X : Cx) (B : Bs) (W : WX) (e : Expr) (t : TT) (m : M Bool) : Prop where
  pw : PW X e t
  sim : Sim B W RB t m
def mAnd (m k : M Bool) : M Bool := bnd m fun c => if c = true then k else ret false
def mOr (m k : M Bool) : M Bool := bnd m fun c => if c = true then ret true else k
def mNot (m : M Bool) : M Bool := bnd m fun c => ret (!c)
theorem sim_and (h : Sim B W RB tT mT) (g : Sim B W RB tU mU) : Sim B W RB (tAnd tT tU) (mAnd mT mU) :=
  Sim.bnd (R' := RB) (k := fun c => if c = true then mU else ret false) (tk := fun c σ H Q => if c = true then tU σ H Q else Q false H) h fun c ρ w r hr b F σ H ok e Q p => by
    cases e
    cases c with
    | true =>
      rw [if_pos rfl] at hr ⊢
      exact g ρ w r hr F σ H ok Q p
    | false =>
      rw [if_neg Bool.false_ne_true] at hr ⊢
      cases hr
      exact p false F H (Sub.refl F) ok rfl
theorem sim_or (h : Sim B W RB tT mT) (g : Sim B W RB tU mU) : Sim B W RB (tOr tT tU) (mOr mT mU) :=
  Sim.bnd (R' := RB) (k := fun c => if c = true then ret true else mU) (tk := fun c σ H Q => if c = true then Q true H else tU σ H Q) h fun c ρ w r hr b F σ H ok e Q p => by
    cases e
    cases c with
    | true =>
      rw [if_pos rfl] at hr ⊢
      cases hr
      exact p true F H (Sub.refl F) ok rfl
    | false =>
      rw [if_neg Bool.false_ne_true] at hr ⊢
      exact g ρ w r hr F σ H ok Q p
theorem sim_not (h : Sim B W RB tT mT) : Sim B W RB (tNot tT) (mNot mT) :=
  Sim.bnd (R' := RB) (k := fun c => ret (!c)) (tk := fun c σ H Q => Q (!c) H) h fun c ρ w r hr b F σ H ok e Q p => by
    cases e
    cases hr
    exact p _ F H (Sub.refl F) ok rfl
theorem sw_and1 (h : ST X B W a tT mT) : SW X B W (.BoolOp .And [a] pos) tT mT := ⟨pw_and1 h.pt, h.sim⟩
theorem sw_or1 (h : ST X B W a tT mT) : SW X B W (.BoolOp .Or [a] pos) tT mT := ⟨pw_or1 h.pt, h.sim⟩
theorem sw_and (h : ST X B W a tT mT) (g : SW X B W (.BoolOp .And (b :: rest) pos) tU mU) : SW X B W (.BoolOp .And (a :: b :: rest) pos) (tAnd tT tU) (mAnd mT mU) := ⟨pw_and h.pt g.pw, sim_and h.sim g.sim⟩
theorem sw_or (h : ST X B W a tT mT) (g : SW X B W (.BoolOp .Or (b :: rest) pos) tU mU) : SW X B W (.BoolOp .Or (a :: b :: rest) pos) (tOr tT tU) (mOr mT mU) := ⟨pw_or h.pt g.pw, sim_or h.sim g.sim⟩
theorem st_w {e : Expr} (h : SW X B W e tT mT) : ST X B W e tT mT := ⟨h.pw.pt, h.sim⟩
theorem st_not (h : ST X B W a tT mT) : ST X B W (.UnaryOp .Not a pos) (tNot tT) (mNot mT) := ⟨pt_not h.pt, sim_not h.sim⟩
/-- a value that is a bool, as a test -/
def mVal (m : M D) : M Bool := bnd m fun d => asB (some d)
theorem st_val (h : SE X B W e te me) (he : ∀ whole, isTrue e X.env whole = (do let v ← whole; standAt e.pos; holding [v] (truthy v)) := by intro _; rfl) : ST X B W e (tB te) (mVal me) :=
  ⟨pt_val h.pe he, Sim.bnd (R' := RB) (k := fun d => asB (some d)) (tk := fun x σ H Q => ∃ c, x = V.bl c ∧ Q c H) h.sim fun d ρ w r hr v F σ H ok rv Q p => by
    obtain ⟨k, hk, e⟩ := asB_some hr
    cases hk
    subst e
    cases rv
    exact ⟨k, rfl, p k F H (Sub.refl F) ok rfl⟩⟩
/-- as values, all but the last bools -/
def kBool (k : Bool → M D) : D → M D
  | .bl c => k c
  | _ => fun _ _ => none
theorem kBool_some {k : Bool → M D} {d : D} {ρ : Rho} {w : Wo} {r : Rs D} (h : kBool k d ρ w = some r) : ∃ c, d = .bl c ∧ k c ρ w = some r := by
  cases d <;> first | (cases h; done) | exact ⟨_, rfl, h⟩
def mAndV (m k : M D) : M D := bnd m (kBool fun c => if c = true then k else ret (.bl false))
def mOrV (m k : M D) : M D := bnd m (kBool fun c => if c = true then ret (.bl true) else k)
def mNotV (m : M D) : M D := bnd m (kBool fun c => ret (.bl (!c)))
theorem se_one {op} (h : SE X B W a ta ma) : SE X B W (.BoolOp op [a] pos) ta ma := ⟨pe_one h.pe, h.sim⟩
theorem se_and (h : SE X B W a ta ma) (g : SE X B W (.BoolOp .And (b :: rest) pos) tb mb) : SE X B W (.BoolOp .And (a :: b :: rest) pos) (tAndV ta tb) (mAndV ma mb) :=
  ⟨pe_and h.pe g.pe, Sim.bnd (R' := RV B) (k := kBool fun c => if c = true then mb else ret (.bl false)) (tk := fun x σ H Q => ∃ c, x = V.bl c ∧ if c = true then tb σ H Q else Q (.bl false) H) h.sim fun d ρ w r hr v F σ H ok rv Q p => by
    obtain ⟨c, e, hr2⟩ := kBool_some hr
    clear hr
    subst e
    cases rv
    cases c with
    | true => exact ⟨true, rfl, by rw [if_pos rfl] at hr2 ⊢; exact g.sim ρ w r hr2 F σ H ok Q p⟩
    | false =>
      rw [if_neg Bool.false_ne_true] at hr2
      cases hr2
      exact ⟨false, rfl, by rw [if_neg Bool.false_ne_true]; exact p _ F H (Sub.refl F) ok (.bl _)⟩⟩
theorem se_or (h : SE X B W a ta ma) (g : SE X B W (.BoolOp .Or (b :: rest) pos) tb mb) : SE X B W (.BoolOp .Or (a :: b :: rest) pos) (tOrV ta tb) (mOrV ma mb) :=
  ⟨pe_or h.pe g.pe, Sim.bnd (R' := RV B) (k := kBool fun c => if c = true then ret (.bl true) else mb) (tk := fun x σ H Q => ∃ c, x = V.bl c ∧ if c = true then Q (.bl true) H else tb σ H Q) h.sim fun d ρ w r hr v F σ H ok rv Q p => by
    obtain ⟨c, e, hr2⟩ := kBool_some hr
    clear hr
    subst e
    cases rv
    cases c with
    | true =>
      rw [if_pos rfl] at hr2
      cases hr2
      exact ⟨true, rfl, by rw [if_pos rfl]; exact p _ F H (Sub.refl F) ok (.bl _)⟩
    | false => exact ⟨false, rfl, by rw [if_neg Bool.false_ne_true] at hr2 ⊢; exact g.sim ρ w r hr2 F σ H ok Q p⟩⟩
theorem se_not (h : SE X B W a ta ma) : SE X B W (.UnaryOp .Not a pos) (tNotV ta) (mNotV ma) :=
  ⟨pe_not h.pe, Sim.bnd (R' := RV B) (k := kBool fun c => ret (.bl (!c))) (tk := fun x σ H Q => ∃ c, x = V.bl c ∧ Q (.bl (!c)) H) h.sim fun d ρ w r hr v F σ H ok rv Q p => by
    obtain ⟨c, e, hr2⟩ := kBool_some hr
    clear hr
    subst e
    cases rv
    cases hr2
    exact ⟨_, rfl, p _ F H (Sub.refl F) ok (.bl _)⟩⟩
def mIte {α : Type} (m : M Bool) (k l : M α) : M α := bnd m fun c => if c = true then k else l
theorem se_if (h : ST X B W c tT mT) (ga : SE X B W a ta ma) (gb : SE X B W b tb mb) : SE X B W (.IfExp c a b pos) (tIf tT ta tb) (mIte mT ma mb) :=
  ⟨pe_ifExp h.pt ga.pe gb.pe, Sim.bnd (R' := RV B) (k := fun c => if c = true then ma else mb) (tk := fun c σ H Q => if c = true then ta σ H Q else tb σ H Q) h.sim fun d ρ w r hr v F σ H ok rv Q p => by
    cases rv
    cases d with
    | true =>
      rw [if_pos rfl] at hr ⊢
      exact ga.sim ρ w r hr F σ H ok Q p
    | false =>
      rw [if_neg Bool.false_ne_true] at hr ⊢
      exact gb.sim ρ w r hr F σ H ok Q p⟩
/-- a op1 b op2 c -/
def mChain (f g : D → D → Option D) (ma mb mc : M D) : M D := bnd ma fun a => bnd mb fun b => match f a b with
  | some d => kBool (fun k => if k = true then bnd mc fun c => lft (g b c) else ret (.bl false)) d
  | none => fun _ _ => none
theorem sim_chain (hr : OpS B W r fun a b => lft (f a b)) (hr' : OpS B W r' fun a b => lft (g a b)) (ha : Sim B W (RV B) ta ma) (hb : Sim B W (RV B) tb mb) (hc : Sim B W (RV B) tc mc) : Sim B W (RV B) (tChain r r' ta tb tc) (mChain f g ma mb mc) := by
  refine Sim.bnd (R' := RV B) (tk := fun x σ H Q => tb σ H fun y H2 => r x y H2 fun z H3 => ∃ k, z = .bl k ∧ (if k = true then tc σ H3 fun w' H4 => r' y w' H4 Q else Q (.bl false) H3)) ha fun a ρ1 w1 r1 hr1 x F1 σ1 H1 ok1 rx Q1 p1 => ?_
  unfold bnd at hr1
  cases h : mb ρ1 w1 with
  | none => rw [h] at hr1; cases hr1
  | some r2 =>
    rw [h] at hr1
    cases r2 with
    | exc z ρ2 w2 =>
      cases hr1
      exact hb ρ1 w1 _ h F1 σ1 H1 ok1 _ fun d F2 H2 s2 ok2 q => p1 d F2 H2 s2 ok2 q
    | ok b ρ2 w2 =>
      refine hb ρ1 w1 _ h F1 σ1 H1 ok1 _ fun y F2 H2 s2 ok2 ry => ?_
      dsimp only at hr1
      cases hf : f a b with
      | none => rw [hf] at hr1; cases hr1
      | some dk =>
        rw [hf] at hr1
        obtain ⟨k, e, hr3⟩ := kBool_some hr1
        clear hr1
        subst e
        refine hr a b ρ2 w2 (.ok (.bl k) ρ2 w2) (by show (f a b).map (fun z => Rs.ok z ρ2 w2) = _; rw [hf]; rfl) F2 σ1 H2 x y ok2 (rx.up s2) ry _ fun z F3 H3 s3 ok3 rz => ?_
        cases rz
        refine ⟨k, rfl, ?_⟩
        have p3 := (p1.imp s2).imp s3
        cases k with
        | true =>
          rw [if_pos rfl] at hr3 ⊢
          cases hm : mc ρ2 w2 with
          | none => rw [hm] at hr3; cases hr3
          | some r3 =>
            rw [hm] at hr3
            cases r3 with
            | exc z ρ3 w3 =>
              cases hr3
              exact hc ρ2 w2 _ hm F3 σ1 H3 ok3 _ fun d F4 H4 s4 ok4 q => p3 d F4 H4 s4 ok4 q
            | ok c ρ3 w3 => exact hc ρ2 w2 _ hm F3 σ1 H3 ok3 _ fun z F4 H4 s4 ok4 rz => hr' b c ρ3 w3 r1 hr3 F4 σ1 H4 y z ok4 ((ry.up s3).up s4) rz Q1 (p3.imp s4)
        | false =>
          rw [if_neg Bool.false_ne_true] at hr3 ⊢
          cases hr3
          exact p3 _ F3 H3 (Sub.refl F3) ok3 (.bl _)
theorem se_chain {op op' : CmpOp} (ho : OpR X (compareOp op) r) (ho' : OpR X (compareOp op') r') (hr : OpS B W r fun a b => lft (f a b)) (hr' : OpS B W r' fun a b => lft (g a b)) (ha : SE X B W a ta ma) (hb : SE X B W b tb mb) (hc : SE X B W c tc mc)
    (hm : lastMarks [op, op'] [b, c] = false := by with_unfolding_all rfl) : SE X B W (.Compare a [op, op'] [b, c] pos) (tChain r r' ta tb tc) (mChain f g ma mb mc) := ⟨pe_chain ho ho' ha.pe hb.pe hc.pe hm, sim_chain hr hr' ha.sim hb.sim hc.sim⟩
theorem sim_val (h : Sim B W (RV B) te me) : Sim B W RB (tTest te) (mVal me) :=
  Sim.bnd (R' := RB) (k := fun d => asB (some d)) (tk := fun x σ H Q => ∃ c, x = V.bl c ∧ Q c H) h fun d ρ w r hr v F σ H ok rv Q p => by
    obtain ⟨k, hk, e⟩ := asB_some hr
    cases hk
    subst e
    cases rv
    exact ⟨k, rfl, p k F H (Sub.refl F) ok rfl⟩
theorem st_chain {op op' : CmpOp} (ho : OpR X (compareOp op) r) (ho' : OpR X (compareOp op') r') (hr : OpS B W r fun a b => lft (f a b)) (hr' : OpS B W r' fun a b => lft (g a b)) (ha : SE X B W a ta ma) (hb : SE X B W b tb mb) (hc : SE X B W c tc mc)
    (hm : lastMarks [op, op'] [b, c] = false := by with_unfolding_all rfl) : ST X B W (.Compare a [op, op'] [b, c] pos) (tTest (tChain r r' ta tb tc)) (mVal (mChain f g ma mb mc)) := ⟨pt_chain ho ho' ha.pe hb.pe hc.pe hm, sim_val (sim_chain hr hr' ha.sim hb.sim hc.sim)⟩
end

/-! ### subscripts, slices -/
def ixD : D → D → Option D
  | .tup xs, .int i => atI xs i
  | .pr a b, .int i => atI [a, b] i
  | .lst xs, .int i => atI xs i
  | .str x, .int i => if x.length ≤ 100000 then (atI x.cps.toList i).map fun c => .str ⟨#[c]⟩ else none
  | _, _ => none
theorem atI_rp {K : PySem.W.Frag} {F : Hp} {vs : List V} {ds : List D} {i : Int} {d : D} (r : RpAll K F vs ds) (h : atI ds i = some d) : ∃ v, atI vs i = some v ∧ Rp K F v d := by
  unfold atI at h ⊢
  rw [r.length]
  cases e : ixN ds.length i with
  | none => rw [e]
        at h; cases h
  | some j =>
    rw [e] at h
    obtain ⟨v, h1, h2⟩ := r.get (i := j) h
    exact ⟨v, h1, h2⟩
theorem strOk_one {x : Str} (h : PyData.strOk x = true) {i : Int} {c : Nat} (e : atI x.cps.toList i = some c) : PyData.strOk ⟨#[c]⟩ = true := by
  obtain ⟨j, _, h2, _⟩ := atI_get e
  unfold PyData.strOk at *
  rw [Array.all_eq_true'] at h
  have hc := h c (Array.mem_toList_iff.mp (List.mem_of_getElem? h2))
  simpa using hc
theorem ops_ix : OpS B W (rIx B.K) fun a b => lft (ixD a b) := by
  refine .pure fun dx dy d h F H x y sub rx ry Q q => ?_
  unfold ixD at h
  split at h
  · cases ry
    cases rx with
    | tup h1 r1 =>
      obtain ⟨v, h2, r2⟩ := atI_rp r1 h
      exact .inr (.inl ⟨_, _, _, _, rfl, rfl, (sub.sqP h1).sqT, h2, q _ r2⟩)
  · cases ry
    cases rx with
    | pr h1 r1 r1' =>
      obtain ⟨v, h2, r2⟩ := atI_rp (.cons r1 (.cons r1' .nil)) h
      exact .inr (.inl ⟨_, _, _, _, rfl, rfl, sub.sqT h1, h2, q _ r2⟩)
  · cases ry
    cases rx with
    | lst h1 r1 =>
      obtain ⟨v, h2, r2⟩ := atI_rp r1 h
      exact .inl ⟨_, _, _, _, rfl, rfl, SqL.of (sub _ _ h1), h2, q _ r2⟩
  · split at h
    · rename_i hl
      cases ry
      cases rx with
      | str _ g =>
        rename_i i
        cases e : atI (Str.cps _).toList i with
        | none => rw [e]
              at h; cases h
        | some c =>
          rw [e] at h
          cases h
          exact .inr (.inr ⟨_, _, c, rfl, rfl, small hl, e, q _ (.str _ (strOk_one g e))⟩)
    · cases h
  · cases h
theorem se_ix (q : Cq Kf X B W n) (ha : SE X B W a ta ma) (hb : SE X B W b tb mb) (hs : PlainIx b := by intro _ _; rfl) : SE X B W (.Subscript a b pos) (tOp (rIx Kf) ta tb) (mBin ixD ma mb) := by
  cases q.hX
  exact ⟨pe_ix ix_seq ha.pe hb.pe hs, sim_op ha.sim hb.sim (by rw [q.hK]; exact ops_ix)⟩
end
end DL
set_option Elab.async false
set_option linter.all false
set_option maxRecDepth 100000
set_option
      maxHeartbeats 4000000
/-! DLE: slices, calls of defs and of built-ins. -/
namespace DL
open PySem PySem.Spec
      PyProof.Rows L2
section
variable {X : Cx} {Kf : PySem.W.Frag} {B : Bs} {W : WX} {n : Nat} {a b c e : Expr} {es : List Expr} {ta tb tc te : TE} {ma mb mc me : M D} {pos p2 : Pos} {ts : TA} {ms : M (List D)}
/-! ### slices -/
structure SO (X : Cx) (B : Bs) (W : WX) (e : Option Expr) (t : TO) (m : M (Option Int)) : Prop where
  po : PO X e t
  sim : Sim B W (fun _ b a => b = a) t m
theorem so_none : SO X B W none tNoPart (ret none) := ⟨po_none, fun ρ w r hr F σ H ok Q p => by
  cases hr
  exact p none F H (Sub.refl F) ok rfl⟩
def kInt {α : Type} (k : Int → M α) : D → M α
  | .int i => k i
  | _ => fun _ _ => none
theorem kInt_some {α : Type} {k : Int → M α} {d : D} {ρ : Rho} {w : Wo} {r : Rs α} (h : kInt k d ρ w = some r) : ∃ i, d = .int i ∧ k i ρ w = some r := by
  cases d <;> first | (cases h; done) | exact ⟨_, rfl, h⟩
theorem so_some (h : SE X B W e te me) : SO X B W (some e) (tPart te) (bnd me (kInt fun i => ret (some i))) :=
  ⟨po_some h.pe, Sim.bnd (R' := fun _ b a => b = a) (k := kInt fun i => ret (some i)) (tk := fun x σ H Q => ∃ i, x = V.int i ∧ Q (some i) H) h.sim fun d ρ w r hr v F σ H ok rv Q p => by
    obtain ⟨i, e1, hr2⟩ := kInt_some hr
    clear hr
    subst e1
    cases rv
    cases hr2
    exact ⟨i, rfl, p _ F H (Sub.refl F) ok rfl⟩⟩
def cutD (xs : List D) (lo hi : Option Int) : List D := (xs.drop (HT.sIx xs.length 0 lo)).take (HT.sIx xs.length xs.length hi - HT.sIx xs.length 0 lo)
theorem RpAll.cut {K : PySem.W.Frag} {F : Hp} {vs : List V} {ds : List D} (r : RpAll K F vs ds) (lo hi : Option Int) : RpAll K F (cutV vs lo hi) (cutD ds lo hi) := by
  unfold cutV cutD
  rw [r.length]
  exact (r.drop _).take _
theorem cutD_whole {ds : List D} {lo hi : Option Int} (h : HT.sIx ds.length 0 lo = 0 ∧ HT.sIx ds.length ds.length hi = ds.length) : cutD ds lo hi = ds := by
  unfold cutD
  rw [h.1, h.2]
  simp
def slD (lo hi : Option Int) : D → Option D
  | .tup xs => some (.tup (cutD xs lo hi))
  | .lst xs => some (.lst (cutD xs lo hi))
  | .str x => if x.length ≤ 100000 then some (.str (cutS x lo hi)) else none
  | _ => none
theorem strOk_cut {x : Str} (h : PyData.strOk x = true) (lo hi : Option Int) : PyData.strOk (cutS x lo hi) = true := by
  unfold PyData.strOk at *
  rw [Array.all_eq_true'] at *
  intro c hc
  refine h c (Array.mem_toList_iff.mp ?_)
  have : c ∈ (x.cps.toList.drop (HT.sIx x.length 0 lo)).take (HT.sIx x.length x.length hi - HT.sIx x.length 0 lo) := by
    unfold cutS at hc
    simpa using hc
  exact List.mem_of_mem_drop (List.mem_of_mem_take this)
def rSlAll (K : PySem.W.Frag) : V → Option Int → Option Int → Hp → VK → Prop := fun x lo hi H Q => rSlP K x lo hi H Q ∨ rSlL K x lo hi H Q ∨ rSlS x lo hi H Q
theorem sl_all : SlR X (rSlAll X.K) := sl_tupP.or (sl_list.or sl_str)
def mSl (m : M D) (ml mh : M (Option Int)) : M D := bnd m fun d => bnd ml fun lo => bnd mh fun hi => lft (slD lo hi d)
theorem sim_sl {te : TE} {tl th : TO} {ml mh : M (Option Int)} (h : Sim B W (RV B) te me) (hl : Sim B W (fun _ b a => b = a) tl ml) (hh : Sim B W (fun _ b a => b = a) th mh) : Sim B W (RV B) (tSl (rSlAll B.K) te tl th) (mSl me ml mh) := by
  refine SimP.top (.bnd (tk := fun x σ H Q => tl σ H fun l H2 => th σ H2 fun u H3 => rSlAll B.K x l u H3 Q) .triv h fun d x => .bnd (tk := fun l σ H Q => th σ H fun u H3 => rSlAll B.K x l u H3 Q) (Mono.triv.and .rp) hl fun lo l => .bnd (tk := fun u σ H Q => rSlAll B.K x l u H Q) ((Mono.triv.and .rp).and fun _ _ _ h => h) hh fun hi u => ?_)
  rintro ρ w r hr F σ H ok ⟨⟨⟨-, rx⟩, e1⟩, e2⟩ Q p
  cases e1
  cases e2
  obtain ⟨z, hz, e3⟩ := lft_some hr
  subst e3
  unfold slD at hz
  split at hz
  · cases hz
    cases rx with
    | tup h1 r1 =>
      refine .inl ⟨_, _, rfl, (ok.sub.sqP h1).sqT, fun hw => p _ F H (Sub.refl F) ok (.tup h1 ?_), fun _ q o hq po => ?_⟩
      · rw [r1.length] at hw
        rw [cutD_whole hw]
        exact r1
      · obtain ⟨s, ok'⟩ := ok.laid hq (.frz o (.tup (cutV _ lo hi)))
        exact p _ _ _ s ok' (.tup (.inl ⟨o, upd_same, po⟩) ((r1.cut lo hi).up s))
  · cases hz
    cases rx with
    | lst h1 r1 =>
      refine .inr (.inl ⟨_, _, rfl, SqL.of (ok.sub _ _ h1), fun q hq => ?_⟩)
      obtain ⟨s, ok'⟩ := ok.laid hq (.lst (cutV _ lo hi))
      exact p _ _ _ s ok' (.lst upd_same ((r1.cut lo hi).up s))
  · split at hz
    · rename_i hl
      cases hz
      cases rx with
      | str _ g => exact .inr (.inr ⟨_, rfl, small hl, p _ F H (Sub.refl F) ok (.str _ (strOk_cut g lo hi))⟩)
    · cases hz
  · cases hz
theorem se_sl {lo hi : Option Expr} {tl th : TO} {ml mh : M (Option Int)} (q : Cq Kf X B W n) (h : SE X B W e te me) (hl : SO X B W lo tl ml) (hh : SO X B W hi th mh) : SE X B W (.Subscript e (.Slice lo hi none p2) pos) (tSl (rSlAll Kf) te tl th) (mSl me ml mh) := by
  cases q.hX
  exact ⟨pe_slice sl_all h.pe hl.po hh.po, by rw [q.hK]; exact sim_sl h.sim hl.sim hh.sim⟩
/-! ### calls of defs -/
def excAt (K : PySem.W.Frag) (F H : Hp) (d : Option Addr) (x : Xc) : Prop := x.ns = [] ∧ d = none ∨ ∃ p vs, d = some p ∧ H p = some (.xd (x.ns.zip vs)) ∧ x.ns.length = vs.length ∧ RpAll K F vs x.ds
/-- what a def promises: with k arguments it comes to what g tells -/
def spG (K : PySem.W.Frag) (k : Nat) (g : Fn1) : Sp := fun vs H Q E => ∃ F ds w r, vs.length = k ∧ Sub F H ∧ WdOk F H w ∧ RpAll K F vs ds ∧ g ds w = some r ∧
  match r with
  | .ok d w' => ∀ v F' H', Sub F' H' → WdOk F' H' w' → Goes H F w H' F' w' → Rp K F' v d → Q v H'
  | .exc x w' => ∀ d F' H', Sub F' H' → WdOk F' H' w' → Goes H F w H' F' w' → excAt K F' H' d x → E x.cls d H'
def mCall (k : Nat) (g : Fn1) (ms : M (List D)) : M D := bnd ms fun ds ρ w =>
  if ds.length = k then
    match g ds w with
    | some (.ok d w') => some (.ok d ρ w')
    | some (.exc x w') => some (.exc x ρ w')
    | none => none
  else none
theorem Ok.called {F : Hp} {ρ : Rho} {w : Wo} {σ : L2.St} {H F' H' : Hp} {w' : Wo} (ok : Ok B F ρ w σ H) (s : Sub F' H') (k : WdOk F' H' w') (g : Goes H F w H' F' w') : Ok B F' ρ w' σ H' := by
  refine ⟨s, ok.go.trans ok.wd g, k, ok.len, fun i d e => ?_, fun i ds e => ?_, ok.inj⟩
  · obtain ⟨v, h1, h2⟩ := ok.val i d e
    exact ⟨v, h1, h2.up g.sub⟩
  · obtain ⟨a, vs, h1, h2, h3, h4, h5, h6⟩ := ok.own i ds e
    refine ⟨a, vs, h1, g.keep a _ h2 h5, ?_, h4, fun z => ?_, h6.up g.sub⟩
    · cases q : F' a with
      | none => rfl
      | some o =>
        rcases g.frs a o q with z | z
        · rw [h3] at z; cases z
        · rw [h2] at z; cases z
    · rcases g.new a z with z | z
      · exact h5 z
      · rw [h2] at z; cases z
theorem sim_call {k : Nat} {g : Fn1} (hs : Sim B W (RA B) ts ms) : Sim B W (RV B) (tCallS (spG B.K k g) (WE W) ts) (mCall k g ms) :=
  Sim.bnd (R' := RV B) (tk := fun vs σ H Q => spG B.K k g vs H Q (WE W σ)) hs fun ds ρ w r hr vs F σ H ok rs Q p => by
    split at hr
    · rename_i hk
      cases hg : g ds w with
      | none => rw [hg] at hr; cases hr
      | some r1 =>
        rw [hg] at hr
        refine ⟨F, ds, w, r1, by rw [rs.length]; exact hk, ok.sub, ok.wd, rs, hg, ?_⟩
        cases r1 with
        | ok d w' =>
          cases hr
          exact fun v F' H' s kw go rv => p v F' H' go.sub (ok.called s kw go) rv
        | exc x w' =>
          cases hr
          exact fun d F' H' s kw go hx => p d F' H' go.sub (ok.called s kw go) hx
    · cases hr
/-- a def of the text, at the level n, as g tells -/
structure Fnc (P : Program) (w : World) (K : PySem.W.Frag) (mg : Str → Option Value) (base : Heap) (n : Nat) (x : Str) (k : Nat) (g : Fn1) : Prop where
  ex : ∃ (f : Addr) (fd : FuncData) (ps : List Str), mg x = some (.ref f) ∧ PySem.W.keepIn K (.ref f) = true ∧ Binds K fd ps [] ∧ FnOk P w K mg base (L2.CX P w) n f fd ps (spG K k g)
theorem pe_call0S {k : Nat} {f : Addr} {fd : FuncData} {ps : List Str} {sp : Sp} {E : L2.St → XK} {x : Str} {p : Pos} (F : FnOk X.prog X.w X.K X.mg X.base (L2.CX X.prog X.w) k f fd ps sp) (hr : Room k X.A) (hg : Gl X x) (hm : X.mg x = some (.ref f)) (hk : PySem.W.keepIn X.K (.ref f) = true) (hb : Binds X.K fd ps [])
    (hx : ∀ σ, PassesAt (L2.CX X.prog X.w) X σ (E σ)) (hdb : (x == ("__debug__" : Str)) = false := by decide) : PE X (.Call (.Name x p) [] [] pos) (tCallS sp E tNil) := by
  refine ⟨fun pins
        s σ H Q I h => ?_⟩
  refine wpAny_Call_Name_kw
        (ld_glob I hg hm ?_ hdb)
  exact PySem.W.callWith_K0 I.kIn hk (run_fnS (us := []) F hr hb (hx σ) I .nil h)
theorem se_call {x : Str} {p : Pos} {k : Nat} {g : Fn1} (q : Cq Kf X B W n) (F : Fnc X.prog X.w X.K X.mg X.base n x k g) (hg : Gl X x) (hs : SA X B W (e :: es) ts ms) (hdb : (x == ("__debug__" : Str)) = false := by decide)
    (he : starEach (e :: es) X.env = (false, eval e X.env) :: starEach es X.env := by rfl) (hpl : (backTo pos (starEach es X.env)).any (·.1) = false := by rfl) : SE X B W (.Call (.Name x p) (e :: es) [] pos) (tCallS (spG Kf k g) (WE W) ts) (mCall k g ms) := by
  cases q.hX
  obtain ⟨f, fd, ps, h1, h2, h3, h4⟩ := F.ex
  exact ⟨pe_callS h4 q.hr hg h1 h2 h3 (fun σ => passAt q.tk σ) hs.pa hdb he hpl, by rw [q.hK]; exact sim_call hs.sim⟩
theorem se_call0 {x : Str} {p : Pos} {k : Nat} {g : Fn1} (q : Cq Kf X B W n) (F : Fnc X.prog X.w X.K X.mg X.base n x k g) (hg : Gl X x) (hdb : (x == ("__debug__" : Str)) = false := by decide) : SE X B W (.Call (.Name x p) [] [] pos) (tCallS (spG Kf k g) (WE W) tNil) (mCall k g mNil) := by
  cases q.hX
  obtain ⟨f, fd, ps, h1, h2, h3, h4⟩ := F.ex
  exact ⟨pe_call0S h4 q.hr hg h1 h2 h3 (fun σ => passAt q.tk σ) hdb, by rw [q.hK]; exact sim_call (sa_nil (X := X)).sim⟩
end
end DL
set_option Elab.async false
set_option linter.all false
set_option maxRecDepth 100000
set_option
      maxHeartbeats 4000000
/-! DLF: built-ins called by their names. -/
namespace DL
open PySem PySem.Spec
      PyProof.Rows L2
def CaS (B : Bs) (W : WX) (r : List V → Hp → VK → Prop) (f : List D → M D) : Prop :=
  ∀ ds ρ w res, f ds ρ w = some res → ∀ F σ H vs, Ok B F ρ w σ H → RpAll B.K F vs ds → ∀ Q, Post B W (RV B) res F σ Q → r vs H Q
section
variable {X : Cx} {Kf : PySem.W.Frag} {B : Bs} {W : WX} {n : Nat} {a b c e : Expr} {es : List Expr} {ta tb tc te : TE} {ma mb mc me : M D} {pos p p2 : Pos} {ts : TA} {ms : M (List D)} {r : List V → Hp → VK → Prop} {x : Str}
theorem CaS.pure {f : List D → Option D} (h : ∀ ds d, f ds = some d → ∀ (F H : Hp) vs, Sub F H → RpAll B.K F vs ds → ∀ Q : VK, (∀ v, Rp B.K F v d → Q v H) → (∀ us ds', d = .tup ds' → RpAll B.K F us ds' → NewT us H Q) →
    (∀ us ds', d = .lst ds' → RpAll B.K F us ds' → ∀ p, H p = none → Q (.ref p) (upd H p (.lst us))) → r vs H Q) : CaS B W r fun ds => lft (f ds) := by
  intro ds ρ w res hres F σ H vs ok rs Q p
  obtain ⟨d, hd, e⟩ := lft_some hres
  subst e
  refine h ds d hd F H vs ok.sub rs Q (fun v rv => p v F H (Sub.refl F) ok rv) (fun us ds' ed ru q o hq po => ?_) (fun us ds' ed ru q hq => ?_)
  · subst ed
    obtain ⟨s, ok'⟩ := ok.laid hq (.frz o (.tup us))
    exact p _ _ _ s ok' (.tup (.inl ⟨o, upd_same, po⟩) (ru.up s))
  · subst ed
    obtain ⟨s, ok'⟩ := ok.laid hq (.lst us)
    exact p _ _ _ s ok' (.lst upd_same (ru.up s))
theorem sim_cb {f : List D → M D} (hs : CaS B W r f) (h : Sim B W (RA B) ts ms) : Sim B W (RV B) (tCB r ts) (bnd ms f) :=
  Sim.bnd (R' := RV B) (tk := fun vs σ H Q => r vs H Q) h fun ds ρ w res hr vs F σ H ok rs Q p => hs ds ρ w res hr F σ H vs ok rs Q p
theorem se_cb {f : List D → M D} {id : String} (hc : CallR X (.builtin id) r) (hs : CaS B W r f) (hg : Gl X x) (hm : X.mg x = none) (hv : bootBuiltins x = some (.builtin id)) (ha : SA X B W (e :: es) ts ms) (hn : x ≠ "__name__" := by decide) (hdb : (x == ("__debug__" : Str)) = false := by decide)
    (he : starEach (e :: es) X.env = (false, eval e X.env) :: starEach es X.env := by rfl) (hpl : (backTo pos (starEach es X.env)).any (·.1) = false := by rfl) : SE X B W (.Call (.Name x p) (e :: es) [] pos) (tCB r ts) (bnd ms f) := ⟨pe_callB hc hg hm hv ha.pa hn hdb he hpl, sim_cb hs ha.sim⟩
theorem se_ct {f : List D → M D} {T : String} (hc : CallR X (.type T) r) (hs : CaS B W r f) (hg : Gl X x) (hm : X.mg x = none) (hv : bootBuiltins x = some (.type T)) (ha : SA X B W (e :: es) ts ms) (hn : x ≠ "__name__" := by decide) (hdb : (x == ("__debug__" : Str)) = false := by decide)
    (he : starEach (e :: es) X.env = (false, eval e X.env) :: starEach es X.env := by rfl) (hpl : (backTo pos (starEach es X.env)).any (·.1) = false := by rfl) : SE X B W (.Call (.Name x p) (e :: es) [] pos) (tCB r ts) (bnd ms f) := ⟨pe_callTy hc hg hm hv ha.pa hn hdb he hpl, sim_cb hs ha.sim⟩
theorem RpAll.one {K : PySem.W.Frag} {F : Hp} {vs : List V} {d : D} (h : RpAll K F vs [d]) : ∃ v, vs = [v] ∧ Rp K F v d := by
  cases h with
  | cons h1 h2 => cases h2; exact ⟨_, rfl, h1⟩
theorem RpAll.two {K : PySem.W.Frag} {F : Hp} {vs : List V} {d d' : D} (h : RpAll K F vs [d, d']) : ∃ v u, vs = [v, u] ∧ Rp K F v d ∧ Rp K F u d' := by
  cases h with
  | cons h1 h2 =>
    obtain ⟨u, e, h3⟩ := h2.one
    subst e
    exact ⟨_, _, rfl, h1, h3⟩
/-! ### len -/
def lenD : List D → Option D
  | [.tup xs] => some (.int xs.length)
  | [.lst xs] => some (.int xs.length)
  | [.str x] => if x.length ≤ 100000 then some (.int x.length) else none
  | _ => none
def rLenA (K : PySem.W.Frag) : List V → Hp → VK → Prop := fun xs H Q => ∃ x n, xs = [x] ∧ LenV K x H n ∧ Q (.int n) H
theorem call_lenA : CallR X (.builtin "len") (rLenA X.K) := call_len
theorem cas_len : CaS B W (rLenA B.K) fun ds => lft (lenD ds) := by
  refine .pure fun ds d h F H vs sub rs Q q _ _ => ?_
  unfold lenD at h
  split at h
  · cases h
    obtain ⟨v, e, rv⟩ := rs.one
    subst e
    cases rv with
    | tup h1 r1 => exact ⟨_, _, rfl, .inr ⟨_, (sub.sqP h1).sqT, rfl⟩, by rw [r1.length]; exact q _ (.int _)⟩
  · cases h
    obtain ⟨v, e, rv⟩ := rs.one
    subst e
    cases rv with
    | lst h1 r1 => exact ⟨_, _, rfl, .inl ⟨_, SqL.of (sub _ _ h1), rfl⟩, by rw [r1.length]; exact q _ (.int _)⟩
  · split at h
    · rename_i hl
      cases h
      obtain ⟨v, e, rv⟩ := rs.one
      subst e
      cases rv
      exact ⟨_, _, rfl, ⟨small hl, rfl⟩, q _ (.int _)⟩
    · cases h
  · cases h
theorem se_len (q : Cq Kf X B W n) (hg : Gl X "len") (hm : X.mg "len" = none) (ha : SA X B W (e :: es) ts ms) (he : starEach (e :: es) X.env = (false, eval e X.env) :: starEach es X.env := by rfl) (hpl : (backTo pos (starEach es X.env)).any (·.1) = false := by rfl) :
    SE X B W (.Call (.Name "len" p) (e :: es) [] pos) (tCB (rLenA Kf) ts) (bnd ms fun ds => lft (lenD ds)) := by
  cases q.hX
  exact se_cb call_lenA (by rw [q.hK]; exact cas_len) hg hm PySem.boot_len ha (by decide) (by decide) he hpl
/-! ### int, abs -/
def int1D : List D → Option D
  | [.int i] => some (.int i)
  | [.bl k] => some (.int (if k then 1 else 0))
  | _ => none
def rInt1 : List V → Hp → VK → Prop := fun xs H Q => (∃ i, xs = [.int i] ∧ Q (.int i) H) ∨ ∃ k, xs = [.bl k] ∧ Q (.int (if k then 1 else 0)) H
theorem cas_int : CaS B W rInt1 fun ds => lft (int1D ds) := by
  refine .pure fun ds d h F H vs sub rs Q q _ _ => ?_
  unfold int1D at h
  split at h
  · cases h
    obtain ⟨v, e, rv⟩ := rs.one
    subst e
    cases rv
    exact .inl ⟨_, rfl, q _ (.int _)⟩
  · cases h
    obtain ⟨v, e, rv⟩ := rs.one
    subst e
    cases rv
    exact .inr ⟨_, rfl, q _ (.int _)⟩
  · cases h
theorem se_int1 (hg : Gl X "int") (hm : X.mg "int" = none) (ha : SA X B W (e :: es) ts ms) (he : starEach (e :: es) X.env = (false, eval e X.env) :: starEach es X.env := by rfl) (hpl : (backTo pos (starEach es X.env)).any (·.1) = false := by rfl) :
    SE X B W (.Call (.Name "int" p) (e :: es) [] pos) (tCB rInt1 ts) (bnd ms fun ds => lft (int1D ds)) := se_ct call_int1 cas_int hg hm PyProof.Rows.boot_int ha (by decide) (by decide) he hpl
def absD : List D → Option D
  | [.int i] => some (.int (if i < 0 then -i else i))
  | _ => none
def rAbs : List V → Hp → VK → Prop := fun xs H Q => ∃ i, xs = [.int i] ∧ Q (.int (if i < 0 then -i else i)) H
theorem cas_abs : CaS B W rAbs fun ds => lft (absD ds) := by
  refine .pure fun ds d h F H vs sub rs Q q _ _ => ?_
  unfold absD at h
  split at h
  · cases h
    obtain ⟨v, e, rv⟩ := rs.one
    subst e
    cases rv
    exact ⟨_, rfl, q _ (.int _)⟩
  · cases h
theorem se_abs (hg : Gl X "abs") (hm : X.mg "abs" = none) (ha : SA X B W (e :: es) ts ms) (he : starEach (e :: es) X.env = (false, eval e X.env) :: starEach es X.env := by rfl) (hpl : (backTo pos (starEach es X.env)).any (·.1) = false := by rfl) :
    SE X B W (.Call (.Name "abs" p) (e :: es) [] pos) (tCB rAbs ts) (bnd ms fun ds => lft (absD ds)) := se_cb call_abs cas_abs hg hm PyProof.Rows.boot_abs ha (by decide) (by decide) he hpl
/-! ### list, tuple of a list, a tuple -/
def listD : List D → Option D
  | [.tup xs] => some (.lst xs)
  | [.lst xs] => some (.lst xs)
  | _ => none
def rListA (K : PySem.W.Frag) : List V → Hp → VK → Prop := fun xs H Q => ∃ p ys, xs = [.ref p] ∧ (SqL K H p ys ∨ SqT K H p ys) ∧ ∀ l, H l = none → Q (.ref l) (upd H l (.lst ys))
theorem call_listA : CallR X (.type "list") (rListA X.K) := call_list_of
theorem cas_list : CaS B W (rListA B.K) fun ds => lft (listD ds) := by
  refine .pure fun ds d h F H vs sub rs Q q qt ql => ?_
  unfold listD at h
  split at h
  · cases h
    obtain ⟨v, e, rv⟩ := rs.one
    subst e
    cases rv with
    | tup h1 r1 => exact ⟨_, _, rfl, .inr (sub.sqP h1).sqT, fun l hl => ql _ _ rfl r1 l hl⟩
  · cases h
    obtain ⟨v, e, rv⟩ := rs.one
    subst e
    cases rv with
    | lst h1 r1 => exact ⟨_, _, rfl, .inl (SqL.of (sub _ _ h1)), fun l hl => ql _ _ rfl r1 l hl⟩
  · cases h
theorem se_list (q : Cq Kf X B W n) (hg : Gl X "list") (hm : X.mg "list" = none) (ha : SA X B W (e :: es) ts ms) (he : starEach (e :: es) X.env = (false, eval e X.env) :: starEach es X.env := by rfl) (hpl : (backTo pos (starEach es X.env)).any (·.1) = false := by rfl) :
    SE X B W (.Call (.Name "list" p) (e :: es) [] pos) (tCB (rListA Kf) ts) (bnd ms fun ds => lft (listD ds)) := by
  cases q.hX
  exact se_ct call_listA (by rw [q.hK]; exact cas_list) hg hm PyProof.Rows.boot_list ha (by decide) (by decide) he hpl
def tupleD : List D → Option D
  | [.tup xs] => some (.tup xs)
  | [.lst xs] => some (.tup xs)
  | _ => none
theorem cas_tuple : CaS B W (rTupP B.K) fun ds => lft (tupleD ds) := by
  refine .pure fun ds d h F H vs sub rs Q q qt ql => ?_
  unfold tupleD at h
  split at h
  · cases h
    obtain ⟨v, e, rv⟩ := rs.one
    subst e
    cases rv with
    | tup h1 r1 => exact ⟨_, _, rfl, .inr ⟨(sub.sqP h1).sqT, q _ (.tup h1 r1)⟩⟩
  · cases h
    obtain ⟨v, e, rv⟩ := rs.one
    subst e
    cases rv with
    | lst h1 r1 => exact ⟨_, _, rfl, .inl ⟨SqL.of (sub _ _ h1), qt _ _ rfl r1⟩⟩
  · cases h
theorem se_tuple (q : Cq Kf X B W n) (hg : Gl X "tuple") (hm : X.mg "tuple" = none) (ha : SA X B W (e :: es) ts ms) (he : starEach (e :: es) X.env = (false, eval e X.env) :: starEach es X.env := by rfl) (hpl : (backTo pos (starEach es X.env)).any (·.1) = false := by rfl) :
    SE X B W (.Call (.Name "tuple" p) (e :: es) [] pos) (tCB (rTupP Kf) ts) (bnd ms fun ds => lft (tupleD ds)) := by
  cases q.hX
  exact se_ct call_tupP (by rw [q.hK]; exact cas_tuple) hg hm PyProof.Rows.boot_tuple ha (by decide) (by decide) he hpl
/-! ### all, any of a list of bools -/
def bools : List D → Option (List Bool)
  | [] => some []
  | .bl b :: r => (bools r).map (b :: ·)
  | _ => none
theorem bools_rp {K : PySem.W.Frag} {F : Hp} : ∀ {ds : List D} {vs : List V} {bs : List Bool}, bools ds = some bs → RpAll K F vs ds → vs = bs.map V.bl
  | [], vs, bs, h, r => by cases h; cases r; rfl
  | d :: ds, vs, bs, h, r => by
    unfold bools at h
    split at h
    · rename_i e
      cases e
    · rename_i b r' e
      cases e
      cases hb : bools ds with
      | none => rw [hb]
            at h; cases h
      | some bs' =>
        rw [hb] at h
        cases h
        cases r with
        | cons r1 r2 =>
          cases r1
          rw [bools_rp hb r2]
          rfl
    · cases h
def allD : List D → Option D
  | [.lst xs] => (bools xs).map fun bs => .bl (bs.all id)
  | _ => none
def anyD : List D → Option D
  | [.lst xs] => (bools xs).map fun bs => .bl (bs.any id)
  | _ => none
theorem cas_all : CaS B W (rAll B.K) fun ds => lft (allD ds) := by
  refine .pure fun ds d h F H vs sub rs Q q _ _ => ?_
  unfold allD at h
  split at h
  · rename_i xs
    cases hb : bools xs with
    | none => rw [hb]
          at h; cases h
    | some bs =>
      rw [hb] at h
      cases h
      obtain ⟨v, e, rv⟩ := rs.one
      subst e
      cases rv with
      | lst h1 r1 =>
        have e := bools_rp hb r1
        subst e
        exact ⟨_, bs, rfl, SqL.of (sub _ _ h1), q _ (.bl _)⟩
  · cases h
theorem cas_any : CaS B W (rAny B.K) fun ds => lft (anyD ds) := by
  refine .pure fun ds d h F H vs sub rs Q q _ _ => ?_
  unfold anyD at h
  split at h
  · rename_i xs
    cases hb : bools xs with
    | none => rw [hb]
          at h; cases h
    | some bs =>
      rw [hb] at h
      cases h
      obtain ⟨v, e, rv⟩ := rs.one
      subst e
      cases rv with
      | lst h1 r1 =>
        have e := bools_rp hb r1
        subst e
        exact ⟨_, bs, rfl, SqL.of (sub _ _ h1), q _ (.bl _)⟩
  · cases h
theorem se_all (q : Cq Kf X B W n) (hg : Gl X "all") (hm : X.mg "all" = none) (ha : SA X B W (e :: es) ts ms) (he : starEach (e :: es) X.env = (false, eval e X.env) :: starEach es X.env := by rfl) (hpl : (backTo pos (starEach es X.env)).any (·.1) = false := by rfl) :
    SE X B W (.Call (.Name "all" p) (e :: es) [] pos) (tCB (rAll Kf) ts) (bnd ms fun ds => lft (allD ds)) := by
  cases q.hX
  exact se_cb (cr_all q.calm) (by rw [q.hK]; exact cas_all) hg hm (by decide +kernel) ha (by decide) (by decide) he hpl
theorem se_any (q : Cq Kf X B W n) (hg : Gl X "any") (hm : X.mg "any" = none) (ha : SA X B W (e :: es) ts ms) (he : starEach (e :: es) X.env = (false, eval e X.env) :: starEach es X.env := by rfl) (hpl : (backTo pos (starEach es X.env)).any (·.1) = false := by rfl) :
    SE X B W (.Call (.Name "any" p) (e :: es) [] pos) (tCB (rAny Kf) ts) (bnd ms fun ds => lft (anyD ds)) := by
  cases q.hX
  exact se_cb (cr_any q.calm) (by rw [q.hK]; exact cas_any) hg hm (by decide +kernel) ha (by decide) (by decide) he hpl
/-! ### isinstance -/
def tyD : D → Option String
  | .non => some "NoneType"
  | .bl _ => some "bool"
  | .int _ => some "int"
  | .str _ => some "str"
  | .tup _ => some "tuple"
  | .lst _ => some "list"
  | .dct _ _ => some "dict"
  | .raw _ => none
  | .fn _ => none
  | .pr _ _ => none
  | .rol _ => none
def kinds : List String := ["NoneType", "bool", "int", "str", "tuple", "list", "dict"]
def isK (t T : String) : Bool := t == T || (t == "bool" && T == "int")
theorem kit_all : (kinds.all fun t => kinds.all fun T => T == "NoneType" || kitB t T == some (isK t T)) = true := by decide +kernel
theorem tyD_mem {d : D} {t : String} (h : tyD d = some t) : t ∈ kinds := by
  cases d <;> cases h <;> decide
theorem tyD_x {K : PySem.W.Frag} {F H : Hp} {v : V} {d : D} {t : String} (s : Sub F H) (r : Rp K F v d) (h : tyD d = some t) : TyX K H v (.type t) := by
  cases d with
  | non => cases h; cases r; exact .base .non
  | bl b => cases h; cases r; exact .base (.bl b)
  | int i => cases h; cases r; exact .base (.int i)
  | str x => cases h; cases r; exact .base (.str x)
  | tup l =>
    cases h
    cases r with
    | tup h1 r1 =>
      rcases (s.sqP h1).sqT with (h1 | ⟨o, h1⟩) | ⟨o, its, n, h1, h2, _⟩
      · exact .base (.tup h1)
      · exact .fTuple h1
      · exact .kTuple h1 h2
  | lst l =>
    cases h
    cases r with
    | lst h1 r1 => exact .base (.lst (s _ _ h1))
  | dct ks l =>
    cases h
    cases r with
    | dct h1 h2 r1 => exact .base (.dK (s _ _ h1))
  | raw v => cases h
  | fn x => cases h
  | pr a b => cases h
  | rol l => cases h
def isiD : List D → Option D
  | [d, .raw (.ty T)] => if kinds.contains T && T != "NoneType" then (tyD d).map fun t => .bl (isK t T) else none
  | _ => none
theorem cas_isi : CaS B W (rIsi B.K) fun ds => lft (isiD ds) := by
  refine .pure fun ds d h F H vs sub rs Q q _ _ => ?_
  unfold isiD at h
  split at h
  · rename_i d1 T
    split at h
    · rename_i hT
      cases ht : tyD d1 with
      | none => rw [ht]
            at h; cases h
      | some t =>
        rw [ht] at h
        cases h
        obtain ⟨v, u, e, rv, ru⟩ := rs.two
        subst e
        cases ru
        rw [Bool.and_eq_true] at hT
        have k := kit_all
        rw [List.all_eq_true] at k
        have k1 := k t (tyD_mem ht)
        rw [List.all_eq_true] at k1
        have k2 := k1 T (List.contains_iff_mem.mp hT.1)
        have k3 : (T == "NoneType") = false := by simpa [bne] using hT.2
        rw [k3, Bool.false_or] at k2
        exact ⟨_, _, _, _, _, rfl, .ty T, tyD_x sub rv ht, kit_ty (eq_of_beq k2), q _ (.bl _)⟩
    · cases h
  · cases h
theorem se_isi (q : Cq Kf X B W n) (hg : Gl X "isinstance") (hm : X.mg "isinstance" = none) (ha : SA X B W (e :: es) ts ms) (he : starEach (e :: es) X.env = (false, eval e X.env) :: starEach es X.env := by rfl) (hpl : (backTo pos (starEach es X.env)).any (·.1) = false := by rfl) :
    SE X B W (.Call (.Name "isinstance" p) (e :: es) [] pos) (tCB (rIsi Kf) ts) (bnd ms fun ds => lft (isiD ds)) := by
  cases q.hX
  exact se_cb call_isi (by rw [q.hK]; exact cas_isi) hg hm PyProof.Rows.boot_isinstance ha (by decide) (by decide) he hpl
/-- a built-in type by its name, as a value -/
theorem se_ty {T : String} (hg : Gl X x) (hm : X.mg x = none) (hv : bootBuiltins x = some (.type T)) (hn : x ≠ "__name__" := by decide) (hdb : (x == ("__debug__" : Str)) = false := by decide) : SE X B W (.Name x pos) (tC (.ty T)) (ret (.raw (.ty T))) := ⟨pe_bltn hg hm hv rfl hn hdb, sim_c fun _ => .raw _⟩
end
end DL
set_option Elab.async false
set_option linter.all false
set_option maxRecDepth 100000
set_option
      maxHeartbeats 4000000
/-! DLG: targets, what is walked, comprehensions. -/
namespace DL
open PySem PySem.Spec
      PyProof.Rows L2
/-! ### the entry with one more object that must stay -/
def Bs.plus (B : Bs) (D : Addr) (o : HO) : Bs := { B with H := upd B.H D o }
section
variable {B : Bs} {F : Hp} {ρ : Rho} {w : Wo} {σ : L2.St} {H : Hp}
theorem Ok.plus (k : Ok B F ρ w σ H) {L : Addr} {ds : List D} (n : New B F ρ w σ H L ds) {vs : List V} (h : H L = some (.lst vs)) : Ok (B.plus L (.lst vs)) F ρ w σ H := by
  obtain ⟨_, hF, h0, hw, hs⟩ := n
  refine ⟨k.sub, ⟨k.go.sub, fun a o e m => ?_, fun a o e => ?_, k.go.old, fun a e => ?_⟩, k.wd, k.len, k.val, fun i es e => ?_, k.inj⟩
  · by_cases ha : a = L
    · subst ha
      have e : upd B.H a (.lst vs) a = some o := e
      rw [upd_same] at e
      rw [h]
      exact e
    · have e : upd B.H L (.lst vs) a = some o := e
      rw [upd_ne ha] at e
      exact k.go.keep a o e m
  · rcases k.go.frs a o e with z | z
    · exact .inl z
    · refine .inr ?_
      show upd B.H L (.lst vs) a = none
      rw [upd_ne (fun q => by rw [q, hF] at e; cases e)]
      exact z
  · rcases k.go.new a e with z | z
    · exact .inl z
    · refine .inr ?_
      show upd B.H L (.lst vs) a = none
      rw [upd_ne (fun q => hw (by rw [← q]; exact e))]
      exact z
  · obtain ⟨a, us, h1, h2, h3, h4, h5, h6⟩ := k.own i es e
    refine ⟨a, us, h1, h2, h3, ?_, h5, h6⟩
    show upd B.H L (.lst vs) a = none
    rw [upd_ne (fun q => hs i es e (by rw [h1, q]))]
    exact h4
/-- the addresses of the world at the entry are old -/
theorem Ok.minus {L : Addr} {vs : List V} {es : List D} {F1 : Hp} (h0 : B.H L = none) (hw : L ∉ adr B.w) (hF : B.F L = none) (r : RpAll B.K F1 vs es) (s : Sub F1 F) (k : Ok (B.plus L (.lst vs)) F ρ w σ H) : Ok B F ρ w σ H ∧ New B F ρ w σ H L es ∧ H L = some (.lst vs) := by
  have hL : H L = some (.lst vs) := k.go.keep L _ (show upd B.H L (.lst vs) L = _ from upd_same) hw
  have back : ∀ a, (B.plus L (.lst vs)).H a = none → B.H a = none := fun a e => by
    have e : upd B.H L (.lst vs) a = none := e
    by_cases ha : a = L
    · subst ha
      rw [upd_same] at e
      cases e
    · rw [upd_ne ha] at e
      exact e
  have nw : L ∉ adr w := fun z => by
    rcases k.go.new L z with q | q
    · exact hw q
    · have q : upd B.H L (.lst vs) L = none := q
      rw [upd_same] at q
      cases q
  have nF : F L = none := by
    cases q : F L with
    | none => rfl
    | some o =>
      rcases k.go.frs L o q with z | z
      · have z : B.F L = some o := z
        rw [hF] at z
        cases z
      · have z : upd B.H L (.lst vs) L = none := z
        rw [upd_same] at z
        cases z
  refine ⟨⟨k.sub, ⟨k.go.sub, fun a o e m => k.go.keep a o ?_ m, fun a o e => (k.go.frs a o e).elim .inl fun z => .inr (back a z), k.go.old, fun a e => (k.go.new a e).elim .inl fun z => .inr (back a z)⟩, k.wd, k.len, k.val, fun i fs e => ?_, k.inj⟩, ⟨⟨vs, hL, r.up s⟩, nF, h0, nw, fun i fs e z => ?_⟩, hL⟩
  · show upd B.H L (.lst vs) a = some o
    rw [upd_ne (fun q => by rw [q, h0] at e; cases e)]
    exact e
  · obtain ⟨a, us, h1, h2, h3, h4, h5, h6⟩ := k.own i fs e
    exact ⟨a, us, h1, h2, h3, back a h4, h5, h6⟩
  · obtain ⟨a, us, h1, h2, h3, h4, h5, h6⟩ := k.own i fs e
    rw [h1] at z
    cases z
    have h4 : upd B.H L (.lst vs) L = none := h4
    rw [upd_same] at h4
    cases h4
/-- a list that nobody holds may change -/
theorem Ok.grow (k : Ok B F ρ w σ H) {L : Addr} {es : List D} (n : New B F ρ w σ H L es) {us : List V} : Ok B F ρ w σ (upd H L (.lst us)) := by
  obtain ⟨_, hF, h0, hw, hs⟩ := n
  refine ⟨fun a o e => ?_, ⟨k.go.sub, fun a o e m => ?_, k.go.frs, k.go.old, k.go.new⟩, wd_upd k.wd hw fun _ _ => rfl, k.len, k.val, fun i fs e => ?_, k.inj⟩
  · rw [upd_ne (fun z => by rw [z, hF] at e; cases e)]
    exact k.sub a o e
  · rw [upd_ne (fun z => by rw [z, h0] at e; cases e)]
    exact k.go.keep a o e m
  · obtain ⟨a, vs, h1, h2, h3, h4, h5, h6⟩ := k.own i fs e
    exact ⟨a, vs, h1, by rw [upd_ne (fun z => hs i fs e (by rw [h1, z]))]; exact h2, h3, h4, h5, h6⟩
/-- slots forgotten -/
def wipeR (ρ : Rho) : List Nat → Rho
  | [] => ρ
  | v :: vs => (wipeR ρ vs).set v .free
theorem Ok.free1 (k : Ok B F ρ w σ H) (i : Nat) : Ok B F (ρ.set i .free) w (σ.set i none) H := by
  have ne : ∀ (j : Nat) (s : Slot), s ≠ .free → (ρ.set i Slot.free)[j]? = some s → i ≠ j ∧ ρ[j]? = some s := fun j s hs e => by
    by_cases hj : i = j
    · subst hj
      obtain ⟨q, _⟩ := get_set_self e
      exact absurd q.symm hs
    · exact ⟨hj, get_set_ne hj e⟩
  refine ⟨k.sub, k.go, k.wd, by rw [List.length_set, List.length_set]; exact k.len, fun j d e => ?_, fun j d e => ?_, fun j l a dj dl h1 h2 h3 h4 => ?_⟩
  · obtain ⟨n, e⟩ := ne j (.val d) (fun z => nomatch z) e
    obtain ⟨v, h1, h2⟩ := k.val j d e
    exact ⟨v, by rw [List.getElem?_set_ne n]; exact h1, h2⟩
  · obtain ⟨n, e⟩ := ne j (.own d) (fun z => nomatch z) e
    obtain ⟨a, us, h1, h2⟩ := k.own j d e
    exact ⟨a, us, by rw [List.getElem?_set_ne n]; exact h1, h2⟩
  · obtain ⟨n1, e1⟩ := ne j (.own dj) (fun z => nomatch z) h1
    obtain ⟨n2, e2⟩ := ne l (.own dl) (fun z => nomatch z) h2
    rw [List.getElem?_set_ne n1] at h3
    rw [List.getElem?_set_ne n2] at h4
    exact k.inj j l a dj dl e1 e2 h3 h4
theorem Ok.wiped (k : Ok B F ρ w σ H) : ∀ vs : List Nat, Ok B F (wipeR ρ vs) w (wipe σ vs) H
  | [] => k
  | v :: vs => (Ok.wiped k vs).free1 v
/-- the wiped slots may hold anything in σ -/
theorem Ok.unwipe {vs : List Nat} (k : Ok B F (wipeR ρ vs) w (wipe σ vs) H) : Ok B F (wipeR ρ vs) w σ H := by
  have up : ∀ (i : Nat) (x : V), (wipe σ vs)[i]? = some (some x) → σ[i]? = some (some x) := fun i x e => (wipe_some e).1
  refine ⟨k.sub, k.go, k.wd, by rw [← wipe_length σ vs]; exact k.len, fun j d e => ?_, fun j d e => ?_, fun j l a dj dl h1 h2 h3 h4 => ?_⟩
  · obtain ⟨v, h1, h2⟩ := k.val j d e
    exact ⟨v, up _ _ h1, h2⟩
  · obtain ⟨a, us, h1, h2⟩ := k.own j d e
    exact ⟨a, us, up _ _ h1, h2⟩
  · obtain ⟨a1, u1, g1, _⟩ := k.own j dj h1
    obtain ⟨a2, u2, g2, _⟩ := k.own l dl h2
    have q1 := up _ _ g1
    have q2 := up _ _ g2
    rw [h3] at q1
    rw [h4] at q2
    cases q1
    cases q2
    exact k.inj j l a dj dl h1 h2 g1 g2
theorem New.to {L : Addr} {es : List D} {ρ' : Rho} {σ' : L2.St} (n : New B F ρ w σ H L es) (h : ∀ (i : Nat) (ds : List D), ρ'[i]? = some (Slot.own ds) → ρ[i]? = some (Slot.own ds) ∧ (σ'[i]? = some (some (V.ref L)) → σ[i]? = some (some (V.ref L)))) : New B F ρ' w σ' H L es :=
  ⟨n.at', n.nF, n.n0, n.nw, fun i ds e z => n.ns i ds (h i ds e).1 ((h i ds e).2 z)⟩
theorem wipeR_own : ∀ {vs : List Nat} {i : Nat} {es : List D}, (wipeR ρ vs)[i]? = some (Slot.own es) → ρ[i]? = some (Slot.own es) ∧ i ∉ vs
  | [], i, es, h => ⟨h, by simp⟩
  | v :: vs, i, es, h => by
    unfold wipeR at h
    by_cases hi : v = i
    · subst hi
      obtain ⟨q, _⟩ := get_set_self h
      cases q
    · obtain ⟨h1, h2⟩ := wipeR_own (get_set_ne hi h)
      refine ⟨h1, fun z => ?_⟩
      rcases List.mem_cons.mp
            z with z | z
      · exact hi z.symm
      · exact h2 z
end

/-! ### targets -/
section
variable {X : Cx} {Kf : PySem.W.Frag} {B : Bs} {W : WX} {n : Nat} {a b c e : Expr} {es : List Expr} {ta tb tc te : TE} {ma mb mc me : M D} {pos p p2 : Pos} {ts : TA} {ms : M (List D)} {x : Str}
/-- only the slots vs are touched -/
def Touch (vs : List Nat) (σ σ' : L2.St) : Prop := ∀ own : List Nat, (∀ i ∈ vs, i ∈ own) → wipe σ' own = wipe σ own
theorem wipe_set {i : Nat} {o : Option V} {σ : L2.St} : ∀ {own : List Nat}, i ∈ own → wipe (σ.set i o) own = wipe σ own
  | [], h => by cases h
  | v :: r, h => by
    show (wipe (σ.set i o) r).set v none = (wipe σ r).set v none
    by_cases hv : v = i
    · subst hv
      by_cases hr : v ∈ r
      · rw [wipe_set hr]
      · have e : ∀ (r : List Nat), v ∉ r → wipe (σ.set v o) r = (wipe σ r).set v o := by
          intro r
          induction r with
          | nil => intro _; rfl
          | cons u r ih =>
            intro h
            show (wipe (σ.set v o) r).set u none = ((wipe σ r).set u none).set v o
            rw [ih fun z => h (List.mem_cons_of_mem _ z), List.set_comm _ _ fun z => h (by rw [z]; exact List.mem_cons_self)]
        rw [e r hr, List.set_set]
    · rw [wipe_set ((List.mem_cons.mp h).resolve_left fun z => hv z.symm)]
theorem Touch.set (σ : L2.St) (i : Nat) (o : Option V) : Touch [i] σ (σ.set i o) := fun own h => wipe_set (h i List.mem_cons_self)
theorem Touch.refl (σ : L2.St) : Touch [] σ σ := fun _ _ => rfl
theorem Touch.app {vs us : List Nat} {σ σ1 σ2 : L2.St} (a : Touch vs σ σ1) (b : Touch us σ1 σ2) : Touch (vs ++ us) σ σ2 := fun own h => (b own fun i hi => h i (List.mem_append_right _ hi)).trans (a own fun i hi => h i (List.mem_append_left _ hi))
structure SG (X : Cx) (B : Bs) (vs : List Nat) (e : Expr) (g : TG) (m : D → Rho → Option Rho) : Prop where
  pg : PG X e g
  sim : ∀ d ρ ρ', m d ρ = some ρ' → ∀ F w σ H v, Ok B F ρ w σ H → Rp B.K F v d → ∀ Q : L2.St → Hp → Prop, (∀ σ', Touch vs σ σ' → Ok B F ρ' w σ' H → Q σ' H) → g v σ H Q
structure SGs (X : Cx) (B : Bs) (vs : List Nat) (es : List Expr) (g : TGs) (m : List D → Rho → Option Rho) : Prop where
  pg : PGs X es g
  sim : ∀ ds ρ ρ', m ds ρ = some ρ' → ∀ F w σ H us, Ok B F ρ w σ H → RpAll B.K F us ds → ∀ Q : L2.St → Hp → Prop, (∀ σ', Touch vs σ σ' → Ok B F ρ' w σ' H → Q σ' H) → g us σ H Q
def bName (i : Nat) (d : D) (ρ : Rho) : Option Rho := some (ρ.set i (.val d))
theorem sg_name (i : Nat) (hN : X.N.Nodup) (hi : X.N[i]? = some x := by rfl) (hx : Loc X.env.scope x := by first | exact Or.inl rfl | exact Or.inr rfl) (hf : X.fn x = true ∨ X.env.scope.names.lookup x = some .local := by first | exact .inl rfl | exact .inr rfl) : SG X B [i] (.Name x pos) (gName i) (bName i) :=
  ⟨pg_name hN hi hx hf, fun d ρ ρ' h F w σ H v ok rv Q q => by
    cases h
    exact q _ (Touch.set _ _ _) (ok.setV i rv)⟩
def bNil : List D → Rho → Option Rho
  | [], ρ => some ρ
  | _, _ => none
def bCons (m : D → Rho → Option Rho) (ms : List D → Rho → Option Rho) : List D → Rho → Option Rho
  | d :: ds, ρ => (m d ρ).bind (ms ds)
  | _, _ => none
theorem sgs_nil : SGs X B [] [] gNil bNil := ⟨pgs_nil, fun ds ρ ρ' h F w σ H vs ok rs Q q => by
  cases ds with
  | nil =>
    cases h
    cases rs
    exact ⟨rfl, q _ (Touch.refl _) ok⟩
  | cons d ds => cases h⟩
theorem sgs_cons {vs us : List Nat} {g : TG} {gs : TGs} {m : D → Rho → Option Rho} {ms : List D → Rho → Option Rho} (h1 : SG X B vs e g m) (h2 : SGs X B us es gs ms) (hs : (assignEach (e :: es) X.env).map (·.2) = assign e X.env :: (assignEach es X.env).map (·.2) := by rfl) : SGs X B (vs ++ us) (e :: es) (gCons g gs) (bCons m ms) :=
  ⟨pgs_cons h1.pg h2.pg hs, fun ds ρ ρ' h F w σ H vs ok rs Q q => by
    cases ds with
    | nil => cases h
    | cons d ds =>
      cases rs with
      | cons r1 r2 =>
        have h : (m d ρ).bind (ms ds) = some ρ' := h
        cases hm : m d ρ with
        | none => rw [hm]
              at h; cases h
        | some ρ1 =>
          rw [hm] at h
          exact ⟨_, _, rfl, h1.sim d ρ ρ1 hm F w σ H _ ok r1 _ fun σ1 t1 ok1 => h2.sim ds ρ1 ρ' h F w σ1 H _ ok1 r2 Q fun σ2 t2 ok2 => q σ2 (t1.app t2) ok2⟩⟩
def bTup (k : Nat) (ms : List D → Rho → Option Rho) : D → Rho → Option Rho
  | .tup ds, ρ => if ds.length = k then ms ds ρ else none
  | .lst ds, ρ => if ds.length = k then ms ds ρ else none
  | .pr a b, ρ => if 2 = k then ms [a, b] ρ else none
  | _, _ => none
def gSeq (K : PySem.W.Frag) (n : Nat) (t : TGs) : TG := fun v σ H Q => gTup K n t v σ H Q ∨ gLst K n t v σ H Q
theorem sg_tup {k : Nat} {us : List Nat} {gs : TGs} {ms : List D → Rho → Option Rho} {j : Nat} (hX : X.K = Kf) (hK : Kf = B.K) (hc : X.calm = true) (h : SGs X B us es gs ms) (hn : (assignEach es X.env).length = k := by rfl) (hst : (assignEach es X.env).findIdx? (·.1) = none := by rfl) : SG X B us (.Tuple es j pos) (gSeq Kf k gs) (bTup k ms) := by
  cases hX
  exact
  ⟨⟨fun pins s σ H v u Q I r hw => by
    rcases hw with hw | hw
    · exact (pg_tup hc h.pg hn hst).run pins s σ H v u Q I r hw
    · exact (pg_lst hc h.pg hn hst).run pins s σ H v u Q I r hw⟩, fun d ρ ρ' hm F w σ H v ok rv Q q => by
    unfold bTup at hm
    split at hm
    · split at hm
      · rename_i hl
        cases rv with
        | tup h1 r1 => exact .inl ⟨_, _, rfl, by rw [hK]; exact (ok.sub.sqP h1).sqT, by rw [r1.length]; exact hl, h.sim _ ρ ρ' hm F w σ H _ ok r1 Q q⟩
      · cases hm
    · split at hm
      · rename_i hl
        cases rv with
        | lst h1 r1 => exact .inr ⟨_, _, rfl, SqL.of (ok.sub _ _ h1), by rw [r1.length]; exact hl, h.sim _ ρ ρ' hm F w σ H _ ok r1 Q q⟩
      · cases hm
    · split at hm
      · rename_i hl
        cases rv with
        | pr h1 r1 r2 => exact .inl ⟨_, [_, _], rfl, by rw [hK]; exact ok.sub.sqT h1, hl, h.sim _ ρ ρ' hm F w σ H _ ok (.cons r1 (.cons r2 .nil)) Q q⟩
      · cases hm
    · cases hm⟩

/-! ### what is walked -/
/-- J walks the data ds, from a frame that knows F -/
def Walk (B : Bs) (F : Hp) (J : It) (ds : List D) : Prop := ∀ i F1 ρ w σ H, Sub F F1 → ∀ B' : Bs, B'.K = B.K → Ok B' F1 ρ w σ H →
  (ds.length ≤ i → J.stop i H) ∧ ∀ d, ds[i]? = some d → J.go i H ∧ ∀ x H', J.yld i H x H' → ∃ F2, Sub F1 F2 ∧ Ok B' F2 ρ w σ H' ∧ Rp B.K F2 x d
structure SI (X : Cx) (B : Bs) (W : WX) (tg e : Expr) (t : TI) (m : M (List D)) : Prop where
  pi : PI X tg e t
  sim : Sim B W (Walk B) t m
def itemsD : D → Option (List D)
  | .tup xs => some xs
  | .lst xs => some xs
  | .rol xs => some xs
  | _ => none
/-- over a list, a tuple -/
def iSeq (K : PySem.W.Frag) (te : TE) : TI := fun σ H R => te σ H fun x H1 => ∃ a, x = .ref a ∧ ((∃ xs, SqL K H1 a xs ∧ R (Itl K a) H1) ∨ ∃ xs, SqT K H1 a xs ∧ R (Itt K a) H1)
theorem pi_seq {tg : Expr} (he : PE X e te) : PI X tg e (iSeq X.K te) := by
  refine ⟨fun pins
        s σ H R I h => ?_⟩
  have hA : PE X e (fun σ H Q => te σ H Q) := he
  refine thn (he.run pins s σ H _ I h) fun v z1 ⟨x, H1, J1, r1, a, ex, q⟩ => ?_
  subst ex
  rcases q with ⟨xs, hq, q⟩ | ⟨xs, hq, q⟩
  · cases r1
    obtain ⟨ws, rws, p, hz⟩ := J1.list hq
    refine wpAny_pyIter_list
          p.isList ?_
    refine ⟨z1.heap.objs.size, [z1.heap.objs.size], _, _, H1, rfl, J1.kept (t' := z1.toks) fun b o e => Heap.get?_push_of_some _ e, turn_list a _, ⟨_, Heap.get?_push_size _ rfl, rfl, rfl⟩, fun b hb => ?_, q⟩
    have e : b = z1.heap.objs.size := by simpa using hb
    subst e
    exact J1.fpOk (Nat.le_refl _) (J1.hok.fresh (Nat.le_refl _))
  · cases r1
    obtain ⟨ws, rws, p, hz⟩ := J1.tuple hq
    refine wpAny_pyIter_tuple (show z1.heap.IsTuple a ws.toArray from p) ?_
    refine ⟨z1.heap.objs.size, [z1.heap.objs.size], _, _, H1, rfl, J1.kept (t' := z1.toks) fun b o e => Heap.get?_push_of_some _ e, turn_tuple a _, ⟨_, Heap.get?_push_size _ rfl, rfl, rfl⟩, fun b hb => ?_, q⟩
    have e : b = z1.heap.objs.size := by simpa using hb
    subst e
    exact J1.fpOk (Nat.le_refl _) (J1.hok.fresh (Nat.le_refl _))
theorem walk_l {F : Hp} {a : Addr} {vs : List V} {ds : List D} (h : SqL B.K F a vs) (r : RpAll B.K F vs ds) : Walk B F (Itl B.K a) ds := fun i F1 ρ w σ H s B' hK ok => by
  have hq : SqL B.K H a vs := ok.sub.sqL (s.sqL h)
  refine ⟨fun hi => ⟨vs, hq, by rw [r.length]; exact hi⟩, fun d hd => ?_⟩
  obtain ⟨v, h1, h2⟩ := r.get hd
  refine ⟨⟨vs, v, hq, h1⟩, fun x H' y => ?_⟩
  obtain ⟨e, y⟩ := y
  subst e
  have e := y vs hq
  rw [h1] at e
  cases e
  exact ⟨F1, Sub.refl F1, ok, h2.up s⟩
theorem walk_t {F : Hp} {a : Addr} {vs : List V} {ds : List D} (h : SqT B.K F a vs) (r : RpAll B.K F vs ds) : Walk B F (Itt B.K a) ds := fun i F1 ρ w σ H s B' hK ok => by
  have hq : SqT B.K H a vs := ok.sub.sqT (s.sqT h)
  refine ⟨fun hi => ⟨vs, hq, by rw [r.length]; exact hi⟩, fun d hd => ?_⟩
  obtain ⟨v, h1, h2⟩ := r.get hd
  refine ⟨⟨vs, v, hq, h1⟩, fun x H' y => ?_⟩
  obtain ⟨e, y⟩ := y
  subst e
  have e := y vs hq
  rw [h1] at e
  cases e
  exact ⟨F1, Sub.refl F1, ok, h2.up s⟩
theorem si_seq {tg : Expr} (q : Cq Kf X B W n) (h : SE X B W e te me) : SI X B W tg e (iSeq Kf te) (bnd me fun d => lft (itemsD d)) := by
  cases q.hX
  exact ⟨pi_seq h.pe, by
    rw [q.hK]
    exact Sim.bnd (R' := Walk B) (k := fun d => lft (itemsD d)) (tk := fun x σ H R => ∃ a, x = V.ref a ∧ ((∃ xs, SqL B.K H a xs ∧ R (Itl B.K a) H) ∨ ∃ xs, SqT B.K H a xs ∧ R (Itt B.K a) H)) h.sim fun d ρ w r hr v F σ H ok rv Q p => by
      obtain ⟨ds, hd, e1⟩ := lft_some hr
      subst e1
      unfold itemsD at hd
      split at hd
      · cases hd
        cases rv with
        | tup h1 r1 => exact ⟨_, rfl, .inr ⟨_, (ok.sub.sqP h1).sqT, p _ F H (Sub.refl F) ok (walk_t h1.sqT r1)⟩⟩
      · cases hd
        cases rv with
        | lst h1 r1 => exact ⟨_, rfl, .inl ⟨_, SqL.of (ok.sub _ _ h1), p _ F H (Sub.refl F) ok (walk_l (SqL.of h1) r1)⟩⟩
      · cases hd
        cases rv with
        | rol h1 r1 => exact ⟨_, rfl, .inl ⟨_, ok.sub.sqL h1, p _ F H (Sub.refl F) ok (walk_l h1 r1)⟩⟩
      · cases hd⟩
/-- range(n), range(a, b) -/
def rgs (lo : Int) (n : Nat) : List D := (List.range n).map fun i => .int (lo + (i : Nat))
theorem walk_r {F : Hp} {lo : Int} {k : Nat} : Walk B F (Itr lo k) (rgs lo k) := fun i F1 ρ w σ H s B' hK ok => by
  refine ⟨fun hi => (by simpa [rgs] using hi : k ≤ i), fun d hd => ?_⟩
  unfold rgs at hd
  rw [List.getElem?_map] at hd
  have hi : i < k := by
    by_cases hi : i < k
    · exact hi
    · rw [List.getElem?_eq_none (by simpa using hi)] at hd
      cases hd
  rw [List.getElem?_range hi] at hd
  cases hd
  exact ⟨hi, fun x H' y => by
    obtain ⟨e1, e2⟩ := y
    subst e1
    subst e2
    exact ⟨F1, Sub.refl F1, ok, .int _⟩⟩
def rng1 : List D → Option (List D)
  | [.int j] => if 0 ≤ j ∧ j ≤ 100000 then some (rgs 0 j.toNat) else none
  | _ => none
def rng2 : List D → Option (List D)
  | [.int i, .int j] => if -100000 ≤ i ∧ i ≤ 100000 ∧ -100000 ≤ j ∧ j ≤ 100000 then some (rgs i (j - i).toNat) else none
  | _ => none
theorem si_range1 {tg : Expr} (hg : Gl X "range") (hm : X.mg "range" = none) (ha : SA X B W [a] ts ms) (hs : starEach [a] X.env = [(false, eval a X.env)] := by rfl) : SI X B W tg (.Call (.Name "range" p) [a] [] pos) (iRng1 ts) (bnd ms fun ds => lft (rng1 ds)) :=
  ⟨pi_range1 hg hm ha.pa hs, Sim.bnd (R' := Walk B) (k := fun ds => lft (rng1 ds)) (tk := fun vs σ H R => ∃ j : Int, vs = [V.int j] ∧ -(2 ^ 62) ≤ j ∧ j < 2 ^ 62 ∧ R (Itr 0 j.toNat) H) ha.sim fun d ρ w r hr v F σ H ok rv Q p => by
    obtain ⟨ds, hd, e1⟩ := lft_some hr
    subst e1
    unfold rng1 at hd
    split at hd
    · split at hd
      · rename_i hb
        cases hd
        obtain ⟨u, e, ru⟩ := rv.one
        subst e
        cases ru
        exact ⟨_, rfl, by omega, by omega, p _ F H (Sub.refl F) ok walk_r⟩
      · cases hd
    · cases hd⟩
theorem si_range2 {tg : Expr} (hg : Gl X "range") (hm : X.mg "range" = none) (ha : SA X B W [a, b] ts ms) (hs : starEach [a, b] X.env = [(false, eval a X.env), (false, eval b X.env)] := by rfl) (hs2 : starEach [b] X.env = [(false, eval b X.env)] := by rfl) : SI X B W tg (.Call (.Name "range" p) [a, b] [] pos) (iRng2 ts) (bnd ms fun ds => lft (rng2 ds)) :=
  ⟨pi_range2 hg hm ha.pa hs hs2, Sim.bnd (R' := Walk B) (k := fun ds => lft (rng2 ds)) (tk := fun vs σ H R => ∃ i j : Int, vs = [V.int i, V.int j] ∧ (-(2 ^ 62) ≤ i ∧ i < 2 ^ 62 ∧ -(2 ^ 62) ≤ j ∧ j < 2 ^ 62) ∧ R (Itr i (j - i).toNat) H) ha.sim fun d ρ w r hr v F σ H ok rv Q p => by
    obtain ⟨ds, hd, e1⟩ := lft_some hr
    subst e1
    unfold rng2 at hd
    split at hd
    · split at hd
      · rename_i hb
        cases hd
        obtain ⟨u1, u2, e, r1, r2⟩ := rv.two
        subst e
        cases r1
        cases r2
        exact ⟨_, _, rfl, by omega, p _ F H (Sub.refl F) ok walk_r⟩
      · cases hd
    · cases hd⟩
end
end DL
set_option Elab.async false
set_option linter.all false
set_option maxRecDepth 100000
set_option
      maxHeartbeats 4000000
/-! DLH: zip, enumerate, list comprehensions. -/
namespace DL
open PySem PySem.Spec PyProof.Rows L2 RZ
section
variable {X : Cx} {Kf : PySem.W.Frag} {B : Bs} {W : WX} {n : Nat} {a b c e : Expr} {es : List Expr} {ta tb tc te : TE} {ma mb mc me : M D} {pos p p2 tpos : Pos} {ts : TA} {ms : M (List D)} {x : Str}
/-! ### zip of two lists or two tuples; enumerate of a list -/
def zipD : List D → Option (List D)
  | [.lst xs, .lst ys] => some ((xs.zip ys).map fun p => .pr p.1 p.2)
  | [.tup xs, .tup ys] => some ((xs.zip ys).map fun p => .pr p.1 p.2)
  | _ => none
theorem zip_get {xs ys : List D} {i : Nat} {d : D} (h : ((xs.zip ys).map fun p => D.pr p.1 p.2)[i]? = some d) : ∃ u v, xs[i]? = some u ∧ ys[i]? = some v ∧ d = .pr u v := by
  rw [List.getElem?_map] at h
  cases e : (xs.zip ys)[i]? with
  | none => rw [e]
        at h; cases h
  | some p =>
    rw [e] at h
    cases h
    rw [List.getElem?_zip_eq_some] at e
    exact ⟨p.1, p.2, e.1, e.2, rfl⟩
/-- a new pair -/
theorem Ok.pair {B' : Bs} {F : Hp} {ρ : Rho} {w : Wo} {σ : L2.St} {H : Hp} {T : Addr} {u v : V} {du dv : D} (ok : Ok B' F ρ w σ H) (hK : B'.K = B.K) (hT : H T = none) (ru : Rp B.K F u du) (rv : Rp B.K F v dv) : ∃ F2, Sub F F2 ∧ Ok B' F2 ρ w σ (upd H T (.tup [u, v])) ∧ Rp B.K F2 (.ref T) (.pr du dv) := by
  obtain ⟨s, ok'⟩ := ok.laid hT (.tup [u, v])
  exact ⟨_, s, ok', .pr (.inl (.inl upd_same)) (ru.up s) (rv.up s)⟩
theorem walk_zl {F : Hp} {a b : Addr} {vs us : List V} {xs ys : List D} (h : F a = some (.lst vs)) (r : RpAll B.K F vs xs) (h' : F b = some (.lst us)) (r' : RpAll B.K F us ys) : Walk B F (Itz B.K a b) ((xs.zip ys).map fun p => .pr p.1 p.2) := fun i F1 ρ w σ H s B' hK ok => by
  have hq : SqL B.K H a vs := SqL.of (ok.sub _ _ (s _ _ h))
  have hq' : SqL B.K H b us := SqL.of (ok.sub _ _ (s _ _ h'))
  refine ⟨fun hi => ⟨vs, us, hq, hq', ?_⟩, fun d hd => ?_⟩
  · rw [r.length, r'.length]
    rw [List.length_map, List.length_zip] at hi
    omega
  · obtain ⟨u, v, h1, h2, e⟩ := zip_get hd
    subst e
    obtain ⟨x1, g1, g2⟩ := r.get h1
    obtain ⟨x2, g3, g4⟩ := r'.get h2
    refine ⟨⟨vs, us, x1, x2, hq, hq', g1, g3⟩, fun x H' y => ?_⟩
    obtain ⟨T, y1, y2, e1, hT, e2, f1, f2⟩ := y
    subst e1
    subst e2
    have q1 := f1 vs hq
    have q2 := f2 us hq'
    rw [g1] at q1
    rw [g3] at q2
    cases q1
    cases q2
    exact ok.pair hK hT (g2.up s) (g4.up s)
theorem walk_zt {F : Hp} {a b : Addr} {vs us : List V} {xs ys : List D} (h : SqT B.K F a vs) (r : RpAll B.K F vs xs) (h' : SqT B.K F b us) (r' : RpAll B.K F us ys) : Walk B F (ItzT B.K a b) ((xs.zip ys).map fun p => .pr p.1 p.2) := fun i F1 ρ w σ H s B' hK ok => by
  have hq : SqT B.K H a vs := ok.sub.sqT (s.sqT h)
  have hq' : SqT B.K H b us := ok.sub.sqT (s.sqT h')
  refine ⟨fun hi => ⟨vs, us, hq, hq', ?_⟩, fun d hd => ?_⟩
  · rw [r.length, r'.length]
    rw [List.length_map, List.length_zip] at hi
    omega
  · obtain ⟨u, v, h1, h2, e⟩ := zip_get hd
    subst e
    obtain ⟨x1, g1, g2⟩ := r.get h1
    obtain ⟨x2, g3, g4⟩ := r'.get h2
    refine ⟨⟨vs, us, x1, x2, hq, hq', g1, g3⟩, fun x H' y => ?_⟩
    obtain ⟨T, y1, y2, e1, hT, e2, f1, f2⟩ := y
    subst e1
    subst e2
    have q1 := f1 vs hq
    have q2 := f2 us hq'
    rw [g1] at q1
    rw [g3] at q2
    cases q1
    cases q2
    exact ok.pair hK hT (g2.up s) (g4.up s)
theorem si_zip {elts : List Expr} {kk : Nat} (q : Cq Kf X B W n) (hg : Gl X "zip") (hm : X.mg "zip" = none) (ha : SA X B W [a, b] ts ms) (hs : starEach [a, b] X.env = (false, eval a X.env) :: starEach [b] X.env := by rfl) (hpl : (backTo pos (starEach [b] X.env)).any (·.1) = false := by rfl) :
    SI X B W (.Tuple elts kk tpos) (.Call (.Name "zip" p) [a, b] [] pos) (iZipA Kf ts) (bnd ms fun ds => lft (zipD ds)) := by
  cases q.hX
  exact ⟨pi_zipA hg hm ha.pa hs hpl, by
    rw [q.hK]
    exact Sim.bnd (R' := Walk B) (k := fun ds => lft (zipD ds)) (tk := fun vs σ H R => ∃ a b xs ys, vs = [V.ref a, V.ref b] ∧ ((SqL B.K H a xs ∧ SqL B.K H b ys ∧ R (Itz B.K a b) H) ∨ (SqT B.K H a xs ∧ SqT B.K H b ys ∧ R (ItzT B.K a b) H))) ha.sim fun d ρ w r hr v F σ H ok rv Q p => by
      obtain ⟨ds, hd, e1⟩ := lft_some hr
      subst e1
      unfold zipD at hd
      split at hd
      · cases hd
        obtain ⟨u1, u2, e, r1, r2⟩ := rv.two
        subst e
        cases r1 with
        | lst h1 r1 =>
          cases r2 with
          | lst h2 r2 => exact ⟨_, _, _, _, rfl, .inl ⟨SqL.of (ok.sub _ _ h1), SqL.of (ok.sub _ _ h2), p _ F H (Sub.refl F) ok (walk_zl h1 r1 h2 r2)⟩⟩
      · cases hd
        obtain ⟨u1, u2, e, r1, r2⟩ := rv.two
        subst e
        cases r1 with
        | tup h1 r1 =>
          cases r2 with
          | tup h2 r2 => exact ⟨_, _, _, _, rfl, .inr ⟨(ok.sub.sqP h1).sqT, (ok.sub.sqP h2).sqT, p _ F H (Sub.refl F) ok (walk_zt h1.sqT r1 h2.sqT r2)⟩⟩
      · cases hd⟩
def enumFrom' : Nat → List D → List D
  | _, [] => []
  | i, x :: xs => .pr (.int (i : Nat)) x :: enumFrom' (i + 1) xs
theorem enum_len : ∀ (xs : List D) (k : Nat), (enumFrom' k xs).length = xs.length
  | [], _ => rfl
  | x :: xs, k => by simp [enumFrom', enum_len xs]
theorem enum_get : ∀ (xs : List D) (k i : Nat) (d : D), (enumFrom' k xs)[i]? = some d → ∃ u, xs[i]? = some u ∧ d = .pr (.int ((k + i : Nat) : Int)) u
  | [], _, i, d, h => by simp [enumFrom'] at h
  | x :: xs, k, 0, d, h => by
    cases h
    exact ⟨x, rfl, rfl⟩
  | x :: xs, k, i + 1, d, h => by
    obtain ⟨u, h1, h2⟩ := enum_get xs (k + 1) i d h
    exact ⟨u, h1, by rw [h2]; congr 3; omega⟩
def enumD : List D → Option (List D)
  | [.lst xs] => some (enumFrom' 0 xs)
  | _ => none
theorem walk_el {F : Hp} {a : Addr} {vs : List V} {xs : List D} (h : F a = some (.lst vs)) (r : RpAll B.K F vs xs) : Walk B F (Ite B.K a) (enumFrom' 0 xs) := fun i F1 ρ w σ H s B' hK ok => by
  have hq : SqL B.K H a vs := SqL.of (ok.sub _ _ (s _ _ h))
  refine ⟨fun hi => ⟨vs, hq, ?_⟩, fun d hd => ?_⟩
  · rw [r.length]
    rw [enum_len] at hi
    exact hi
  · obtain ⟨u, h1, e⟩ := enum_get _ _ _ _ hd
    subst e
    obtain ⟨x1, g1, g2⟩ := r.get h1
    refine ⟨⟨vs, x1, hq, g1⟩, fun x H' y => ?_⟩
    obtain ⟨T, y1, e1, hT, e2, f1⟩ := y
    subst e1
    subst e2
    have q1 := f1 vs hq
    rw [g1] at q1
    cases q1
    rw [Nat.zero_add]
    exact ok.pair hK hT (.int _) (g2.up s)
theorem si_enum {elts : List Expr} {kk : Nat} (q : Cq Kf X B W n) (hg : Gl X "enumerate") (hm : X.mg "enumerate" = none) (ha : SA X B W [a] ts ms) (hs : starEach [a] X.env = [(false, eval a X.env)] := by rfl) :
    SI X B W (.Tuple elts kk tpos) (.Call (.Name "enumerate" p) [a] [] pos) (iEnum Kf ts) (bnd ms fun ds => lft (enumD ds)) := by
  cases q.hX
  exact ⟨pi_enum hg hm ha.pa hs, by
    rw [q.hK]
    exact Sim.bnd (R' := Walk B) (k := fun ds => lft (enumD ds)) (tk := fun vs σ H R => ∃ a xs, vs = [V.ref a] ∧ SqL B.K H a xs ∧ R (Ite B.K a) H) ha.sim fun d ρ w r hr v F σ H ok rv Q p => by
      obtain ⟨ds, hd, e1⟩ := lft_some hr
      subst e1
      unfold enumD at hd
      split at hd
      · cases hd
        obtain ⟨u1, e, r1⟩ := rv.one
        subst e
        cases r1 with
        | lst h1 r1 => exact ⟨_, _, rfl, SqL.of (ok.sub _ _ h1), p _ F H (Sub.refl F) ok (walk_el h1 r1)⟩
      · cases hd⟩
/-! ### new lists that may still change -/
def PostN (B : Bs) (W : WX) (r : Rs (List D)) (F : Hp) (σ : L2.St) (Q : VK) : Prop := match r with
  | .ok ds ρ w => ∀ a F' H', Sub F F' → Ok B F' ρ w σ H' → New B F' ρ w σ H' a ds → Q (.ref a) H'
  | .exc x ρ w => ∀ d F' H', Sub F F' → Ok B F' ρ w σ H' → excAt B.K F' H' d x → W x.cls d σ H'
theorem PostN.imp {r : Rs (List D)} {F F1 : Hp} {σ : L2.St} {Q : VK} (s : Sub F F1) (p : PostN B W r F σ Q) : PostN B W r F1 σ Q := by
  cases r with
  | ok a ρ w => exact fun a F' H' s' k n => p a F' H' (s.trans s') k n
  | exc x ρ w => exact fun d F' H' s' k h => p d F' H' (s.trans s') k h
def SimN (B : Bs) (W : WX) (t : TE) (m : M (List D)) : Prop := ∀ ρ w r, m ρ w = some r → ∀ F σ H, Ok B F ρ w σ H → ∀ Q : VK, PostN B W r F σ Q → t σ H Q
structure SN (X : Cx) (B : Bs) (W : WX) (e : Expr) (t : TE) (m : M (List D)) : Prop where
  pe : PE X e t
  sim : SimN B W t m
theorem SimN.of {α β : Type} {R : Hp → β → α → Prop} {te : TX β} {me : M α} {k : α → M (List D)} {tk : β → L2.St → Hp → VK → Prop} (h : Sim B W R te me)
    (hk : ∀ a ρ w r, k a ρ w = some r → ∀ b F σ H, Ok B F ρ w σ H → R F b a → ∀ Q, PostN B W r F σ Q → tk b σ H Q) : SimN B W (fun σ H Q => te σ H fun b H1 => tk b σ H1 Q) (bnd me k) := by
  intro ρ w r hr F σ H ok Q p
  unfold bnd at hr
  cases hm : me ρ w with
  | none => rw [hm] at hr; cases hr
  | some r1 =>
    rw [hm] at hr
    cases r1 with
    | ok a ρ1 w1 => exact h ρ w _ hm F σ H ok _ fun b F' H' s ok' hR => hk a ρ1 w1 r hr b F' σ H' ok' hR Q (p.imp s)
    | exc x ρ1 w1 =>
      cases hr
      exact h ρ w _ hm F σ H ok _ fun d F' H' s ok' hx => p d F' H' s ok' hx
/-- a new list, then a value -/
theorem SimN.val {t : TE} {m : M (List D)} (h : SimN B W t m) : Sim B W (RV B) t (bnd m fun ds => ret (.lst ds)) := by
  intro ρ w r hr F σ H ok Q p
  unfold bnd at hr
  cases hm : m ρ w with
  | none => rw [hm] at hr; cases hr
  | some r1 =>
    rw [hm] at hr
    refine h ρ w r1 hm F σ H ok Q ?_
    cases r1 with
    | ok ds ρ1 w1 =>
      cases hr
      intro a F' H' s ok' nw
      obtain ⟨F2, s2, ok2, r2⟩ := ok'.freeze nw
      exact p _ F2 H' (s.trans s2) ok2 r2
    | exc x ρ1 w1 =>
      cases hr
      exact fun d F' H' s ok' hx => p d F' H' s ok' hx
/-! ### list comprehensions -/
structure SF (X : Cx) (B : Bs) (W : WX) (es : List Expr) (t : TT) (m : M Bool) : Prop where
  pts : PTs X es t
  sim : Sim B W RB t m
theorem sf_nil : SF X B W [] tYes (ret true) := ⟨pts_nil, fun ρ w r hr F σ H ok Q p => by
  cases hr
  exact p true F H (Sub.refl F) ok rfl⟩
theorem sf_one {t : TT} {m : M Bool} (h : ST X B W e t m) : SF X B W [e] t m := ⟨pts_one h.pt, h.sim⟩
def lcLoop (own : List Nat) (bind : D → Rho → Option Rho) (mt : M Bool) (me : M D) : List D → Rho → Wo → Option (List D × Rho × Wo)
  | [], ρ, w => some ([], ρ, w)
  | d :: ds, ρ, w =>
    match bind d (wipeR ρ own) with
    | none => none
    | some ρ0 =>
      match mt ρ0 w with
      | some (.ok true ρ1 w1) =>
        match me ρ1 w1 with
        | some (.ok y ρ2 w2) => (lcLoop own bind mt me ds ρ2 w2).map fun z => (y :: z.1, z.2)
        | _ => none
      | some (.ok false ρ1 w1) => lcLoop own bind mt me ds ρ1 w1
      | _ => none
def nLc (own : List Nat) (mi : M (List D)) (bind : D → Rho → Option Rho) (mt : M Bool) (me : M D) : M (List D) := bnd mi fun ds ρ w =>
  if ds.length ≤ 100000 then
    match lcLoop own bind mt me ds ρ w with
    | some (ys, ρ', w') => some (.ok ys (wipeR ρ' own) w')
    | none => none
  else none
def mLc (own : List Nat) (mi : M (List D)) (bind : D → Rho → Option Rho) (mt : M Bool) (me : M D) : M D := bnd (nLc own mi bind mt me) fun ds => ret (.lst ds)
abbrev W0 : WX := fun _ _ _ _ => False
theorem New.wiped {F : Hp} {ρ : Rho} {w : Wo} {σ : L2.St} {H : Hp} {L : Addr} {acc : List D} (nw : New B F ρ w σ H L acc) (vs : List Nat) : New B F (wipeR ρ vs) w (wipe σ vs) H L acc :=
  nw.to fun i ds e => ⟨(wipeR_own e).1, fun z => (wipe_some z).1⟩
theorem New.unwiped {F : Hp} {ρ : Rho} {w : Wo} {σ : L2.St} {H : Hp} {L : Addr} {acc : List D} (k : Ok B F (wipeR ρ vs) w (wipe σ vs) H) (nw : New B F (wipeR ρ vs) w (wipe σ vs) H L acc) : New B F (wipeR ρ vs) w σ H L acc :=
  nw.to fun i ds e => ⟨e, fun z => by
    obtain ⟨a, us, h1, _⟩ := k.own i ds e
    have h2 := (wipe_some h1).1
    rw [z] at h2
    cases h2
    exact h1⟩
theorem wipe_idem (τ : L2.St) (us : List Nat) : ∀ vs : List Nat, (∀ v ∈ vs, v ∈ us) → wipe (wipe τ us) vs = wipe τ us
  | [], _ => rfl
  | v :: r, hs => by
    show (wipe (wipe τ us) r).set v none = wipe τ us
    rw [wipe_idem τ us r fun x hx => hs x (List.mem_cons_of_mem _ hx)]
    apply List.ext_getElem?
    intro j
    by_cases hj : v = j
    · subst hj
      by_cases hl : v < (wipe τ us).length
      · rw [List.getElem?_set_self hl]
        cases q : (wipe τ us)[v]? with
        | none => rw [List.getElem?_eq_none_iff] at q; omega
        | some o =>
          cases o with
          | none => rfl
          | some x => exact absurd (hs v List.mem_cons_self) (wipe_some q).2
      · rw [List.getElem?_eq_none (by rw [List.length_set]; omega), List.getElem?_eq_none (by omega)]
    · rw [List.getElem?_set_ne hj]
theorem sim_lcN {own : List Nat} {wi : TI} {g : TG} {tt : TT} {mi : M (List D)} {bind : D → Rho → Option Rho} {mt : M Bool} (hi : Sim B W (Walk B) wi mi)
    (hg : ∀ B' : Bs, B'.K = B.K → ∀ d ρ ρ', bind d ρ = some ρ' → ∀ F w σ H v, Ok B' F ρ w σ H → Rp B'.K F v d → ∀ Q : L2.St → Hp → Prop, (∀ σ', wipe σ' own = wipe σ own → Ok B' F ρ' w σ' H → Q σ' H) → g v σ H Q)
    (ht : ∀ B' : Bs, B'.K = B.K → Sim B' W0 RB tt mt) (he : ∀ B' : Bs, B'.K = B.K → Sim B' W0 (RV B') te me) : SimN B W (tLc wi g tt te own) (nLc own mi bind mt me) := by
  refine SimN.of (tk := fun J σ H1 Q => ∀ D, H1 D = none → ∃ W : Nat → Nat → Hp → Prop, (∃ m, W 0 m (upd H1 D (.lst []))) ∧ ∀ i m H, W i m H →
    (J.stop i H ∧ Q (.ref D) H) ∨ (J.go i H ∧ ∃ Nx : Hp → Prop, (∀ H', Nx H' → ∃ m', m' < m ∧ W (i + 1) m' H') ∧ ∀ x H', J.yld i H x H' → g x (wipe σ own) H' fun σ2 H2 => wipe σ2 own = wipe σ own ∧ tt σ2 H2 fun b H3 =>
    if b = true then te σ2 H3 fun y H4 => ∃ acc, H4 D = some (.lst acc) ∧ acc.length < sizeLine ∧ Nx (upd H4 D (.lst (acc ++ [y]))) else Nx H3)) hi fun ds ρ w r hr J F σ H ok wk Q p => ?_
  split at hr
  case isFalse => cases hr
  rename_i hlen
  cases hlp : lcLoop own bind mt me ds ρ w with
  | none => rw [hlp] at hr; cases hr
  | some z =>
    obtain ⟨ys, ρe, we⟩ := z
    rw [hlp] at hr
    cases hr
    intro L hL
    have ww : ∀ {σ : L2.St} {vs : List Nat}, wipe (wipe σ vs) vs = wipe σ vs := fun {σ vs} => wipe_idem σ vs vs fun _ h => h
    -- the invariant
    refine ⟨fun i m H' => ∃ F' ρ' w' acc rest vs, m = ds.length - i ∧ i ≤ ds.length ∧ Sub F F' ∧ Ok B F' (wipeR ρ' own) w' (wipe σ own) H' ∧ New B F' (wipeR ρ' own) w' (wipe σ own) H' L acc ∧ H' L = some (.lst vs) ∧ RpAll B.K F' vs acc ∧
      acc.length ≤ i ∧ lcLoop own bind mt me (ds.drop i) ρ' w' = some (rest, ρe, we) ∧ acc ++ rest = ys, ⟨ds.length, ?_⟩, ?_⟩
    · obtain ⟨ok1, nw⟩ := ok.newL hL (vs := []) (ds := []) .nil
      exact ⟨F, ρ, w, [], ys, [], rfl, Nat.zero_le _, Sub.refl F, ok1.wiped own, nw.wiped own, upd_same, .nil, Nat.le_refl _, hlp, rfl⟩
    · rintro i m H' ⟨F', ρ', w', acc, rest, vs, rfl, hi', sF, ok', nw, hLs, racc, hacc, hrest, eys⟩
      by_cases hlt : i < ds.length
      · refine .inr ?_
        have hd : ds[i]? = some ds[i] := List.getElem?_eq_getElem hlt
        obtain ⟨_, hgo⟩ := wk i F' _ _ _ _ sF (B.plus L (.lst vs)) rfl (ok'.plus nw hLs)
        obtain ⟨go, hy⟩ := hgo _ hd
        refine ⟨go, fun H'' => ∃ F'' ρ'' w'' acc' rest' vs', Sub F F'' ∧ Ok B F'' (wipeR ρ'' own) w'' (wipe σ own) H'' ∧ New B F'' (wipeR ρ'' own) w'' (wipe σ own) H'' L acc' ∧ H'' L = some (.lst vs') ∧ RpAll B.K F'' vs' acc' ∧
          acc'.length ≤ i + 1 ∧ lcLoop own bind mt me (ds.drop (i + 1)) ρ'' w'' = some (rest', ρe, we) ∧ acc' ++ rest' = ys, fun H'' ⟨F'', ρ'', w'', acc', rest', vs', q1, q2, q3, q4, q5, q6, q7, q8⟩ => ⟨ds.length - (i + 1), by omega, F'', ρ'', w'', acc', rest', vs', rfl, hlt, q1, q2, q3, q4, q5, q6, q7, q8⟩, fun x Hy yl => ?_⟩
        obtain ⟨F2, s2, ok2, rx⟩ := hy x Hy yl
        rw [List.drop_eq_getElem_cons hlt] at hrest
        unfold lcLoop at hrest
        cases hb : bind ds[i] (wipeR ρ' own) with
        | none => rw [hb] at hrest; cases hrest
        | some ρ0 =>
          rw [hb] at hrest
          dsimp only at hrest
          have w0L : L ∉ adr B.w := fun z => nw.nw (ok'.go.old L z)
          have bFL : B.F L = none := ok'.go.sub.back nw.nF
          refine hg (B.plus L (.lst vs)) rfl ds[i] _ ρ0 hb F2 _ _ _ x ok2 rx _ fun σ2 hw2 ok3 => ⟨by rw [hw2, ww], ?_⟩
          cases ht1 : mt ρ0 w' with
          | none => rw [ht1] at hrest; cases hrest
          | some r1 =>
            rw [ht1] at hrest
            cases r1 with
            | exc _ _ _ => cases hrest
            | ok bb ρ1 w1 =>
              refine ht (B.plus L (.lst vs)) rfl ρ0 w' _ ht1 F2 σ2 Hy ok3 _ fun b F4 H4 s4 ok4 eb => ?_
              cases eb
              cases bb with
              | true =>
                rw [if_pos rfl]
                dsimp only at hrest
                cases he1 : me ρ1 w1 with
                | none => rw [he1] at hrest; cases hrest
                | some r2 =>
                  rw [he1] at hrest
                  cases r2 with
                  | exc _ _ _ => cases hrest
                  | ok yy ρ2 w2 =>
                    dsimp only at hrest
                    refine he (B.plus L (.lst vs)) rfl ρ1 w1 _ he1 F4 σ2 H4 ok4 _ fun y F5 H5 s5 ok5 ry => ?_
                    have sub5 : Sub F' F5 := (s2.trans s4).trans s5
                    obtain ⟨ok6, nw6, hL6⟩ := Ok.minus nw.n0 w0L bFL racc sub5 ok5
                    refine ⟨vs, hL6, Nat.lt_of_le_of_lt (by rw [racc.length]; omega : vs.length ≤ 100000) (by decide), ?_⟩
                    cases hl2 : lcLoop own bind mt me (ds.drop (i + 1)) ρ2 w2 with
                    | none => rw [hl2] at hrest; cases hrest
                    | some z2 =>
                      rw [hl2] at hrest
                      obtain ⟨rest', ρe', we'⟩ := z2
                      cases hrest
                      have ryy : Rp B.K F5 y yy := ry
                      have racc' : RpAll B.K F5 (vs ++ [y]) (acc ++ [yy]) := (racc.up sub5).append (.cons ryy .nil)
                      -- the list grows
                      have ok7 : Ok B F5 ρ2 w2 σ2 (upd H5 L (.lst (vs ++ [y]))) := ok6.grow nw6
                      have nw7 : New B F5 ρ2 w2 σ2 (upd H5 L (.lst (vs ++ [y]))) L (acc ++ [yy]) := ⟨⟨_, upd_same, racc'⟩, nw6.nF, nw6.n0, nw6.nw, nw6.ns⟩
                      have ok8 := ok7.wiped own
                      have nw8 := nw7.wiped own
                      have ew : wipe σ2 own = wipe σ own := by rw [hw2, ww]
                      rw [ew] at ok8 nw8
                      exact ⟨F5, ρ2, w2, acc ++ [yy], rest', vs ++ [y], sF.trans sub5, ok8, nw8, upd_same, racc', by rw [List.length_append]; simp; omega, hl2, by rw [List.append_assoc]; exact eys⟩
              | false =>
                rw [if_neg
                      Bool.false_ne_true]
                dsimp only at hrest
                have sub4 : Sub F' F4 := s2.trans s4
                obtain ⟨ok6, nw6, hL6⟩ := Ok.minus nw.n0 w0L bFL racc sub4 ok4
                have ok8 := ok6.wiped own
                have nw8 := nw6.wiped own
                have ew : wipe σ2 own = wipe σ own := by rw [hw2, ww]
                rw [ew] at ok8 nw8
                exact ⟨F4, ρ1, w1, acc, rest, vs, sF.trans sub4, ok8, nw8, hL6, racc.up sub4, by omega, hrest, eys⟩
      · have ei : i = ds.length := by omega
        subst ei
        refine .inl ?_
        rw [List.drop_length] at hrest
        cases hrest
        rw [List.append_nil] at eys
        subst eys
        obtain ⟨hstop, _⟩ := wk ds.length F' _ _ _ _ sF (B.plus L (.lst vs)) rfl (ok'.plus nw hLs)
        refine ⟨hstop (Nat.le_refl _), ?_⟩
        have nw2 := New.unwiped ok' nw
        exact p _ F' H' sF ok'.unwipe nw2
theorem sim_lc {own : List Nat} {wi : TI} {g : TG} {tt : TT} {mi : M (List D)} {bind : D → Rho → Option Rho} {mt : M Bool} (hi : Sim B W (Walk B) wi mi)
    (hg : ∀ B' : Bs, B'.K = B.K → ∀ d ρ ρ', bind d ρ = some ρ' → ∀ F w σ H v, Ok B' F ρ w σ H → Rp B'.K F v d → ∀ Q : L2.St → Hp → Prop, (∀ σ', wipe σ' own = wipe σ own → Ok B' F ρ' w σ' H → Q σ' H) → g v σ H Q)
    (ht : ∀ B' : Bs, B'.K = B.K → Sim B' W0 RB tt mt) (he : ∀ B' : Bs, B'.K = B.K → Sim B' W0 (RV B') te me) : Sim B W (RV B) (tLc wi g tt te own) (mLc own mi bind mt me) := (sim_lcN hi hg ht he).val
/-- nothing: a state, a heap -/
def s0 : Shared := {}
theorem sn_lc {tg elt iter : Expr} {ifs : List Expr} {scope : Scope} {own : List (Str × Nat)} {wi : TI} {g : TG} {tt : TT} {mi : M (List D)} {bind : D → Rho → Option Rho} {mt : M Bool} {vs : List Nat} (q : Cq Kf X B W n) (hi : SI X B W tg iter wi mi) (ok : BlkOk X.N X.env.scope scope own)
    (hg : ∀ (s : Shared) (H : Hp) (C : Addr) (cl : List (Str × Addr)) (fp : List Addr) (B' : Bs), Kf = B'.K → SG (X.blk s H scope (compEnvC scope cl C X.env) fp) B' vs tg g bind)
    (ht : ∀ (s : Shared) (H : Hp) (C : Addr) (cl : List (Str × Addr)) (fp : List Addr) (B' : Bs), Kf = B'.K → Cq Kf (X.blk s H scope (compEnvC scope cl C X.env) fp) B' W0 n → SF (X.blk s H scope (compEnvC scope cl C X.env) fp) B' W0 ifs tt mt)
    (he : ∀ (s : Shared) (H : Hp) (C : Addr) (cl : List (Str × Addr)) (fp : List Addr) (B' : Bs), Kf = B'.K → Cq Kf (X.blk s H scope (compEnvC scope cl C X.env) fp) B' W0 n → SE (X.blk s H scope (compEnvC scope cl C X.env) fp) B' W0 elt te me)
    (hv : (vs.all fun i => (own.map (·.2)).contains i) = true := by rfl) (hs : ∀ x, foldedSetIterable iter X.env x = pure x := by intro _; rfl) : SN X B W (.ListComp elt [⟨tg, iter, ifs, 0⟩] scope pos) (tLc wi g tt te (own.map (·.2))) (nLc (own.map (·.2)) mi bind mt me) := by
  cases q.hX
  have cq : ∀ (s : Shared) (H : Hp) (C : Addr) (cl : List (Str × Addr)) (fp : List Addr) (B' : Bs), X.K = B'.K → Cq X.K (X.blk s H scope (compEnvC scope cl C X.env) fp) B' W0 n := fun s H C cl fp B' e => ⟨rfl, e, takes0, q.hr, q.calm, q.nd⟩
  have hv' : ∀ i ∈ vs, i ∈ own.map (·.2) := fun i hi => List.contains_iff_mem.mp (List.all_eq_true.mp hv i hi)
  refine ⟨pe_lc q.calm q.nd hi.pi ok (fun s H C cl fp => (hg s H C cl fp ⟨X.K, fun _ => none, fun _ => none, none⟩ rfl).pg) (fun s H C cl fp => (ht s H C cl fp ⟨X.K, fun _ => none, fun _ => none, none⟩ rfl (cq _ _ _ _ _ _ rfl)).pts) (fun s H C cl fp => (he s H C cl fp ⟨X.K, fun _ => none, fun _ => none, none⟩ rfl (cq _ _ _ _ _ _ rfl)).pe) hs,
    sim_lcN hi.sim (fun B' e d ρ ρ' hb F w σ H v k rv Q p => ?_) (fun B' e => ?_) (fun B' e => ?_)⟩
  · exact (hg s0 (fun _ => none) 0 [] [] B' (by rw [q.hK, e])).sim d ρ ρ' hb F w σ H v k rv Q fun σ' t k' => p σ' (t _ hv') k'
  · exact (ht s0 (fun _ => none) 0 [] [] B' (by rw [q.hK, e]) (cq _ _ _ _ _ _ (by rw [q.hK, e]))).sim
  · exact (he s0 (fun _ => none) 0 [] [] B' (by rw [q.hK, e]) (cq _ _ _ _ _ _ (by rw [q.hK, e]))).sim
theorem se_lc {tg elt iter : Expr} {ifs : List Expr} {scope : Scope} {own : List (Str × Nat)} {wi : TI} {g : TG} {tt : TT} {mi : M (List D)} {bind : D → Rho → Option Rho} {mt : M Bool} {vs : List Nat} (q : Cq Kf X B W n) (hi : SI X B W tg iter wi mi) (ok : BlkOk X.N X.env.scope scope own)
    (hg : ∀ (s : Shared) (H : Hp) (C : Addr) (cl : List (Str × Addr)) (fp : List Addr) (B' : Bs), Kf = B'.K → SG (X.blk s H scope (compEnvC scope cl C X.env) fp) B' vs tg g bind)
    (ht : ∀ (s : Shared) (H : Hp) (C : Addr) (cl : List (Str × Addr)) (fp : List Addr) (B' : Bs), Kf = B'.K → Cq Kf (X.blk s H scope (compEnvC scope cl C X.env) fp) B' W0 n → SF (X.blk s H scope (compEnvC scope cl C X.env) fp) B' W0 ifs tt mt)
    (he : ∀ (s : Shared) (H : Hp) (C : Addr) (cl : List (Str × Addr)) (fp : List Addr) (B' : Bs), Kf = B'.K → Cq Kf (X.blk s H scope (compEnvC scope cl C X.env) fp) B' W0 n → SE (X.blk s H scope (compEnvC scope cl C X.env) fp) B' W0 elt te me)
    (hv : (vs.all fun i => (own.map (·.2)).contains i) = true := by rfl) (hs : ∀ x, foldedSetIterable iter X.env x = pure x := by intro _; rfl) : SE X B W (.ListComp elt [⟨tg, iter, ifs, 0⟩] scope pos) (tLc wi g tt te (own.map (·.2))) (mLc (own.map (·.2)) mi bind mt me) := by
  cases q.hX
  have S := sn_lc (pos := pos) q hi ok hg ht he hv hs
  exact ⟨S.pe, S.sim.val⟩
end
end DL
set_option Elab.async false
set_option linter.all false
set_option maxRecDepth 100000
set_option
      maxHeartbeats 4000000
/-! DLI: statements. -/
namespace DL
open PySem PySem.Spec PyProof.Rows L2 RZ
def PostS (B : Bs) (W : WX) (r : Rs Fl) (F : Hp) (Dn : Ends) : Prop :=
  match r with
  | .ok .nx ρ w => ∀ F' σ' H', Sub F F' → Ok B F' ρ w σ' H' → Dn.nx σ' H'
  | .ok .br ρ w => ∀ F' σ' H', Sub F F' → Ok B F' ρ w σ' H' → Dn.bk σ' H'
  | .ok .ct ρ w => ∀ F' σ' H', Sub F F' → Ok B F' ρ w σ' H' → Dn.ct σ' H'
  | .ok (.rt d) ρ w => ∀ v F' σ' H', Sub F F' → Ok B F' ρ w σ' H' → Rp B.K F' v d → Dn.rt v H'
  | .exc x ρ w => ∀ d F' σ' H', Sub F F' → Ok B F' ρ w σ' H' → excAt B.K F' H' d x → W x.cls d σ' H'
theorem PostS.imp {B : Bs} {W : WX} {r : Rs Fl} {F F1 : Hp} {Dn : Ends} (s : Sub F F1) (p : PostS B W r F Dn) : PostS B W r F1 Dn := by
  cases r with
  | ok a ρ w =>
    cases a with
    | nx => exact fun F' σ' H' s' k => p F' σ' H' (s.trans s') k
    | br => exact fun F' σ' H' s' k => p F' σ' H' (s.trans s') k
    | ct => exact fun F' σ' H' s' k => p F' σ' H' (s.trans s') k
    | rt d => exact fun v F' σ' H' s' k h => p v F' σ' H' (s.trans s') k h
  | exc x ρ w => exact fun d F' σ' H' s' k h => p d F' σ' H' (s.trans s') k h
def SimS (B : Bs) (W : WX) (t : TS) (m : M Fl) : Prop := ∀ ρ w r, m ρ w = some r → ∀ F σ H, Ok B F ρ w σ H → ∀ Dn, PostS B W r F Dn → t Dn σ H
structure SS (X : Cx) (B : Bs) (W : WX) (st : Stmt) (t : TS) (m : M Fl) : Prop where
  ps : PS X st t
  sim : SimS B W t m
structure SB (X : Cx) (B : Bs) (W : WX) (sts : List Stmt) (t : TS) (m : M Fl) : Prop where
  pss : PSs X sts t
  sim : SimS B W t m
/-- an expression, then what is done with its value -/
theorem SimS.of {α β : Type} {B : Bs} {W : WX} {R : Hp → β → α → Prop} {te : TX β} {me : M α} {k : α → M Fl} {tk : Ends → β → L2.St → Hp → Prop} (h : Sim B W R te me)
    (hk : ∀ a ρ w r, k a ρ w = some r → ∀ b F σ H, Ok B F ρ w σ H → R F b a → ∀ Dn, PostS B W r F Dn → tk Dn b σ H) : SimS B W (fun Dn σ H => te σ H fun b H1 => tk Dn b σ H1) (bnd me k) := by
  intro ρ w r hr F σ H ok Dn p
  unfold bnd at hr
  cases hm : me ρ w with
  | none => rw [hm] at hr; cases hr
  | some r1 =>
    rw [hm] at hr
    cases r1 with
    | ok a ρ1 w1 => exact h ρ w _ hm F σ H ok _ fun b F' H' s ok' hR => hk a ρ1 w1 r hr b F' σ H' ok' hR Dn (p.imp s)
    | exc x ρ1 w1 =>
      cases hr
      exact h ρ w _ hm F σ H ok _ fun d F' H' s ok' hx => p d F' σ H' s ok' hx
section
variable {X : Cx} {Kf : PySem.W.Frag} {B : Bs} {W : WX} {n : Nat} {a b c e : Expr} {es : List Expr} {ta tb tc te : TE} {ma mb mc me : M D} {pos p p2 : Pos} {ts : TA} {ms : M (List D)} {x : Str} {st : Stmt} {sts : List Stmt} {t u : TS} {m k : M Fl}
/-! ### blocks -/
def mSeq (m k : M Fl) : M Fl := bnd m fun
  | .nx => k
  | f => ret f
theorem sb_nil : SB X B W [] tNext (ret .nx) := ⟨pss_nil, fun ρ w r hr F σ H ok Dn p => by
  cases hr
  exact p F σ H (Sub.refl F) ok⟩
theorem sb_cons (h : SS X B W st t m) (g : SB X B W sts u k) : SB X B W (st :: sts) (tSeq t u) (mSeq m k) := ⟨pss_cons h.ps g.pss, fun ρ w r hr F σ H ok Dn p => by
  unfold mSeq bnd at hr
  cases hm : m ρ w with
  | none => rw [hm] at hr; cases hr
  | some r1 =>
    rw [hm] at hr
    refine h.sim ρ w r1 hm F σ H ok _ ?_
    cases r1 with
    | exc x ρ1 w1 => cases hr; exact fun d F' σ' H' s ok' hx => p d F' σ' H' s ok' hx
    | ok f ρ1 w1 =>
      cases f with
      | nx => exact fun F' σ' H' s ok' => g.sim ρ1 w1 r hr F' σ' H' ok' Dn (p.imp s)
      | br => cases hr; exact p
      | ct => cases hr; exact p
      | rt d => cases hr; exact p⟩
theorem sb_one (h : SS X B W st t m) : SB X B W [st] t m := ⟨pss_one h.ps, h.sim⟩
/-! ### small statements -/
theorem ss_pass : SS X B W (.Pass pos) tNext (ret .nx) := ⟨ps_pass, fun ρ w r hr F σ H ok Dn p => by
  cases hr
  exact p F σ H (Sub.refl F) ok⟩
theorem ss_break : SS X B W (.Break pos) tBreak (ret .br) := ⟨ps_break, fun ρ w r hr F σ H ok Dn p => by
  cases hr
  exact p F σ H (Sub.refl F) ok⟩
theorem ss_continue : SS X B W (.Continue pos) tCont (ret .ct) := ⟨ps_continue, fun ρ w r hr F σ H ok Dn p => by
  cases hr
  exact p F σ H (Sub.refl F) ok⟩
def mDrop (me : M D) : M Fl := bnd me fun _ => ret .nx
theorem ss_expr (h : SE X B W e te me) (hs : swapsWith e none pos.line X.env = pure false := by rfl) : SS X B W (.Expr e pos) (tDrop te) (mDrop me) := ⟨ps_expr h.pe hs, .of (k := fun _ => ret .nx) (tk := fun Dn _ σ H1 => Dn.nx σ H1) h.sim fun d ρ w r hr v F σ H ok rv Dn p => by
  cases hr
  exact p F σ H (Sub.refl F) ok⟩
def mRet (me : M D) : M Fl := bnd me fun d => ret (.rt d)
theorem ss_ret (h : SE X B W e te me) : SS X B W (.Return (some e) pos) (tRet te) (mRet me) := ⟨ps_ret h.pe, .of (k := fun d => ret (.rt d)) (tk := fun Dn v _ H1 => Dn.rt v H1) h.sim fun d ρ w r hr v F σ H ok rv Dn p => by
  cases hr
  exact p v F σ H (Sub.refl F) ok rv⟩
theorem ss_ret0 : SS X B W (.Return none pos) tRetN (ret (.rt .non)) := ⟨ps_retN, fun ρ w r hr F σ H ok Dn p => by
  cases hr
  exact p .non F σ H (Sub.refl F) ok .non⟩
/-! ### assignments -/
def setS (i : Nat) (d : D) : M Fl := fun ρ w => some (.ok .nx (ρ.set i (.val d)) w)
def mSet (i : Nat) (me : M D) : M Fl := bnd me fun d => setS i d
theorem sim_set {i : Nat} (h : Sim B W (RV B) te me) : SimS B W (tAsg te (gName i)) (mSet i me) :=
  .of (k := fun d => setS i d) (tk := fun Dn v σ H1 => Dn.nx (σ.set i (some v)) H1) h fun d ρ w r hr v F σ H ok rv Dn p => by
    cases hr
    exact p F _ H (Sub.refl F) (ok.setV i rv)
theorem ss_set {i : Nat} {pos' : Pos} (q : Cq Kf X B W n) (h : SE X B W e te me) (hi : X.N[i]? = some x := by rfl) (hx : Loc X.env.scope x := by first | exact Or.inl rfl | exact Or.inr rfl) (hs : swapsWith e (some (.Name x pos')) pos.line X.env = pure false := by rfl) (hf : X.fn x = true ∨ X.env.scope.names.lookup x = some .local := by first | exact .inl rfl | exact .inr rfl) :
    SS X B W (.Assign [.Name x pos'] e pos) (tAsg te (gName i)) (mSet i me) := by
  cases q.hX
  exact ⟨ps_set q.nd hi hx h.pe hs hf, sim_set h.sim⟩
def mAsg (me : M D) (bd : D → Rho → Option Rho) : M Fl := bnd me fun d ρ w => (bd d ρ).map fun ρ' => .ok .nx ρ' w
theorem ss_asg {tg : Expr} {g : TG} {vs : List Nat} {bd : D → Rho → Option Rho} (h : SE X B W e te me) (hg : SG X B vs tg g bd) (hs : swapsWithSole [tg] e pos.line X.env = pure false := by rfl) (hw : swappedStores [tg] e X.env = pure none := by rfl) (h1 : (assignEach [tg] X.env).map (·.2) = [assign tg X.env] := by rfl) :
    SS X B W (.Assign [tg] e pos) (tAsg te g) (mAsg me bd) := ⟨ps_asg h.pe hg.pg hs hw h1, .of (k := fun d ρ w => (bd d ρ).map fun ρ' => Rs.ok Fl.nx ρ' w) (tk := fun Dn v σ H1 => g v σ H1 Dn.nx) h.sim fun d ρ w r hr v F σ H ok rv Dn p => by
  cases hb : bd d ρ with
  | none => rw [hb] at hr; cases hr
  | some ρ' =>
    rw [hb] at hr
    cases hr
    exact hg.sim d ρ ρ' hb F w σ H v ok rv _ fun σ' _ ok' => p F σ' H (Sub.refl F) ok'⟩
def kPar (i j : Nat) : List D → M Fl
  | [d, d'] => fun ρ w => some (.ok .nx ((ρ.set i (.val d)).set j (.val d')) w)
  | _ => fun _ _ => none
def mPar (i j : Nat) (ms : M (List D)) : M Fl := bnd ms (kPar i j)
theorem ss_par {i j : Nat} {y : Str} {px py pt : Pos} {kt k2 pt2} (q : Cq Kf X B W n) (hs : SA X B W [a, b] ts ms) (hi : X.N[i]? = some x := by rfl) (hj : X.N[j]? = some y := by rfl) (hij : i ≠ j := by decide) (hx : X.env.scope.names.lookup x = some .local := by rfl) (hy : X.env.scope.names.lookup y = some .local := by rfl)
    (hw : swappedStores [.Tuple [.Name x px, .Name y py] kt pt] (.Tuple [a, b] k2 pt2) X.env = pure (some [x, y]) := by rfl) (hsw : swapsWithSole [.Tuple [.Name x px, .Name y py] kt pt] (.Tuple [a, b] k2 pt2) pos.line X.env = pure false := by rfl) :
    SS X B W (.Assign [.Tuple [.Name x px, .Name y py] kt pt] (.Tuple [a, b] k2 pt2) pos) (tPar i j ts) (mPar i j ms) := by
  cases q.hX
  exact ⟨ps_par q.calm q.nd hi hj hij hx hy hs.pa hw hsw, .of (k := kPar i j) (tk := fun Dn vs σ H1 => ∃ v w, vs = [v, w] ∧ Dn.nx ((σ.set i (some v)).set j (some w)) H1) hs.sim fun ds ρ w r hr vs F σ H ok rs Dn p => by
  unfold kPar at hr
  split at hr
  · cases hr
    obtain ⟨u1, u2, e, r1, r2⟩ := rs.two
    subst e
    exact ⟨u1, u2, rfl, p F _ H (Sub.refl F) ((ok.setV i r1).setV j r2)⟩
  · cases hr⟩
/-- n += e, ints -/
def mAug (i : Nat) (me : M D) : M Fl := fun ρ w => match ρ[i]? with
  | some (.val (.int x)) => bnd me (kInt fun y => setS i (.int (x + y))) ρ w
  | _ => none
theorem ss_augI {i : Nat} {pos' : Pos} (q : Cq Kf X B W n) (h : SE X B W e te me) (hi : X.N[i]? = some x := by rfl) (hx : Loc X.env.scope x := by first | exact Or.inl rfl | exact Or.inr rfl) (hf : X.fn x = true ∨ X.env.scope.names.lookup x = some .local := by first | exact .inl rfl | exact .inr rfl) :
    SS X B W (.AugAssign (.Name x pos') .Add e pos) (tAug i te (ipI fun i j => i + j)) (mAug i me) := by
  cases q.hX
  exact ⟨ps_aug q.nd hi hx h.pe ip_add hf, fun ρ w r hr F σ H ok Dn p => by
  unfold mAug at hr
  split at hr
  · rename_i z hz
    obtain ⟨v, h1, h2⟩ := ok.val i _ hz
    cases h2
    refine ⟨.int z, h1, ?_⟩
    exact SimS.of (k := kInt fun y => setS i (.int (z + y))) (tk := fun Dn y σ H1 => ∃ i' j, V.int z = V.int i' ∧ y = V.int j ∧ Dn.nx (σ.set i (some (V.int (i' + j)))) H1) h.sim (fun d ρ w r hr v F σ H ok rv Dn p => by
      obtain ⟨y, e1, hr2⟩ := kInt_some hr
      clear hr
      subst e1
      cases hr2
      cases rv
      exact ⟨z, y, rfl, rfl, p F _ H (Sub.refl F) (ok.setV i (.int _))⟩) ρ w r hr F σ H ok Dn p
  · cases hr⟩
/-! ### if -/
theorem ss_if {tc : TT} {mc : M Bool} {as bs : List Stmt} {t u : TS} {m k : M Fl} (hc : ST X B W c tc mc) (ha : SB X B W as t m) (hb : SB X B W bs u k) : SS X B W (.If c as bs pos) (tIfS tc t u) (mIte mc m k) := ⟨ps_if hc.pt ha.pss hb.pss, .of (k := fun c => if c = true then m else k) (tk := fun Dn b σ H1 => if b = true then t Dn σ H1 else u Dn σ H1) hc.sim fun d ρ w r hr b F σ H ok e Dn p => by
  cases e
  cases d with
  | true =>
    rw [if_pos rfl] at hr ⊢
    exact ha.sim ρ w r hr F σ H ok Dn p
  | false =>
    rw [if_neg Bool.false_ne_true] at hr ⊢
    exact hb.sim ρ w r hr F σ H ok Dn p⟩
/-! ### for -/
def forL (bd : D → Rho → Option Rho) (mb : M Fl) : List D → M Fl
  | [], ρ, w => some (.ok .nx ρ w)
  | d :: ds, ρ, w =>
    match bd d ρ with
    | none => none
    | some ρ0 =>
      match mb ρ0 w with
      | some (.ok .nx ρ1 w1) => forL bd mb ds ρ1 w1
      | some (.ok .ct ρ1 w1) => forL bd mb ds ρ1 w1
      | some (.ok .br ρ1 w1) => some (.ok .nx ρ1 w1)
      | some (.ok (.rt d') ρ1 w1) => some (.ok (.rt d') ρ1 w1)
      | some (.exc x ρ1 w1) => some (.exc x ρ1 w1)
      | none => none
def mFor (mi : M (List D)) (bd : D → Rho → Option Rho) (mb : M Fl) : M Fl := bnd mi fun ds => forL bd mb ds
theorem sim_for {tg : Expr} {wi : TI} {g : TG} {tb : TS} {mi : M (List D)} {bd : D → Rho → Option Rho} {mb : M Fl} {vs : List Nat} (hi : Sim B W (Walk B) wi mi)
    (hg : ∀ d ρ ρ', bd d ρ = some ρ' → ∀ F w σ H v, Ok B F ρ w σ H → Rp B.K F v d → ∀ Q : L2.St → Hp → Prop, (∀ σ', Ok B F ρ' w σ' H → Q σ' H) → g v σ H Q) (hb : SimS B W tb mb) : SimS B W (tFor wi g tb) (mFor mi bd mb) :=
  .of (k := fun ds => forL bd mb ds) (tk := fun Dn (J : It) σ H1 => ∃ W : Nat → Nat → L2.St → Hp → Prop, (∃ m, W 0 m σ H1) ∧ ∀ i m σ H, W i m σ H →
    (J.stop i H ∧ Dn.nx σ H) ∨ (J.go i H ∧ ∃ N : L2.St → Hp → Prop, (∀ σ' H', N σ' H' → ∃ m', m' < m ∧ W (i + 1) m' σ' H') ∧ ∀ x H', J.yld i H x H' → g x σ H' fun σ2 H2 => tb { Dn with nx := N, ct := N, bk := Dn.nx } σ2 H2)) hi fun ds ρ w r hr J F σ H ok wk Dn p => by
    refine ⟨fun i m σ' H' => ∃ F' ρ' w', m = ds.length - i ∧ i ≤ ds.length ∧ Sub F F' ∧ Ok B F' ρ' w' σ' H' ∧ forL bd mb (ds.drop i) ρ' w' = some r, ⟨ds.length, F, ρ, w, rfl, Nat.zero_le _, Sub.refl F, ok, hr⟩, ?_⟩
    rintro i m σ' H' ⟨F', ρ', w', rfl, hi', sF, ok', hrest⟩
    by_cases hlt : i < ds.length
    · refine .inr ?_
      obtain ⟨_, hgo⟩ := wk i F' _ _ _ _ sF B rfl ok'
      obtain ⟨go, hy⟩ := hgo _ (List.getElem?_eq_getElem hlt)
      refine ⟨go, fun σ'' H'' => ∃ F'' ρ'' w'', Sub F F'' ∧ Ok B F'' ρ'' w'' σ'' H'' ∧ forL bd mb (ds.drop (i + 1)) ρ'' w'' = some r, fun σ'' H'' ⟨F'', ρ'', w'', q1, q2, q3⟩ => ⟨ds.length - (i + 1), by omega, F'', ρ'', w'', rfl, hlt, q1, q2, q3⟩, fun x Hy yl => ?_⟩
      obtain ⟨F2, s2, ok2, rx⟩ := hy x Hy yl
      rw [List.drop_eq_getElem_cons hlt] at hrest
      unfold forL at hrest
      cases hbd : bd ds[i] ρ' with
      | none => rw [hbd] at hrest; cases hrest
      | some ρ0 =>
        rw [hbd] at hrest
        dsimp only at hrest
        refine hg _ _ ρ0 hbd F2 w' σ' Hy x ok2 rx _ fun σ2 ok3 => ?_
        cases hm : mb ρ0 w' with
        | none => rw [hm] at hrest; cases hrest
        | some r1 =>
          rw [hm] at hrest
          refine hb ρ0 w' r1 hm F2 σ2 Hy ok3 _ ?_
          have sF2 : Sub F F2 := sF.trans s2
          cases r1 with
          | exc z ρ1 w1 =>
            cases hrest
            exact p.imp sF2
          | ok f ρ1 w1 =>
            cases f with
            | nx => exact fun F3 σ3 H3 s3 ok4 => ⟨F3, ρ1, w1, sF2.trans s3, ok4, hrest⟩
            | ct => exact fun F3 σ3 H3 s3 ok4 => ⟨F3, ρ1, w1, sF2.trans s3, ok4, hrest⟩
            | br =>
              cases hrest
              exact fun F3 σ3 H3 s3 ok4 => p F3 σ3 H3 (sF2.trans s3) ok4
            | rt d =>
              cases hrest
              exact fun v F3 σ3 H3 s3 ok4 rv => p v F3 σ3 H3 (sF2.trans s3) ok4 rv
    · have ei : i = ds.length := by omega
      subst ei
      rw [List.drop_length] at hrest
      cases hrest
      obtain ⟨hst, _⟩ := wk ds.length F' _ _ _ _ sF B rfl ok'
      exact .inl ⟨hst (Nat.le_refl _), p F' σ' H' sF ok'⟩
theorem ss_for {tg iter : Expr} {body : List Stmt} {wi : TI} {g : TG} {tb : TS} {mi : M (List D)} {bd : D → Rho → Option Rho} {mb : M Fl} {vs : List Nat} (q : Cq Kf X B W n) (hp : PassesOwn (model X.prog X.w) X.A X.env X.xe) (hi : SI X B W tg iter wi mi) (hg : SG X B vs tg g bd) (hb : SB X B W body tb mb)
    (hs : ∀ x, foldedSetIterable iter X.env x = pure x := by intro _; rfl) : SS X B W (.For tg iter body [] pos) (tFor wi g tb) (mFor mi bd mb) := by
  cases q.hX
  exact ⟨ps_for hp q.calm hi.pi hg.pg hb.pss hs, sim_for (tg := tg) (vs := vs) hi.sim (fun d ρ ρ' h F w σ H v ok rv Q k => hg.sim d ρ ρ' h F w σ H v ok rv Q fun σ' _ ok' => k σ' ok') hb.sim⟩
/-! ### while -/
def whileL (mc : M Bool) (mb : M Fl) : Nat → M Fl
  | 0, _, _ => none
  | f + 1, ρ, w =>
    match mc ρ w with
    | some (.ok true ρ0 w0) =>
      match mb ρ0 w0 with
      | some (.ok .nx ρ1 w1) => whileL mc mb f ρ1 w1
      | some (.ok .ct ρ1 w1) => whileL mc mb f ρ1 w1
      | some (.ok .br ρ1 w1) => some (.ok .nx ρ1 w1)
      | some (.ok (.rt d') ρ1 w1) => some (.ok (.rt d') ρ1 w1)
      | some (.exc x ρ1 w1) => some (.exc x ρ1 w1)
      | none => none
    | some (.ok false ρ0 w0) => some (.ok .nx ρ0 w0)
    | some (.exc x ρ0 w0) => some (.exc x ρ0 w0)
    | none => none
theorem sim_while {tc : TT} {tb : TS} {mc : M Bool} {mb : M Fl} {f : Nat} (hc : Sim B W RB tc mc) (hb : SimS B W tb mb) : SimS B W (tWhile tc tb) (whileL mc mb f) := by
  intro ρ w r hr F σ H ok Dn p
  refine ⟨fun m σ' H' => ∃ F' ρ' w', Sub F F' ∧ Ok B F' ρ' w' σ' H' ∧ whileL mc mb m ρ' w' = some r, ⟨f, F, ρ, w, Sub.refl F, ok, hr⟩, ?_⟩
  rintro m σ' H' ⟨F', ρ', w', sF, ok', hrest⟩
  cases m with
  | zero => cases hrest
  | succ m =>
    unfold whileL at hrest
    cases h1 : mc ρ' w' with
    | none => rw [h1] at hrest; cases hrest
    | some r1 =>
      rw [h1] at hrest
      refine hc ρ' w' r1 h1 F' σ' H' ok' _ ?_
      cases r1 with
      | exc z ρ1 w1 =>
        cases hrest
        exact fun d F2 H2 s2 ok2 hx => p d F2 σ' H2 (sF.trans s2) ok2 hx
      | ok b ρ1 w1 =>
        intro b' F2 H2 s2 ok2 e
        cases e
        have sF2 := sF.trans s2
        cases b with
        | true =>
          rw [if_pos rfl]
          dsimp only at hrest
          refine ⟨fun σ3 H3 => ∃ F3 ρ3 w3, Sub F F3 ∧ Ok B F3 ρ3 w3 σ3 H3 ∧ whileL mc mb m ρ3 w3 = some r, fun σ3 H3 ⟨F3, ρ3, w3, q1, q2, q3⟩ => ⟨m, Nat.lt_succ_self m, F3, ρ3, w3, q1, q2, q3⟩, ?_⟩
          cases h2 : mb ρ1 w1 with
          | none => rw [h2] at hrest; cases hrest
          | some r2 =>
            rw [h2] at hrest
            refine hb ρ1 w1 r2 h2 F2 σ' H2 ok2 _ ?_
            cases r2 with
            | exc z ρ3 w3 =>
              cases hrest
              exact p.imp sF2
            | ok fl ρ3 w3 =>
              cases fl with
              | nx => exact fun F3 σ3 H3 s3 ok3 => ⟨F3, ρ3, w3, sF2.trans s3, ok3, hrest⟩
              | ct => exact fun F3 σ3 H3 s3 ok3 => ⟨F3, ρ3, w3, sF2.trans s3, ok3, hrest⟩
              | br =>
                cases hrest
                exact fun F3 σ3 H3 s3 ok3 => p F3 σ3 H3 (sF2.trans s3) ok3
              | rt d =>
                cases hrest
                exact fun v F3 σ3 H3 s3 ok3 rv => p v F3 σ3 H3 (sF2.trans s3) ok3 rv
        | false =>
          rw [if_neg
                Bool.false_ne_true]
          cases hrest
          exact p F2 σ' H2 sF2 ok2
theorem ss_while {tc : TT} {mc : M Bool} {body : List Stmt} {tb : TS} {mb : M Fl} (f : Nat) (hp : PassesOwn (model X.prog X.w) X.A X.env X.xe) (hc : ST X B W c tc mc) (hb : SB X B W body tb mb) : SS X B W (.While c body [] pos) (tWhile tc tb) (whileL mc mb f) := ⟨ps_while hp hc.pt hb.pss, sim_while hc.sim hb.sim⟩
end
end DL
set_option Elab.async false
set_option linter.all false
set_option maxRecDepth 100000
set_option
      maxHeartbeats 4000000
/-! DLJ: a def by its body; lists of one's own; methods. -/
namespace DL
open PySem PySem.Spec PyProof.Rows L2 RZ
/-! ### a def by its body -/
/-- what a body m over nn slots makes of k arguments -/
def gOf (k nn : Nat) (m : M Fl) : Fn1 := fun ds w =>
  if ds.length = k then
    match m (ds.map .val ++ List.replicate (nn - k) .free) w with
    | some (.ok .nx _ w') => some (.ok .non w')
    | some (.ok (.rt d) _ w') => some (.ok d w')
    | some (.exc x _ w') => some (.exc x w')
    | _ => none
  else none
theorem ok_start {K : PySem.W.Frag} {F H : Hp} {w : Wo} {vs : List V} {ds : List D} {N : List Str} (s : Sub F H) (k : WdOk F H w) (r : RpAll K F vs ds) (hl : vs.length ≤ N.length) : Ok ⟨K, H, F, w⟩ F (ds.map .val ++ List.replicate (N.length - ds.length) .free) w (L2.start N vs) H := by
  have hv := r.length
  refine ⟨s, Goes.refl H F w, k, ?_, fun i d e => ?_, fun i d e => ?_, fun i j a di dj e => ?_⟩
  · unfold L2.start
    simp only [List.length_append, List.length_map, List.length_replicate]
    omega
  · by_cases hi : i < ds.length
    · rw [List.getElem?_append_left (by simpa using hi), List.getElem?_map] at e
      cases q : ds[i]? with
      | none => rw [q]
            at e; cases e
      | some d' =>
        rw [q] at e
        cases e
        obtain ⟨v, h1, h2⟩ := r.get q
        refine ⟨v, ?_, h2⟩
        unfold L2.start
        rw [List.getElem?_append_left (by rw [List.length_map]; omega), List.getElem?_map, h1]
        rfl
    · rw [List.getElem?_append_right (by simpa using hi), List.getElem?_replicate] at e
      split at e <;> cases e
  · exfalso
    by_cases hi : i < ds.length
    · rw [List.getElem?_append_left (by simpa using hi), List.getElem?_map] at e
      cases q : ds[i]? with
      | none => rw [q]
            at e; cases e
      | some d' => rw [q] at e; cases e
    · rw [List.getElem?_append_right (by simpa using hi), List.getElem?_replicate] at e
      split at e <;> cases e
  · exfalso
    by_cases hi : i < ds.length
    · rw [List.getElem?_append_left (by simpa using hi), List.getElem?_map] at e
      cases q : ds[i]? with
      | none => rw [q]
            at e; cases e
      | some d' => rw [q] at e; cases e
    · rw [List.getElem?_append_right (by simpa using hi), List.getElem?_replicate] at e
      split at e <;> cases e
section
variable {P : Program} {wd : World} {K : PySem.W.Frag} {mg : Str → Option Value} {base : Heap}
/-- the context of a body -/
structure Body (K : PySem.W.Frag) (X : Cx) (B : Bs) (W : WX) (n : Nat) : Prop where
  q : Cq K X B W n
  pw : PassesOwn (model X.prog X.w) X.A X.env X.xe
theorem fnc_of {x qual : Str} {st : Stmt} {f : Addr} {fd : FuncData} {N ps : List Str} {n : Nat} {m : M Fl} (F : Fun K x qual st f fd) (S : FnScope N ps (defScope st)) (hm : mg x = some (.ref f)) (hb : Binds K fd ps [])
    (body : ∀ (cdv : Value) (A : Around) (outer : List Env) (s : Shared) (H : Hp) (E : XK), ∃ t, ∀ B : Bs, Body K (cxOf (L2.CX P wd) P wd K mg base N qual (defScope st) f cdv A outer s H E) B (fun cls d _ H => E cls d H) n →
      SB (cxOf (L2.CX P wd) P wd K mg base N qual (defScope st) f cdv A outer s H E) B (fun cls d _ H => E cls d H) (defBody st) t m) : Fnc P wd K mg base (n + 1) x ps.length (gOf ps.length N.length m) := by
  have hpl : ps.length ≤ N.length := by
    have e := congrArg List.length S.pre
    rw [List.length_take] at e
    omega
  refine ⟨f, fd, ps, hm, F.kp, hb, F.okX S (fun vs H Q E h => ?_) (fun cdv A outer s H vs Q E hr h => ?_)⟩
  · obtain ⟨_, _, _, _, h, _⟩ := h
    exact h
  · obtain ⟨Fz, ds, w, r, hk, hs, hw, rs, hg, post⟩ := h
    have hds : ds.length = ps.length := by rw [← rs.length]; exact hk
    obtain ⟨t, hbd⟩ := body cdv A outer s H E
    have hbd := hbd ⟨K, H, Fz, w⟩ ⟨⟨rfl, rfl, takes_of rfl rfl rfl rfl, hr, rfl, S.nd⟩, passes_of rfl⟩
    refine ⟨t, hbd.pss, ?_⟩
    have ok0 : Ok ⟨K, H, Fz, w⟩ Fz (ds.map .val ++ List.replicate (N.length - ds.length) .free) w (L2.start N vs) H := ok_start hs hw rs (by omega)
    unfold gOf at hg
    rw [if_pos hds] at hg
    rw [hds] at ok0
    cases hm0 : m (ds.map .val ++ List.replicate (N.length - ps.length) .free) w with
    | none => rw [hm0] at hg; cases hg
    | some r0 =>
      rw [hm0] at hg
      refine hbd.sim _ w r0 hm0 Fz _ H ok0 _ ?_
      cases r0 with
      | exc x ρ' w' =>
        cases hg
        exact fun d F' σ' H' _ ok' hx => post d F' H' ok'.sub ok'.wd ok'.go hx
      | ok fl ρ' w' =>
        cases fl with
        | nx =>
          cases hg
          exact fun F' σ' H' _ ok' => post .non F' H' ok'.sub ok'.wd ok'.go .non
        | rt d =>
          cases hg
          exact fun v F' σ' H' _ ok' rv => post v F' H' ok'.sub ok'.wd ok'.go rv
        | br => cases hg
        | ct => cases hg
/-- from nothing: no promise -/
theorem fnc_zero {x qual : Str} {st : Stmt} {f : Addr} {fd : FuncData} {ps : List Str} (F : Fun K x qual st f fd) (hm : mg x = some (.ref f)) (hb : Binds K fd ps []) : Fnc P wd K mg base 0 x ps.length (fun _ _ => none) :=
  ⟨f, fd, ps, hm, F.kp, hb, ⟨fun vs H Q E h => by
    obtain ⟨_, _, _, _, h, _⟩ := h
    exact h, fun A outer s H args us vs Q E hr he hbt hv h => by
    obtain ⟨_, _, _, _, _, _, _, _, hg, _⟩ := h
    cases hg⟩⟩
end

section
variable {X : Cx} {Kf : PySem.W.Frag} {B : Bs} {W : WX} {n : Nat} {a b c e : Expr} {es : List Expr} {ta tb tc te : TE} {ma mb mc me : M D} {pos p p2 apos : Pos} {ts : TA} {ms : M (List D)} {x : Str}
/-! ### new lists that may still change -/
def nLst (ms : M (List D)) : M (List D) := bnd ms fun ds => if ds.length ≤ 100000 then ret ds else fun _ _ => none
theorem sn_lst (hs : SA X B W es ts ms) : SN X B W (.List es pos) (tLst ts) (nLst ms) := ⟨pe_lst hs.pa, fun ρ w r hr F σ H ok Q p => by
  unfold nLst bnd at hr
  cases hm : ms ρ w with
  | none => rw [hm] at hr; cases hr
  | some r1 =>
    rw [hm] at hr
    refine hs.sim ρ w r1 hm F σ H ok _ ?_
    cases r1 with
    | exc z ρ1 w1 => cases hr; exact p
    | ok ds ρ1 w1 =>
      intro vs F' H' s ok' rs
      dsimp only at hr
      split at hr
      · rename_i hl
        cases hr
        refine ⟨by rw [rs.length]; exact small hl, fun q hq => ?_⟩
        obtain ⟨ok2, nw⟩ := ok'.newL hq rs
        exact p q F' _ s ok2 nw
      · cases hr⟩
/-- list(e): a new one -/
def nList (me : M D) : M (List D) := bnd me fun d => match d with
  | .tup xs => ret xs
  | .lst xs => ret xs
  | _ => fun _ _ => none
theorem sn_list (q : Cq Kf X B W n) (hg : Gl X "list") (hm : X.mg "list" = none) (h : SE X B W e te me) (he : starEach [e] X.env = (false, eval e X.env) :: starEach [] X.env := by rfl) (hpl : (backTo pos (starEach [] X.env)).any (·.1) = false := by rfl) :
    SN X B W (.Call (.Name "list" p) [e] [] pos) (tCB (rListA Kf) (tCons te tNil)) (nList me) := by
  cases q.hX
  exact ⟨pe_callTy call_listA hg hm PyProof.Rows.boot_list (pa_cons h.pe pa_nil he) (by decide) (by decide) he hpl, fun ρ w r hr F σ H ok Q p => by
  unfold nList bnd at hr
  cases hm : me ρ w with
  | none => rw [hm] at hr; cases hr
  | some r1 =>
    rw [hm] at hr
    rw [q.hK]
    refine h.sim ρ w r1 hm F σ H ok _ ?_
    cases r1 with
    | exc z ρ1 w1 => cases hr; exact p
    | ok d ρ1 w1 =>
      intro v F' H' s ok' rv
      dsimp only at hr
      cases d with
      | tup xs =>
        cases hr
        cases rv with
        | tup h1 r1 =>
          refine ⟨_, _, rfl, .inr (ok'.sub.sqP h1).sqT, fun l hl => ?_⟩
          obtain ⟨ok2, nw⟩ := ok'.newL hl r1
          exact p l F' _ s ok2 nw
      | lst xs =>
        cases hr
        cases rv with
        | lst h1 r1 =>
          refine ⟨_, _, rfl, .inl (SqL.of (ok'.sub _ _ h1)), fun l hl => ?_⟩
          obtain ⟨ok2, nw⟩ := ok'.newL hl r1
          exact p l F' _ s ok2 nw
      | _ => cases hr⟩
def setN (i : Nat) (ds : List D) : M Fl := fun ρ w => some (.ok .nx (ρ.set i (.own ds)) w)
theorem ss_setN {i : Nat} {pos' : Pos} {mn : M (List D)} (q : Cq Kf X B W n) (h : SN X B W e te mn) (hi : X.N[i]? = some x := by rfl) (hx : Loc X.env.scope x := by first | exact Or.inl rfl | exact Or.inr rfl) (hs : swapsWith e (some (.Name x pos')) pos.line X.env = pure false := by rfl) (hf : X.fn x = true ∨ X.env.scope.names.lookup x = some .local := by first | exact .inl rfl | exact .inr rfl) :
    SS X B W (.Assign [.Name x pos'] e pos) (tAsg te (gName i)) (bnd mn fun ds => setN i ds) := by
  cases q.hX
  exact ⟨ps_set q.nd hi hx h.pe hs hf, fun ρ w r hr F σ H ok Dn p => by
  unfold bnd at hr
  cases hm : mn ρ w with
  | none => rw [hm] at hr; cases hr
  | some r1 =>
    rw [hm] at hr
    refine h.sim ρ w r1 hm F σ H ok _ ?_
    cases r1 with
    | exc z ρ1 w1 => cases hr; exact fun d F' H' s ok' hx => p d F' σ H' s ok' hx
    | ok ds ρ1 w1 =>
      cases hr
      exact fun v F' H' s ok' nw => p F' _ H' s (ok'.setN i nw)⟩
/-! ### y = [.. for ..] -/
theorem ss_setLc {i : Nat} {y : Str} {py spos : Pos} {tg elt iter : Expr} {ifs : List Expr} {scope : Scope} {own : List (Str × Nat)} {wi : TI} {g : TG} {tt : TT} {mi : M (List D)} {bind : D → Rho → Option Rho} {mt : M Bool} {vs : List Nat} (q : Cq Kf X B W n) (hi : SI X B W tg iter wi mi) (ok : BlkOk X.N X.env.scope scope own)
    (hg : ∀ (s : Shared) (H : Hp) (C : Addr) (cl : List (Str × Addr)) (fp : List Addr) (B' : Bs), Kf = B'.K → SG (X.blk s H scope (compEnvC scope cl C X.env) fp) B' vs tg g bind)
    (ht : ∀ (s : Shared) (H : Hp) (C : Addr) (cl : List (Str × Addr)) (fp : List Addr) (B' : Bs), Kf = B'.K → Cq Kf (X.blk s H scope (compEnvC scope cl C X.env) fp) B' W0 n → SF (X.blk s H scope (compEnvC scope cl C X.env) fp) B' W0 ifs tt mt)
    (he : ∀ (s : Shared) (H : Hp) (C : Addr) (cl : List (Str × Addr)) (fp : List Addr) (B' : Bs), Kf = B'.K → Cq Kf (X.blk s H scope (compEnvC scope cl C X.env) fp) B' W0 n → SE (X.blk s H scope (compEnvC scope cl C X.env) fp) B' W0 elt te me)
    (hy : X.N[i]? = some y := by rfl) (hyl : X.env.scope.names.lookup y = some .local := by rfl) (hsw : swapsWith (.ListComp elt [⟨tg, iter, ifs, 0⟩] scope pos) (some (.Name y py)) spos.line X.env = pure true := by rfl)
    (hv : (vs.all fun i => (own.map (·.2)).contains i) = true := by rfl) (hs : ∀ x, foldedSetIterable iter X.env x = pure x := by intro _; rfl) : SS X B W (.Assign [.Name y py] (.ListComp elt [⟨tg, iter, ifs, 0⟩] scope pos) spos) (tAsg (tLc wi g tt te (own.map (·.2))) (gName i)) (mSet i (mLc (own.map (·.2)) mi bind mt me)) := by
  cases q.hX
  have cq : ∀ (s : Shared) (H : Hp) (C : Addr) (cl : List (Str × Addr)) (fp : List Addr) (B' : Bs), X.K = B'.K → Cq X.K (X.blk s H scope (compEnvC scope cl C X.env) fp) B' W0 n := fun s H C cl fp B' e => ⟨rfl, e, takes0, q.hr, q.calm, q.nd⟩
  exact ⟨ps_setLc q.calm q.nd hy hyl hsw hi.pi ok (fun s H C cl fp => (hg s H C cl fp ⟨X.K, fun _ => none, fun _ => none, none⟩ rfl).pg) (fun s H C cl fp => (ht s H C cl fp ⟨X.K, fun _ => none, fun _ => none, none⟩ rfl (cq _ _ _ _ _ _ rfl)).pts) (fun s H C cl fp => (he s H C cl fp ⟨X.K, fun _ => none, fun _ => none, none⟩ rfl (cq _ _ _ _ _ _ rfl)).pe) hs,
    sim_set (se_lc (pos := pos) q hi ok hg ht he hv hs).sim⟩
theorem sim_setN {t : TE} {i : Nat} {mn : M (List D)} (h : SimN B W t mn) : SimS B W (tAsg t (gName i)) (bnd mn fun ds => setN i ds) := fun ρ w r hr F σ H ok Dn p => by
  unfold bnd at hr
  cases hm : mn ρ w with
  | none => rw [hm] at hr; cases hr
  | some r1 =>
    rw [hm] at hr
    refine h ρ w r1 hm F σ H ok _ ?_
    cases r1 with
    | exc z ρ1 w1 => cases hr; exact fun d F' H' s ok' hx => p d F' σ H' s ok' hx
    | ok ds ρ1 w1 =>
      cases hr
      exact fun v F' H' s ok' nw => p F' _ H' s (ok'.setN i nw)
theorem ss_setLcN {i : Nat} {y : Str} {py spos : Pos} {tg elt iter : Expr} {ifs : List Expr} {scope : Scope} {own : List (Str × Nat)} {wi : TI} {g : TG} {tt : TT} {mi : M (List D)} {bind : D → Rho → Option Rho} {mt : M Bool} {vs : List Nat} (q : Cq Kf X B W n) (hi : SI X B W tg iter wi mi) (ok : BlkOk X.N X.env.scope scope own)
    (hg : ∀ (s : Shared) (H : Hp) (C : Addr) (cl : List (Str × Addr)) (fp : List Addr) (B' : Bs), Kf = B'.K → SG (X.blk s H scope (compEnvC scope cl C X.env) fp) B' vs tg g bind)
    (ht : ∀ (s : Shared) (H : Hp) (C : Addr) (cl : List (Str × Addr)) (fp : List Addr) (B' : Bs), Kf = B'.K → Cq Kf (X.blk s H scope (compEnvC scope cl C X.env) fp) B' W0 n → SF (X.blk s H scope (compEnvC scope cl C X.env) fp) B' W0 ifs tt mt)
    (he : ∀ (s : Shared) (H : Hp) (C : Addr) (cl : List (Str × Addr)) (fp : List Addr) (B' : Bs), Kf = B'.K → Cq Kf (X.blk s H scope (compEnvC scope cl C X.env) fp) B' W0 n → SE (X.blk s H scope (compEnvC scope cl C X.env) fp) B' W0 elt te me)
    (hy : X.N[i]? = some y := by rfl) (hyl : X.env.scope.names.lookup y = some .local := by rfl) (hsw : swapsWith (.ListComp elt [⟨tg, iter, ifs, 0⟩] scope pos) (some (.Name y py)) spos.line X.env = pure true := by rfl)
    (hv : (vs.all fun i => (own.map (·.2)).contains i) = true := by rfl) (hs : ∀ x, foldedSetIterable iter X.env x = pure x := by intro _; rfl) : SS X B W (.Assign [.Name y py] (.ListComp elt [⟨tg, iter, ifs, 0⟩] scope pos) spos) (tAsg (tLc wi g tt te (own.map (·.2))) (gName i)) (bnd (nLc (own.map (·.2)) mi bind mt me) fun ds => setN i ds) := by
  cases q.hX
  have cq : ∀ (s : Shared) (H : Hp) (C : Addr) (cl : List (Str × Addr)) (fp : List Addr) (B' : Bs), X.K = B'.K → Cq X.K (X.blk s H scope (compEnvC scope cl C X.env) fp) B' W0 n := fun s H C cl fp B' e => ⟨rfl, e, takes0, q.hr, q.calm, q.nd⟩
  exact ⟨ps_setLc q.calm q.nd hy hyl hsw hi.pi ok (fun s H C cl fp => (hg s H C cl fp ⟨X.K, fun _ => none, fun _ => none, none⟩ rfl).pg) (fun s H C cl fp => (ht s H C cl fp ⟨X.K, fun _ => none, fun _ => none, none⟩ rfl (cq _ _ _ _ _ _ rfl)).pts) (fun s H C cl fp => (he s H C cl fp ⟨X.K, fun _ => none, fun _ => none, none⟩ rfl (cq _ _ _ _ _ _ rfl)).pe) hs,
    sim_setN (sn_lc (pos := pos) q hi ok hg ht he hv hs).sim⟩
/-! ### methods of lists of one's own, named by a slot -/
/-- the receiver: a slot that holds a list of its own; the arguments are reckoned behind it -/
def kMeth (i : Nat) (f : List D → List D → Option (D × List D)) : List D → M D := fun ds ρ w =>
  match ρ[i]? with
  | some (.own l) => (f l ds).map fun z => .ok z.1 (ρ.set i (.own z.2)) w
  | _ => none
def mMeth (i : Nat) (ms : M (List D)) (f : List D → List D → Option (D × List D)) : M D := fun ρ w =>
  match ρ[i]? with
  | some (.own _) => bnd ms (kMeth i f) ρ w
  | _ => none
/-- by values: the list at a becomes another one -/
def MeS (K : PySem.W.Frag) (r : V → List V → Hp → VK → Prop) (f : List D → List D → Option (D × List D)) : Prop :=
  ∀ l ds z, f l ds = some z → ∀ (F H : Hp) a vs us, Sub F H → H a = some (.lst vs) → RpAll K F vs l → RpAll K F us ds → ∀ Q : VK, (∀ v vs', Rp K F v z.1 → RpAll K F vs' z.2 → Q v (upd H a (.lst vs'))) → r (.ref a) us H Q
theorem kMeth_sim {i : Nat} {r : V → List V → Hp → VK → Prop} {f : List D → List D → Option (D × List D)} (hr : MeS B.K r f) {ds : List D} {ρ : Rho} {w : Wo} {res : Rs D} (hres : kMeth i f ds ρ w = some res) {F : Hp} {σ : L2.St} {H : Hp} (ok : Ok B F ρ w σ H)
    {a : Addr} {us : List V} (ha : σ[i]? = some (some (.ref a))) (rs : RpAll B.K F us ds) {Q : VK} (p : Post B W (RV B) res F σ Q) : r (.ref a) us H Q := by
  unfold kMeth at hres
  split at hres
  · rename_i l hl
    cases hz : f l ds with
    | none => rw [hz] at hres; cases hres
    | some z =>
      rw [hz] at hres
      cases hres
      obtain ⟨a', vs, h1, h2, h3, h4, h5, h6⟩ := ok.own i l hl
      rw [ha] at h1
      cases h1
      exact hr l ds z hz F H a vs us ok.sub h2 h6 rs Q fun v vs' rv rvs => p v F _ (Sub.refl F) (ok.change hl ha rvs) rv
  · cases hres
theorem own_at {i : Nat} {ρ : Rho} {l : List D} {F : Hp} {w : Wo} {σ : L2.St} {H : Hp} (ok : Ok B F ρ w σ H) (h : ρ[i]? = some (.own l)) : ∃ (a : Addr) (vs : List V), σ[i]? = some (some (.ref a)) ∧ H a = some (.lst vs) := by
  obtain ⟨a, vs, h1, h2, _⟩ := ok.own i l h
  exact ⟨a, vs, h1, h2⟩
theorem sim_meth {i : Nat} {r : V → List V → Hp → VK → Prop} {f : List D → List D → Option (D × List D)} (hr : MeS B.K r f) (hs : Sim B W (RA B) ts ms) : Sim B W (RV B) (tBM B.K "list" r (tVar i) ts) (mMeth i ms f) := by
  intro ρ w res hres F σ H ok Q p
  unfold mMeth at hres
  split at hres
  · rename_i l hl
    obtain ⟨a, vs, ha, hH⟩ := own_at ok hl
    refine ⟨.ref a, ha, .inl ⟨rfl, _, SqL.of hH⟩, ?_⟩
    unfold bnd at hres
    cases hm : ms ρ w with
    | none => rw [hm] at hres; cases hres
    | some r1 =>
      rw [hm] at hres
      refine hs ρ w r1 hm F σ H ok _ ?_
      cases r1 with
      | exc z ρ1 w1 =>
        cases hres
        exact fun d F' H' s ok' hx => p d F' H' s ok' hx
      | ok ds ρ1 w1 => exact fun us F' H' s ok' rs => kMeth_sim hr hres ok' ha rs (p.imp s)
  · cases hres
theorem sim_meth0 {i : Nat} {r : V → List V → Hp → VK → Prop} {f : List D → List D → Option (D × List D)} (hr : MeS B.K r f) : Sim B W (RV B) (tBM0 B.K "list" r (tVar i)) (mMeth i mNil f) := by
  intro ρ w res hres F σ H ok Q p
  unfold mMeth at hres
  split at hres
  · rename_i l hl
    obtain ⟨a, vs, ha, hH⟩ := own_at ok hl
    exact ⟨.ref a, ha, .inl ⟨rfl, _, SqL.of hH⟩, kMeth_sim (i := i) (ds := []) hr hres ok ha .nil p⟩
  · cases hres
/-! append, extend, pop -/
def appendD (l : List D) : List D → Option (D × List D)
  | [d] => if l.length < 100000 then some (.non, l ++ [d]) else none
  | _ => none
theorem mes_append {K : PySem.W.Frag} : MeS K rAppend appendD := fun l ds z h F H a vs us sub hH r ru Q q => by
  unfold appendD at h
  split at h
  · split at h
    · rename_i hl
      cases h
      obtain ⟨v, e, rv⟩ := ru.one
      subst e
      exact ⟨a, vs, v, rfl, rfl, hH, Nat.lt_of_lt_of_le (by rw [r.length]; exact hl) (small (Nat.le_refl _)), q _ _ .non (r.append (.cons rv .nil))⟩
    · cases h
  · cases h
def extendD (l : List D) : List D → Option (D × List D)
  | [.lst zs] => if l.length + zs.length ≤ 100000 then some (.non, l ++ zs) else none
  | [.tup zs] => if l.length + zs.length ≤ 100000 then some (.non, l ++ zs) else none
  | _ => none
def rExtA (K : PySem.W.Frag) : V → List V → Hp → VK → Prop := fun x vs H Q => rExtend x vs H Q ∨ rExtT K x vs H Q
theorem mt_extA : MtR X "list.extend" (rExtA X.K) := fun pins s σ H x xs v us Q I rx rxs h => h.elim (fun h => mt_extend pins s σ H x xs v us Q I rx rxs h) fun h => mt_extT pins s σ H x xs v us Q I rx rxs h
theorem mes_extend {K : PySem.W.Frag} : MeS K (rExtA K) extendD := fun l ds z h F H a vs us sub hH r ru Q q => by
  unfold extendD at h
  split at h
  · split at h
    · rename_i hl
      cases h
      obtain ⟨v, e, rv⟩ := ru.one
      subst e
      cases rv with
      | lst h1 r1 => exact .inl ⟨a, _, vs, _, rfl, rfl, hH, sub _ _ h1, by rw [r.length, r1.length]; exact small hl, q _ _ .non (r.append r1)⟩
    · cases h
  · split at h
    · rename_i hl
      cases h
      obtain ⟨v, e, rv⟩ := ru.one
      subst e
      cases rv with
      | tup h1 r1 => exact .inr ⟨a, _, vs, _, rfl, rfl, hH, sub.sqP h1, by rw [r.length, r1.length]; exact small hl, q _ _ .non (r.append r1)⟩
    · cases h
  · cases h
def popD (l : List D) : List D → Option (D × List D)
  | [] => (l[l.length - 1]?).map fun y => (y, l.dropLast)
  | _ => none
theorem mes_pop {K : PySem.W.Frag} : MeS K rPop popD := fun l ds z h F H a vs us sub hH r ru Q q => by
  unfold popD at h
  split at h
  · cases hy : l[l.length - 1]? with
    | none => rw [hy] at h; cases h
    | some y =>
      rw [hy] at h
      cases h
      cases ru
      rw [← r.length] at hy
      obtain ⟨v, h1, h2⟩ := r.get hy
      exact ⟨a, vs, v, rfl, rfl, hH, h1, q _ _ h2 r.dropLast⟩
  · cases h
def popAtD (l : List D) : List D → Option (D × List D)
  | [.int i] => if -4294967296 ≤ i ∧ i ≤ 4294967296 then match seqIndex? i l.length with
    | some k => (l[k]?).map fun y => (y, l.eraseIdx k)
    | none => none else none
  | _ => none
theorem mes_popAt {K : PySem.W.Frag} : MeS K rPopAt popAtD := fun l ds z h F H a vs us sub hH r ru Q q => by
  unfold popAtD at h
  split at h
  · split at h
    · rename_i i hi
      cases hk : seqIndex? i l.length with
      | none => rw [hk]
            at h; cases h
      | some k =>
        rw [hk] at h
        dsimp only at h
        cases hy : l[k]? with
        | none => rw [hy] at h; cases h
        | some y =>
          rw [hy] at h
          cases h
          obtain ⟨v, e, rv⟩ := ru.one
          subst e
          cases rv
          obtain ⟨u, h1, h2⟩ := r.get hy
          exact ⟨a, vs, i, k, u, rfl, rfl, hH, by omega, by omega, by rw [r.length]; exact hk, h1, q _ _ h2 (r.eraseIdx k)⟩
    · cases h
  · cases h
theorem se_append {i : Nat} (q : Cq Kf X B W n) (ha : SA X B W [e] ts ms) (hN : X.N[i]? = some x := by rfl) (hv : Vis X.env.scope x := by first | exact Or.inl rfl | exact Or.inr (Or.inl rfl) | exact Or.inr (Or.inr rfl)) (hd : (x == ("__debug__" : Str)) = false := by decide) (hcd : (x == ("__classdict__" : Str)) = false := by decide)
    (hbase : attributeBase (.Name x p) "append" X.env (eval (.Name x p) X.env) = eval (.Name x p) X.env := by rfl) (hfew : ((backTo pos (starEach [e] X.env)).all (fun x => !x.1) && (backToKw pos (keywordEach [] X.env)).all (fun x => x.1.isSome) && decide ([e].length + ([] : List Keyword).length + (if ([] : List Keyword).isEmpty then 0 else 1) < 30)) = true := by rfl)
    (hline : (apos.endLine == pos.line) = true := by rfl) (hs : starEach [e] X.env = (false, eval e X.env) :: starEach [] X.env := by rfl) (hpl : (backTo pos (starEach [] X.env)).any (·.1) = false := by rfl) :
    SE X B W (.Call (.Attribute (.Name x p) "append" apos) [e] [] pos) (tBM Kf "list" rAppend (tVar i) ts) (mMeth i ms appendD) := by
  cases q.hX
  exact ⟨pe_bm PySem.F.plainAttrs_list PySem.F.slot_list_append PySem.F.type_list_append mt_append (pe_var hN hv hd hcd) ha.pa hbase hfew hline hs hpl, by rw [q.hK]; exact sim_meth mes_append ha.sim⟩
theorem se_extend {i : Nat} (q : Cq Kf X B W n) (ha : SA X B W [e] ts ms) (hN : X.N[i]? = some x := by rfl) (hv : Vis X.env.scope x := by first | exact Or.inl rfl | exact Or.inr (Or.inl rfl) | exact Or.inr (Or.inr rfl)) (hd : (x == ("__debug__" : Str)) = false := by decide) (hcd : (x == ("__classdict__" : Str)) = false := by decide)
    (hbase : attributeBase (.Name x p) "extend" X.env (eval (.Name x p) X.env) = eval (.Name x p) X.env := by rfl) (hfew : ((backTo pos (starEach [e] X.env)).all (fun x => !x.1) && (backToKw pos (keywordEach [] X.env)).all (fun x => x.1.isSome) && decide ([e].length + ([] : List Keyword).length + (if ([] : List Keyword).isEmpty then 0 else 1) < 30)) = true := by rfl)
    (hline : (apos.endLine == pos.line) = true := by rfl) (hs : starEach [e] X.env = (false, eval e X.env) :: starEach [] X.env := by rfl) (hpl : (backTo pos (starEach [] X.env)).any (·.1) = false := by rfl) :
    SE X B W (.Call (.Attribute (.Name x p) "extend" apos) [e] [] pos) (tBM Kf "list" (rExtA Kf) (tVar i) ts) (mMeth i ms extendD) := by
  cases q.hX
  exact ⟨pe_bm PySem.F.plainAttrs_list PySem.F.slot_list_extend PySem.F.type_list_extend mt_extA (pe_var hN hv hd hcd) ha.pa hbase hfew hline hs hpl, by rw [q.hK]; exact sim_meth mes_extend ha.sim⟩
theorem se_popAt {i : Nat} (q : Cq Kf X B W n) (ha : SA X B W [e] ts ms) (hN : X.N[i]? = some x := by rfl) (hv : Vis X.env.scope x := by first | exact Or.inl rfl | exact Or.inr (Or.inl rfl) | exact Or.inr (Or.inr rfl)) (hd : (x == ("__debug__" : Str)) = false := by decide) (hcd : (x == ("__classdict__" : Str)) = false := by decide)
    (hbase : attributeBase (.Name x p) "pop" X.env (eval (.Name x p) X.env) = eval (.Name x p) X.env := by rfl) (hfew : ((backTo pos (starEach [e] X.env)).all (fun x => !x.1) && (backToKw pos (keywordEach [] X.env)).all (fun x => x.1.isSome) && decide ([e].length + ([] : List Keyword).length + (if ([] : List Keyword).isEmpty then 0 else 1) < 30)) = true := by rfl)
    (hline : (apos.endLine == pos.line) = true := by rfl) (hs : starEach [e] X.env = (false, eval e X.env) :: starEach [] X.env := by rfl) (hpl : (backTo pos (starEach [] X.env)).any (·.1) = false := by rfl) :
    SE X B W (.Call (.Attribute (.Name x p) "pop" apos) [e] [] pos) (tBM Kf "list" rPopAt (tVar i) ts) (mMeth i ms popAtD) := by
  cases q.hX
  exact ⟨pe_bm PySem.F.plainAttrs_list PySem.F.slot_list_pop PySem.F.type_list_pop mt_popAt (pe_var hN hv hd hcd) ha.pa hbase hfew hline hs hpl, by rw [q.hK]; exact sim_meth mes_popAt ha.sim⟩
theorem se_pop {i : Nat} (q : Cq Kf X B W n) (hN : X.N[i]? = some x := by rfl) (hv : Vis X.env.scope x := by first | exact Or.inl rfl | exact Or.inr (Or.inl rfl) | exact Or.inr (Or.inr rfl)) (hd : (x == ("__debug__" : Str)) = false := by decide) (hcd : (x == ("__classdict__" : Str)) = false := by decide)
    (hbase : attributeBase (.Name x p) "pop" X.env (eval (.Name x p) X.env) = eval (.Name x p) X.env := by rfl) (hline : (apos.endLine == pos.line) = true := by rfl) :
    SE X B W (.Call (.Attribute (.Name x p) "pop" apos) [] [] pos) (tBM0 Kf "list" rPop (tVar i)) (mMeth i mNil popD) := by
  cases q.hX
  exact ⟨pe_bm0 PySem.F.plainAttrs_list PySem.F.slot_list_pop PySem.F.type_list_pop mt_pop (pe_var hN hv hd hcd) hbase hline, by rw [q.hK]; exact sim_meth0 mes_pop⟩
end
end DL
set_option Elab.async false
set_option linter.all false
set_option maxRecDepth 100000
set_option
      maxHeartbeats 4000000
/-! DLK: the drawing source: its fields read and put, its cells. -/
namespace DL
open PySem PySem.Spec PyProof.Rows L2 RZ
theorem Ok.world {B : Bs} {F : Hp} {ρ : Rho} {s s' : Src} {σ : L2.St} {H H' : Hp} (k : Ok B F ρ (some s) σ H) (e1 : s'.sa = s.sa) (e2 : s'.ca = s.ca) (old : ∀ a, a ≠ s.sa → a ≠ s.ca → H' a = H a) (h1 : H' s.sa = some (.dK (srcK s'))) (h2 : H' s.ca = some (.lst (s'.cells.map V.int))) : Ok B F ρ (some s') σ H' := by
  obtain ⟨g1, g2, g3, g4, g5⟩ := k.wd
  have ea : adr (some s') = adr (some s) := by
    show [s'.sa, s'.ca] = [s.sa, s.ca]
    rw [e1, e2]
  have nin : ∀ a, a ∉ adr (some s) → a ≠ s.sa ∧ a ≠ s.ca := fun a h => ⟨fun z => h (by rw [z]; exact List.mem_cons_self), fun z => h (by rw [z]; exact List.mem_cons_of_mem _ List.mem_cons_self)⟩
  have nF : ∀ a o, F a = some o → a ≠ s.sa ∧ a ≠ s.ca := fun a o h => ⟨fun z => (by rw [z, g1] at h; cases h), fun z => (by rw [z, g2] at h; cases h)⟩
  refine ⟨fun a o e => ?_, ⟨k.go.sub, fun a o e n => ?_, k.go.frs, fun a h => by rw [ea]; exact k.go.old a h, fun a h => k.go.new a (by rw [← ea]; exact h)⟩, ⟨by rw [e1]; exact g1, by rw [e2]; exact g2, by rw [e1, e2]; exact g3, by rw [e1]; exact h1, by rw [e2]; exact h2⟩, k.len, k.val, fun i ds e => ?_, k.inj⟩
  · obtain ⟨n1, n2⟩ := nF a o e
    rw [old a n1 n2]
    exact k.sub a o e
  · have w : a ∉ adr (some s) := fun z => by
      rcases k.go.new a z with q | q
      · exact n q
      · rw [q] at e; cases e
    obtain ⟨n1, n2⟩ := nin a w
    rw [old a n1 n2]
    exact k.go.keep a o e n
  · obtain ⟨a, vs, q1, q2, q3, q4, q5, q6⟩ := k.own i ds e
    obtain ⟨n1, n2⟩ := nin a q5
    exact ⟨a, vs, q1, by rw [old a n1 n2]; exact q2, q3, q4, by rw [ea]; exact q5, q6⟩
/-- its fields -/
inductive Fd where
  | cells | left | mixed | turn
def Fd.key : Fd → Str
  | .cells => "cells"
  | .left => "left"
  | .mixed => "mixed"
  | .turn => "turn"
def Fd.v (s : Src) : Fd → V
  | .cells => .ref s.ca
  | .left => .int s.left
  | .mixed => .int s.mixed
  | .turn => .int s.turn
def Fd.d (s : Src) : Fd → D
  | .cells => .raw (.ref s.ca)
  | .left => .int s.left
  | .mixed => .int s.mixed
  | .turn => .int s.turn
def Fd.put (s : Src) (i : Int) : Fd → Option Src
  | .cells => none
  | .left => some { s with left := i }
  | .mixed => some { s with mixed := i }
  | .turn => some { s with turn := i }
theorem Fd.rp {K : PySem.W.Frag} {F : Hp} (f : Fd) (s : Src) : Rp K F (f.v s) (f.d s) := by cases f <;> constructor
theorem Fd.at' (f : Fd) (s : Src) : valV (srcK s) (.inr f.key) = some (f.v s) := by
  have h1 : ¬ ((Sum.inr "cells" : Key) = .inr "left") := by decide +kernel
  have h2 : ¬ ((Sum.inr "cells" : Key) = .inr "mixed") := by decide +kernel
  have h3 : ¬ ((Sum.inr "cells" : Key) = .inr "turn") := by decide +kernel
  have h4 : ¬ ((Sum.inr "left" : Key) = .inr "mixed") := by decide +kernel
  have h5 : ¬ ((Sum.inr "left" : Key) = .inr "turn") := by decide +kernel
  have h6 : ¬ ((Sum.inr "mixed" : Key) = .inr "turn") := by decide +kernel
  unfold srcK
  cases f with
  | cells => exact valV_pos rfl
  | left => exact (valV_neg h1).trans (valV_pos rfl)
  | mixed => exact (valV_neg h2).trans ((valV_neg h4).trans (valV_pos rfl))
  | turn => exact (valV_neg h3).trans ((valV_neg h5).trans ((valV_neg h6).trans (valV_pos rfl)))
theorem Fd.putK {s s' : Src} {i : Int} {f : Fd} (h : f.put s i = some s') : putK (srcK s) (.inr f.key) (.int i) = srcK s' ∧ s'.sa = s.sa ∧ s'.ca = s.ca ∧ s'.cells = s.cells := by
  have h1 : ¬ ((Sum.inr "cells" : Key) = .inr "left") := by decide +kernel
  have h2 : ¬ ((Sum.inr "cells" : Key) = .inr "mixed") := by decide +kernel
  have h3 : ¬ ((Sum.inr "cells" : Key) = .inr "turn") := by decide +kernel
  have h4 : ¬ ((Sum.inr "left" : Key) = .inr "mixed") := by decide +kernel
  have h5 : ¬ ((Sum.inr "left" : Key) = .inr "turn") := by decide +kernel
  have h6 : ¬ ((Sum.inr "mixed" : Key) = .inr "turn") := by decide +kernel
  have g4 : ¬ ((Sum.inr "mixed" : Key) = .inr "left") := by decide +kernel
  have g5 : ¬ ((Sum.inr "turn" : Key) = .inr "left") := by decide +kernel
  have g6 : ¬ ((Sum.inr "turn" : Key) = .inr "mixed") := by decide +kernel
  have hp : ∀ f : Fd, L2.putK (srcK s) (.inr f.key) (.int i) = (srcK s).map fun kv => if kv.1 = .inr f.key then (kv.1, .int i) else kv := fun f => by
    unfold L2.putK
    rw [valV_any, Fd.at', Option.isSome_some, if_pos rfl]
  rw [hp]
  cases f with
  | cells => cases h
  | left =>
    cases h
    refine ⟨?_, rfl, rfl, rfl⟩
    unfold srcK Fd.key
    simp only [List.map_cons, List.map_nil, if_neg h1, if_neg g4, if_neg g5, if_true]
  | mixed =>
    cases h
    refine ⟨?_, rfl, rfl, rfl⟩
    unfold srcK Fd.key
    simp only [List.map_cons, List.map_nil, if_neg h2, if_neg h4, if_neg g6, if_true]
  | turn =>
    cases h
    refine ⟨?_, rfl, rfl, rfl⟩
    unfold srcK Fd.key
    simp only [List.map_cons, List.map_nil, if_neg h3, if_neg h5, if_neg h6, if_true]
/-- the source that a slot names -/
def isSrc (i : Nat) (ρ : Rho) (w : Wo) : Option Src :=
  match ρ[i]?, w with
  | some (.val (.raw (.ref a))), some s => if a = s.sa then some s else none
  | _, _ => none
def isCel (i : Nat) (ρ : Rho) (w : Wo) : Option Src :=
  match ρ[i]?, w with
  | some (.val (.raw (.ref a))), some s => if a = s.ca then some s else none
  | _, _ => none
theorem raw_at {B : Bs} {F : Hp} {ρ : Rho} {w : Wo} {σ : L2.St} {H : Hp} (k : Ok B F ρ w σ H) {i : Nat} {v : V} (h : ρ[i]? = some (.val (.raw v))) : σ[i]? = some (some v) := by
  obtain ⟨u, h1, h2⟩ := k.val i _ h
  cases h2
  exact h1
theorem isSrc_some {B : Bs} {F : Hp} {ρ : Rho} {w : Wo} {σ : L2.St} {H : Hp} (k : Ok B F ρ w σ H) {i : Nat} {s : Src} (h : isSrc i ρ w = some s) : w = some s ∧ σ[i]? = some (some (.ref s.sa)) := by
  unfold isSrc at h
  split at h
  · rename_i a s' h1
    split at h
    · rename_i e
      cases h
      subst e
      exact ⟨rfl, raw_at k h1⟩
    · cases h
  · cases h
theorem isCel_some {B : Bs} {F : Hp} {ρ : Rho} {w : Wo} {σ : L2.St} {H : Hp} (k : Ok B F ρ w σ H) {i : Nat} {s : Src} (h : isCel i ρ w = some s) : w = some s ∧ σ[i]? = some (some (.ref s.ca)) := by
  unfold isCel at h
  split at h
  · rename_i a s' h1
    split at h
    · rename_i e
      cases h
      subst e
      exact ⟨rfl, raw_at k h1⟩
    · cases h
  · cases h
def mSrc (i : Nat) (f : Fd) : M D := fun ρ w => (isSrc i ρ w).map fun s => .ok (f.d s) ρ w
def mPut (i : Nat) (f : Fd) (me : M D) : M Fl := bnd me (kInt fun j ρ w => (isSrc i ρ w).bind fun s => (f.put s j).map fun s' => .ok .nx ρ (some s'))
/-- len(cells), cells.pop() -/
def mClen (i : Nat) : M D := fun ρ w => (isCel i ρ w).map fun s => .ok (.int s.cells.length) ρ w
def mCpop (i : Nat) : M D := fun ρ w => (isCel i ρ w).bind fun s => (s.cells[s.cells.length - 1]?).map fun c => .ok (.int c) ρ (some { s with cells := s.cells.dropLast })
section
variable {X : Cx} {Kf : PySem.W.Frag} {B : Bs} {W : WX} {n : Nat} {a b c e : Expr} {es : List Expr} {ta tb tc te : TE} {ma mb mc me : M D} {pos p p2 apos : Pos} {ts : TA} {ms : M (List D)} {x k : Str} {i : Nat}
theorem se_src {j : Nat} (q : Cq Kf X B W n) (f : Fd) (hk : k = f.key) (hN : X.N[i]? = some x := by rfl) (hv : Vis X.env.scope x := by first | exact Or.inl rfl | exact Or.inr (Or.inl rfl) | exact Or.inr (Or.inr rfl)) (hd : (x == ("__debug__" : Str)) = false := by decide) (hcd : (x == ("__classdict__" : Str)) = false := by decide)
    (hs : NoSl (.Constant (.str k) j p2) := by exact fun _ _ => rfl) : SE X B W (.Subscript (.Name x p) (.Constant (.str k) j p2) pos) (tDGet (tVar i) (tC (.str k))) (mSrc i f) := by
  cases q.hX
  exact ⟨pe_dget (by have := q.hr.un; omega) (pe_var hN hv hd hcd) pe_str hs, fun ρ w r hr F σ H ok Q p => by
  unfold mSrc at hr
  cases hs : isSrc i ρ w with
  | none => rw [hs] at hr; cases hr
  | some s =>
    rw [hs] at hr
    cases hr
    obtain ⟨ew, hσ⟩ := isSrc_some ok hs
    subst ew
    subst hk
    exact ⟨_, hσ, s.sa, f.v s, rfl, .inl ⟨_, .inr f.key, .inl ok.wd.2.2.2.1, rfl, (f.at' s).symm⟩, p _ F H (Sub.refl F) ok (f.rp s)⟩⟩
theorem ss_put {j : Nat} {pos' : Pos} (q : Cq Kf X B W n) (f : Fd) (h : SE X B W e te me) (hk : k = f.key) (hN : X.N[i]? = some x := by rfl) (hv : Vis X.env.scope x := by first | exact Or.inl rfl | exact Or.inr (Or.inl rfl) | exact Or.inr (Or.inr rfl)) (hd : (x == ("__debug__" : Str)) = false := by decide) (hcd : (x == ("__classdict__" : Str)) = false := by decide)
    (hs : swapsWith e (some (.Subscript (.Name x p) (.Constant (.str k) j p2) pos')) pos.line X.env = pure false := by rfl) : SS X B W (.Assign [.Subscript (.Name x p) (.Constant (.str k) j p2) pos'] e pos) (sDPut (tVar i) (tC (.str k)) te) (mPut i f me) := by
  cases q.hX
  exact ⟨ps_dput (by have := q.hr.un; omega) (pe_var hN hv hd hcd) pe_str h.pe hs, .of (k := kInt fun j ρ w => (isSrc i ρ w).bind fun s => (f.put s j).map fun s' => Rs.ok Fl.nx ρ (some s')) (tk := fun Dn v σ H1 => tVar i σ H1 fun x H2 => tC (.str k) σ H2 fun y H3 => ∃ a H4, x = .ref a ∧ DPut H3 a y v H4 ∧ Dn.nx σ H4) h.sim fun d ρ w r hr v F σ H ok rv Dn p => by
  obtain ⟨z, ed, hr2⟩ := kInt_some hr
  clear hr
  have hr := hr2
  clear hr2
  subst ed
  cases rv
  cases hs : isSrc i ρ w with
  | none => rw [hs] at hr; cases hr
  | some s =>
    rw [hs] at hr
    have hr : (f.put s z).map (fun s' => Rs.ok Fl.nx ρ (some s')) = some r := hr
    cases hp : f.put s z with
    | none => rw [hp] at hr; cases hr
    | some s' =>
      rw [hp] at hr
      cases hr
      obtain ⟨ew, hσ⟩ := isSrc_some ok hs
      subst ew
      subst hk
      obtain ⟨e1, e2, e3, e4⟩ := Fd.putK hp
      obtain ⟨g1, g2, g3, g4, g5⟩ := ok.wd
      refine ⟨_, hσ, s.sa, upd H s.sa (.dK (putK (srcK s) (.inr f.key) (.int z))), rfl, .inl ⟨_, .inr f.key, g4, rfl, by show 4 < sizeLine; decide, rfl⟩, ?_⟩
      rw [e1]
      exact p F σ _ (Sub.refl F) (ok.world e2 e3 (fun a n1 _ => upd_ne n1) upd_same (by rw [upd_ne fun z => g3 z.symm, e4]; exact g5))⟩
theorem se_clen (q : Cq Kf X B W n) (hg : Gl X "len") (hm : X.mg "len" = none) (hN : X.N[i]? = some x := by rfl) (hv : Vis X.env.scope x := by first | exact Or.inl rfl | exact Or.inr (Or.inl rfl) | exact Or.inr (Or.inr rfl)) (hd : (x == ("__debug__" : Str)) = false := by decide) (hcd : (x == ("__classdict__" : Str)) = false := by decide)
    (he : starEach [.Name x p2] X.env = (false, eval (.Name x p2) X.env) :: starEach [] X.env := by rfl) (hpl : (backTo pos (starEach [] X.env)).any (·.1) = false := by rfl) : SE X B W (.Call (.Name "len" p) [.Name x p2] [] pos) (tCB (rLenA Kf) (tCons (tVar i) tNil)) (mClen i) := by
  cases q.hX
  exact ⟨pe_callB call_lenA hg hm PySem.boot_len (pa_cons (pe_var hN hv hd hcd) pa_nil he) (by decide) (by decide) he hpl, fun ρ w r hr F σ H ok Q p => by
  unfold mClen at hr
  cases hs : isCel i ρ w with
  | none => rw [hs] at hr; cases hr
  | some s =>
    rw [hs] at hr
    cases hr
    obtain ⟨ew, hσ⟩ := isCel_some ok hs
    subst ew
    refine ⟨_, hσ, _, s.cells.length, rfl, .inl ⟨_, SqL.of ok.wd.2.2.2.2, by rw [List.length_map]⟩, p _ F H (Sub.refl F) ok (.int _)⟩⟩
theorem se_cpop (q : Cq Kf X B W n) (hN : X.N[i]? = some x := by rfl) (hv : Vis X.env.scope x := by first | exact Or.inl rfl | exact Or.inr (Or.inl rfl) | exact Or.inr (Or.inr rfl)) (hd : (x == ("__debug__" : Str)) = false := by decide) (hcd : (x == ("__classdict__" : Str)) = false := by decide)
    (hbase : attributeBase (.Name x p) "pop" X.env (eval (.Name x p) X.env) = eval (.Name x p) X.env := by rfl) (hline : (apos.endLine == pos.line) = true := by rfl) :
    SE X B W (.Call (.Attribute (.Name x p) "pop" apos) [] [] pos) (tBM0 Kf "list" rPop (tVar i)) (mCpop i) := by
  cases q.hX
  exact ⟨pe_bm0 PySem.F.plainAttrs_list PySem.F.slot_list_pop PySem.F.type_list_pop mt_pop (pe_var hN hv hd hcd) hbase hline, fun ρ w r hr F σ H ok Q p => by
  unfold mCpop at hr
  cases hs : isCel i ρ w with
  | none => rw [hs] at hr; cases hr
  | some s =>
    rw [hs] at hr
    have hr : (s.cells[s.cells.length - 1]?).map (fun c => Rs.ok (.int c) ρ (some { s with cells := s.cells.dropLast })) = some r := hr
    cases hc : s.cells[s.cells.length - 1]? with
    | none => rw [hc] at hr; cases hr
    | some c =>
      rw [hc] at hr
      cases hr
      obtain ⟨ew, hσ⟩ := isCel_some ok hs
      subst ew
      obtain ⟨g1, g2, g3, g4, g5⟩ := ok.wd
      refine ⟨_, hσ, .inl ⟨rfl, _, SqL.of g5⟩, s.ca, _, .int c, rfl, rfl, g5, by rw [List.length_map, List.getElem?_map, hc]; rfl, ?_⟩
      refine p _ F _ (Sub.refl F) (ok.world rfl rfl (fun a _ n2 => upd_ne n2) (by rw [upd_ne g3]; exact g4) ?_) (.int c)
      rw [← List.map_dropLast]
      exact upd_same⟩
end
end DL
set_option Elab.async false
set_option linter.all false
set_option maxRecDepth 100000
set_option
      maxHeartbeats 4000000
/-! DLL: written dicts of the module, tuple.index, starred parts of displays, calls of defs that a slot holds. -/
namespace DL
open PySem PySem.Spec PyProof.Rows L2 RZ StX
/-! ### a written dict of the module, texts to data -/
structure KD (K : PySem.W.Frag) (w : World) (a : Addr) (tb : List (Str × Option D)) : Prop where
  es : ∃ es n, KDict K w a es n
  at' : ∀ z o, tb.lookup z = some o → match o with
    | some d => ∃ u v, PySem.W.nsIn K a z = some (some u) ∧ RelV v u ∧ ∀ F, Rp K F v d
    | none => PySem.W.nsIn K a z = some none
def kdGet (tb : List (Str × Option D)) : D → Option D
  | .str z => (tb.lookup z).bind id
  | _ => none
def kdIn (neg : Bool) (tb : List (Str × Option D)) : D → Option Bool
  | .str z => (tb.lookup z).map fun o => o.isSome != neg
  | _ => none
section
variable {X : Cx} {Kf : PySem.W.Frag} {B : Bs} {W : WX} {n : Nat} {a b c e : Expr} {es : List Expr} {ta tb tc te : TE} {ma mb mc me : M D} {pos p p2 apos : Pos} {ts : TA} {ms : M (List D)} {x k : Str} {i : Nat} {A : Addr} {dt : List (Str × Option D)}
theorem se_kget (q : Cq Kf X B W n) (hg : Gl X x) (hm : X.mg x = some (.ref A)) (T : KD X.K X.w A dt) (h : SE X B W e te me) (hs : PlainIx e) (hdb : (x == ("__debug__" : Str)) = false := by decide) : SE X B W (.Subscript (.Name x p) e pos) (tOp (rIxD Kf X.w) (tC (.ref A)) te) (bnd me fun d => lft (kdGet dt d)) := by
  cases q.hX
  exact ⟨pe_ix ix_kdict (pe_glob hg hm rfl hdb) h.pe hs, Sim.bnd (R' := RV B) (k := fun d => lft (kdGet dt d)) (tk := fun y σ H Q => rIxD X.K X.w (.ref A) y H Q) h.sim fun d ρ w r hr v F σ H ok rv Q p => by
    obtain ⟨z, hz, e1⟩ := lft_some hr
    subst e1
    unfold kdGet at hz
    split at hz
    · rename_i y
      cases rv
      cases hl : dt.lookup y with
      | none => rw [hl] at hz; cases hz
      | some o =>
        rw [hl] at hz
        have hz : o = some z := hz
        subst hz
        obtain ⟨es, n, D⟩ := T.es
        obtain ⟨u, v, h1, h2, h3⟩ := T.at' y _ hl
        exact ⟨A, y, v, rfl, rfl, ⟨es, n, u, D.at_, D.lit, h1, h2⟩, p v F H (Sub.refl F) ok (by have g := h3 F; rw [q.hK] at g; exact g)⟩
    · cases hz⟩
def rKin (K : PySem.W.Frag) (neg : Bool) (A : Addr) : R2 := fun x y H Q => ∃ (z : Str) (r : Option Value), x = .str z ∧ y = .ref A ∧ PySem.W.nsIn K A z = some r ∧ Q (.bl (r.isSome != neg)) H
theorem op_kin (T : KD X.K X.w A dt) : OpR X (compareOp .In) (rKin X.K false A) := by
  obtain ⟨es, n, D⟩ := T.es
  intro pins s σ H x
        y v u Q I rx ry h
  obtain ⟨z, r, e1, e2, e3, q⟩ := h
  exact op_in_kd D pins s σ H x y v u Q I rx ry ⟨z, r, e1, e2, e3, by simpa using q⟩
theorem op_kni (T : KD X.K X.w A dt) : OpR X (compareOp .NotIn) (rKin X.K true A) := by
  obtain ⟨es, n, D⟩ := T.es
  intro pins s σ H x
        y v u Q I rx ry h
  obtain ⟨z, r, e1, e2, e3, q⟩ := h
  exact op_notIn_kd D pins s σ H x y v u Q I rx ry ⟨z, r, e1, e2, e3, by simpa using q⟩
theorem sim_kin {neg : Bool} (T : KD X.K X.w A dt) (h : Sim B W (RV B) te me) : Sim B W RB (tTest (tOp (rKin X.K neg A) te (tC (.ref A)))) (bnd me fun d => lft (kdIn neg dt d)) :=
  Sim.bnd (R' := RB) (k := fun d => lft (kdIn neg dt d)) (tk := fun y σ H Q => rKin X.K neg A y (.ref A) H fun x H' => ∃ k, x = .bl k ∧ Q k H') h fun d ρ w r hr v F σ H ok rv Q p => by
    obtain ⟨z, hz, e1⟩ := lft_some hr
    subst e1
    unfold kdIn at hz
    split at hz
    · rename_i y
      cases rv
      cases hl : dt.lookup y with
      | none => rw [hl] at hz; cases hz
      | some o =>
        rw [hl] at hz
        cases hz
        have h1 := T.at' y o hl
        cases o with
        | none => exact ⟨y, none, rfl, rfl, h1, _, rfl, p _ F H (Sub.refl F) ok rfl⟩
        | some d =>
          obtain ⟨u, v, h1, h2, h3⟩ := h1
          exact ⟨y, some u, rfl, rfl, h1, _, rfl, p _ F H (Sub.refl F) ok rfl⟩
    · cases hz
theorem st_kin (q : Cq Kf X B W n) (hg : Gl X x) (hm : X.mg x = some (.ref A)) (T : KD X.K X.w A dt) (h : SE X B W e te me) (hb : behindInMarks .In (.Name x p) = false := by with_unfolding_all rfl) (hdb : (x == ("__debug__" : Str)) = false := by decide) : ST X B W (.Compare e [.In] [.Name x p] pos) (tTest (tOp (rKin Kf false A) te (tC (.ref A)))) (bnd me fun d => lft (kdIn false dt d)) := by
  cases q.hX
  exact
  ⟨pt_cmpR (op_kin T) h.pe (pe_glob hg hm rfl hdb) hb, sim_kin T h.sim⟩
theorem st_kni (q : Cq Kf X B W n) (hg : Gl X x) (hm : X.mg x = some (.ref A)) (T : KD X.K X.w A dt) (h : SE X B W e te me) (hb : behindInMarks .NotIn (.Name x p) = false := by with_unfolding_all rfl) (hdb : (x == ("__debug__" : Str)) = false := by decide) : ST X B W (.Compare e [.NotIn] [.Name x p] pos) (tTest (tOp (rKin Kf true A) te (tC (.ref A)))) (bnd me fun d => lft (kdIn true dt d)) := by
  cases q.hX
  exact
  ⟨pt_cmpR (op_kni T) h.pe (pe_glob hg hm rfl hdb) hb, sim_kin T h.sim⟩

/-! ### t.index(x), texts -/
def dstrs : List D → Option (List Str)
  | [] => some []
  | .str x :: r => (dstrs r).map fun l => x :: l
  | _ => none
theorem dstrs_rp {K : PySem.W.Frag} {F : Hp} : ∀ {ds : List D} {vs : List V} {ys : List Str}, RpAll K F vs ds → dstrs ds = some ys → vs = ys.map V.str
  | [], _, _, r, h => by cases r; cases h; rfl
  | .str x :: ds, _, ys, r, h => by
    cases r with
    | cons r1 r2 =>
      cases r1
      unfold dstrs at h
      cases hs : dstrs ds with
      | none => rw [hs]
            at h; cases h
      | some l =>
        rw [hs] at h
        cases h
        rw [dstrs_rp r2 hs]
        rfl
  | .non :: _, _, _, _, h => by cases h
  | .bl _ :: _, _, _, _, h => by cases h
  | .int _ :: _, _, _, _, h => by cases h
  | .tup _ :: _, _, _, _, h => by cases h
  | .lst _ :: _, _, _, _, h => by cases h
  | .dct _ _ :: _, _, _, _, h => by cases h
  | .raw _ :: _, _, _, _, h => by cases h
  | .fn _ :: _, _, _, _, h => by cases h
  | .pr _ _ :: _, _, _, _, h => by cases h
  | .rol _ :: _, _, _, _, h => by cases h
def firstAt (z : Str) : List Str → Option Nat
  | [] => none
  | y :: ys => if y = z then some 0 else (firstAt z ys).map (· + 1)
theorem firstAt_some {z : Str} : ∀ {ys : List Str} {j : Nat}, firstAt z ys = some j → ys[j]? = some z ∧ ∀ m, m < j → ys[m]? ≠ some z
  | [], _, h => by cases h
  | y :: ys, j, h => by
    unfold firstAt at h
    split at h
    · rename_i e
      cases h
      exact ⟨by rw [e]; rfl, fun m hm => absurd hm (Nat.not_lt_zero m)⟩
    · rename_i e
      cases hj : firstAt z ys with
      | none => rw [hj] at h; cases h
      | some i =>
        rw [hj] at h
        cases h
        obtain ⟨h1, h2⟩ := firstAt_some hj
        refine ⟨h1, fun m hm => ?_⟩
        cases m with
        | zero => exact fun q => e (Option.some.inj q)
        | succ m => exact h2 m (Nat.lt_of_succ_lt_succ hm)
def tixD : D → List D → Option D
  | .tup ds, [.str z] => (dstrs ds).bind fun ys => (firstAt z ys).map fun j => .int (j : Nat)
  | _, _ => none
def mTM (f : D → List D → Option D) (mo : M D) (ms : M (List D)) : M D := bnd mo fun d => match d with
  | .tup _ => bnd ms fun ds => lft (f d ds)
  | _ => fun _ _ => none
def rTix (K : PySem.W.Frag) : V → List V → Hp → VK → Prop := fun x xs H Q => ∃ p, ∃ ys : List Str, ∃ z j, x = .ref p ∧ xs = [.str z] ∧ SqT K H p (ys.map V.str) ∧ ys[j]? = some z ∧ (∀ m, m < j → ys[m]? ≠ some z) ∧ Q (.int (j : Nat)) H
theorem mt_tix : MtR X "tuple.index" (rTix X.K) := mt_tup_index
theorem sim_tix {to : TE} {mo : M D} (ho : Sim B W (RV B) to mo) (hs : Sim B W (RA B) ts ms) : Sim B W (RV B) (tTM B.K (rTix B.K) to ts) (mTM tixD mo ms) := by
  intro ρ w res hres F σ H ok Q p
  unfold mTM bnd at hres
  cases hm : mo ρ w with
  | none => rw [hm] at hres; cases hres
  | some r1 =>
    rw [hm] at hres
    refine ho ρ w r1 hm F σ H ok _ ?_
    cases r1 with
    | exc z ρ1 w1 => cases hres; exact p
    | ok d ρ1 w1 =>
      intro v F1 H1 s1 ok1 rv
      dsimp only at hres
      cases d with
      | tup ds =>
        cases rv with
        | tup h1 r1 =>
          refine ⟨_, _, rfl, ok1.sub.sqP h1, ?_⟩
          dsimp only at hres
          cases hm2 : ms ρ1 w1 with
          | none => rw [hm2] at hres; cases hres
          | some r2 =>
            rw [hm2] at hres
            refine hs ρ1 w1 r2 hm2 F1 σ H1 ok1 _ ?_
            cases r2 with
            | exc z ρ2 w2 =>
              cases hres
              exact fun d F2 H2 s2 ok2 hx => p d F2 H2 (s1.trans s2) ok2 hx
            | ok es ρ2 w2 =>
              intro us F2 H2 s2 ok2 rus
              obtain ⟨zd, hz, e3⟩ := lft_some hres
              subst e3
              unfold tixD at hz
              split at hz
              · rename_i ds' z ed
                cases ed
                obtain ⟨u, e, ru⟩ := rus.one
                subst e
                cases ru
                cases hys : dstrs ds with
                | none => rw [hys] at hz; cases hz
                | some ys =>
                  rw [hys] at hz
                  have hz : (firstAt z ys).map (fun j => D.int (j : Nat)) = some zd := hz
                  cases hj : firstAt z ys with
                  | none => rw [hj] at hz; cases hz
                  | some j =>
                    rw [hj] at hz
                    cases hz
                    obtain ⟨g1, g2⟩ := firstAt_some hj
                    have ev := dstrs_rp r1 hys
                    subst ev
                    exact ⟨_, ys, z, j, rfl, rfl, ok2.sub.sqT (s2.sqT h1.sqT), g1, g2, p _ F2 H2 (s1.trans s2) ok2 (.int _)⟩
              · cases hz
      | _ => cases hres
theorem se_tix {o : Expr} {to : TE} {mo : M D} (q : Cq Kf X B W n) (ho : SE X B W o to mo) (ha : SA X B W [e] ts ms) (hbase : attributeBase o "index" X.env (eval o X.env) = eval o X.env := by rfl)
    (hfew : ((backTo pos (starEach [e] X.env)).all (fun x => !x.1) && (backToKw pos (keywordEach [] X.env)).all (fun x => x.1.isSome) && decide ([e].length + ([] : List Keyword).length + (if ([] : List Keyword).isEmpty then 0 else 1) < 30)) = true := by rfl)
    (hline : (apos.endLine == pos.line) = true := by rfl) (hs : starEach [e] X.env = (false, eval e X.env) :: starEach [] X.env := by rfl) (hpl : (backTo pos (starEach [] X.env)).any (·.1) = false := by rfl) : SE X B W (.Call (.Attribute o "index" apos) [e] [] pos) (tTM Kf (rTix Kf) to ts) (mTM tixD mo ms) := by
  cases q.hX
  exact ⟨pe_tm PySem.F.slot_tuple_index PySem.F.type_tuple_index mt_tix ho.pe ha.pa hbase hfew hline hs hpl, by rw [q.hK]; exact sim_tix ho.sim ha.sim⟩
/-! ### *xs in a display -/
def mStar (me : M D) (ms : M (List D)) : M (List D) := bnd me fun d => match d with
  | .tup xs => bnd ms fun ds => ret (xs ++ ds)
  | .lst xs => bnd ms fun ds => ret (xs ++ ds)
  | _ => fun _ _ => none
theorem sim_star (he : Sim B W (RV B) te me) (hs : Sim B W (RA B) ts ms) : Sim B W (RA B) (tStar B.K te ts) (mStar me ms) := by
  intro ρ w res hres F σ H ok Q p
  unfold mStar bnd at hres
  cases hm : me ρ w with
  | none => rw [hm] at hres; cases hres
  | some r1 =>
    rw [hm] at hres
    refine he ρ w r1 hm F σ H ok _ ?_
    cases r1 with
    | exc z ρ1 w1 => cases hres; exact p
    | ok d ρ1 w1 =>
      intro v F1 H1 s1 ok1 rv
      have go : ∀ xs vs, RpAll B.K F1 vs xs → bnd ms (fun ds => ret (xs ++ ds)) ρ1 w1 = some res → ts σ H1 fun ys H2 => Q (vs ++ ys) H2 := fun xs vs rx h => by
        unfold bnd at h
        cases hm2 : ms ρ1 w1 with
        | none => rw [hm2] at h; cases h
        | some r2 =>
          rw [hm2] at h
          refine hs ρ1 w1 r2 hm2 F1 σ H1 ok1 _ ?_
          cases r2 with
          | exc z ρ2 w2 =>
            cases h
            exact fun d F2 H2 s2 ok2 hx => p d F2 H2 (s1.trans s2) ok2 hx
          | ok ds ρ2 w2 =>
            cases h
            exact fun us F2 H2 s2 ok2 rus => p _ F2 H2 (s1.trans s2) ok2 ((rx.up s2).append rus)
      dsimp only at hres
      cases d with
      | tup xs =>
        cases rv with
        | tup h1 r1 => exact ⟨_, _, rfl, .inl (ok1.sub.sqP h1).sqT, go xs _ r1 hres⟩
      | lst xs =>
        cases rv with
        | lst h1 r1 => exact ⟨_, _, rfl, .inr (SqL.of (ok1.sub _ _ h1)), go xs _ r1 hres⟩
      | _ => cases hres
theorem sa_star (q : Cq Kf X B W n) (h : SE X B W e te me) (hs : SA X B W es ts ms) (hst : starEach (.Starred e p :: es) X.env = (true, eval e X.env) :: starEach es X.env := by rfl) : SA X B W (.Starred e p :: es) (tStar Kf te ts) (mStar me ms) := by
  cases q.hX
  exact ⟨pa_star h.pe hs.pa hst, by rw [q.hK]; exact sim_star h.sim hs.sim⟩
/-! ### a call of the def that a slot holds -/
def tCallV (P : Program) (w : World) (K : PySem.W.Frag) (mg : Str → Option Value) (base : Heap) (n i : Nat) (t : TA) : TE := fun σ H Q => ∃ (f : Addr) (fd : FuncData) (ps : List Str) (sp : Sp), σ[i]? = some (some (.ref f)) ∧
  (FnOk P w K mg base (L2.CX P w) n f fd ps sp ∧ PySem.W.keepIn K (.ref f) = true ∧ Binds K fd ps []) ∧ t σ H fun vs H1 => sp vs H1 Q (fun _ _ _ => False)
theorem pe_callV {t : TA} (hr : Room n X.A) (hN : X.N[i]? = some x) (hv : Vis X.env.scope x) (ha : PA X (e :: es) t) (hdb : (x == ("__debug__" : Str)) = false := by decide) (hcd : (x == ("__classdict__" : Str)) = false := by decide)
    (he : starEach (e :: es) X.env = (false, eval e X.env) :: starEach es X.env := by rfl) (hpl : (backTo pos (starEach es X.env)).any (·.1) = false := by rfl) : PE X (.Call (.Name x p) (e :: es) [] pos) (tCallV X.prog X.w X.K X.mg X.base n i t) := by
  constructor
  intro pins s σ H Q I h
  obtain ⟨f, fd, ps, sp, hs, ⟨F, hk, hb⟩, ht⟩ := h
  refine (pe_callL (i := i) (f := f) (sp := sp) (dvs := []) (E := fun _ _ _ => False) F hr hN hv hk hb .nil (fun _ _ _ _ _ _ _ z => by obtain ⟨_, _, _, _, _, _, _, _, _, _, _, _, z⟩ := z; exact z.elim) ha hdb hcd he hpl).run pins s σ H Q I ⟨hs, ?_⟩
  simpa using ht
/-- the defs that a slot may hold: their names, how many arguments, what they come to -/
abbrev Tb := List (Str × Nat × Fn1)
def kCallV (k : Nat) (g : Fn1) : List D → M D := fun ds ρ w =>
  if ds.length = k then match g ds w with
    | some (.ok d w') => some (.ok d ρ w')
    | _ => none
  else none
def mCallV (i : Nat) (tb : Tb) (ms : M (List D)) : M D := fun ρ w =>
  match ρ[i]? with
  | some (.val (.fn y)) => match tb.lookup y with
    | some (k, g) => bnd ms (kCallV k g) ρ w
    | none => none
  | _ => none
theorem sim_callV {tb : Tb} (q : Cq Kf X B W n) (hmg : ∀ y f, PySem.W.nsIn X.K mainGlobals y = some (some (.ref f)) → X.mg y = some (.ref f)) (T : ∀ y k g, tb.lookup y = some (k, g) → Fnc X.prog X.w X.K X.mg X.base n y k g) (hs : Sim B W (RA B) ts ms) :
    Sim B W (RV B) (tCallV X.prog X.w Kf X.mg X.base n i ts) (mCallV i tb ms) := by
  cases q.hX
  intro ρ w res hres F σ H ok Q p
  unfold mCallV at hres
  split at hres
  · rename_i y hy
    split at hres
    · rename_i k g hk
      obtain ⟨v, h1, h2⟩ := ok.val i _ hy
      cases h2 with
      | fn _ hn =>
        rename_i f
        obtain ⟨f', fd, ps, m1, m2, m3, m4⟩ := (T y k g hk).ex
        have e := hmg y f (by rw [q.hK]; exact hn)
        rw [m1] at e
        cases e
        refine ⟨f, fd, ps, _, h1, ⟨m4, m2, m3⟩, ?_⟩
        unfold bnd at hres
        cases hm : ms ρ w with
        | none => rw [hm] at hres; cases hres
        | some r1 =>
          rw [hm] at hres
          refine hs ρ w r1 hm F σ H ok _ ?_
          cases r1 with
          | exc z ρ1 w1 => cases hres; exact p
          | ok ds ρ1 w1 =>
            intro vs F1 H1 s1 ok1 rs
            dsimp only at hres
            unfold kCallV at hres
            split at hres
            · rename_i hl
              cases hg : g ds w1 with
              | none => rw [hg] at hres; cases hres
              | some r2 =>
                rw [hg] at hres
                rw [q.hK]
                refine ⟨F1, ds, w1, r2, by rw [rs.length]; exact hl, ok1.sub, ok1.wd, rs, hg, ?_⟩
                cases r2 with
                | ok d w' =>
                  cases hres
                  exact fun v F' H' s kw go rv => p v F' H' (s1.trans go.sub) (ok1.called s kw go) rv
                | exc x w' => cases hres
            · cases hres
    · cases hres
  · cases hres
theorem se_callV {tb : Tb} (q : Cq Kf X B W n) (hmg : ∀ y f, PySem.W.nsIn X.K mainGlobals y = some (some (.ref f)) → X.mg y = some (.ref f)) (T : ∀ y k g, tb.lookup y = some (k, g) → Fnc X.prog X.w X.K X.mg X.base n y k g) (hs : SA X B W (e :: es) ts ms) (hN : X.N[i]? = some x := by rfl)
    (hv : Vis X.env.scope x := by first | exact Or.inl rfl | exact Or.inr (Or.inl rfl) | exact Or.inr (Or.inr rfl)) (hdb : (x == ("__debug__" : Str)) = false := by decide) (hcd : (x == ("__classdict__" : Str)) = false := by decide)
    (he : starEach (e :: es) X.env = (false, eval e X.env) :: starEach es X.env := by rfl) (hpl : (backTo pos (starEach es X.env)).any (·.1) = false := by rfl) : SE X B W (.Call (.Name x p) (e :: es) [] pos) (tCallV X.prog X.w Kf X.mg X.base n i ts) (mCallV i tb ms) := by
  cases q.hX
  exact ⟨pe_callV q.hr hN hv hs.pa hdb hcd he hpl, sim_callV q hmg T hs.sim⟩
end
end DL
set_option Elab.async false
set_option linter.all false
set_option maxRecDepth 100000
set_option
      maxHeartbeats 4000000
/-! DLM: the drawing source opened, and drawn from. -/
namespace DL
open PySem PySem.Spec PyProof.Rows L2 RZ StX
theorem bnd_ok {α β : Type} {m : M α} {k : α → M β} {ρ ρ' : Rho} {w w' : Wo} {a : α} (h : m ρ w = some (.ok a ρ' w')) : bnd m k ρ w = k a ρ' w' := by
  unfold bnd
  rw [h]
theorem seq_nx {m k : M Fl} {ρ ρ' : Rho} {w w' : Wo} (h : m ρ w = some (.ok .nx ρ' w')) : mSeq m k ρ w = k ρ' w' := bnd_ok h
def absI (i : Int) : Int := if i < 0 then -i else i
def mixOf : List Int → Int → Int
  | [], m => m
  | c :: cs, m => mixOf cs ((m * 69069 + c * 31 + 5) % 2147483629)
/-- what the source is at first -/
def src0 (sa ca : Addr) (cells : List Int) : Src := ⟨sa, ca, (cells.map absI).reverse, 1, mixOf cells 11, 0⟩
def oIt : M (List D) := bnd (getS 0) fun d => lft (itemsD d)
def oM1 : M Fl := mSet 1 (ret (.int 11))
def oB2 : M Fl := mSet 1 (mBin modD (bnd (mCons (mBin addD (mBin addD (mBin mulD (getS 1) (ret (.int 69069))) (mBin mulD (getS 2) (ret (.int 31)))) (ret (.int 5))) mNil) fun ds => lft (int1D ds)) (ret (.int 2147483629)))
def oM2 : M Fl := mFor oIt (bName 2) oB2
def oE3 : M D := bnd (mCons (getS 2) mNil) fun ds => lft (absD ds)
def oM3 : M Fl := mSet 3 (mLc [2] oIt (bName 2) (ret true) oE3)
theorem oB2_run (r : Slot) (m c : Int) (d : Slot) (w : Wo) : oB2 [r, .val (.int m), .val (.int c), d] w = some (.ok .nx [r, .val (.int ((m * 69069 + c * 31 + 5) % 2147483629)), .val (.int c), d] w) := by
  have h1 : inB 69069 = true := by decide
  have h2 : inB 31 = true := by decide
  simp [oB2, mSet, mBin, bnd, mCons, mNil, getS, ret, lft, mulD, addD, modD, intD, int1D, setS, h1, h2]
theorem oM2_run (r d : Slot) (w : Wo) : ∀ (cs : List Int) (m : Int) (c : Slot), ∃ c', forL (bName 2) oB2 (cs.map D.int) [r, .val (.int m), c, d] w = some (.ok .nx [r, .val (.int (mixOf cs m)), c', d] w)
  | [], m, c => ⟨c, rfl⟩
  | x :: cs, m, c => by
    obtain ⟨c', h⟩ := oM2_run r d w cs ((m * 69069 + x * 31 + 5) % 2147483629) (.val (.int x))
    refine ⟨c', ?_⟩
    rw [List.map_cons]
    unfold forL
    show (match oB2 [r, .val (.int m), .val (.int x), d] w with
      | some (.ok .nx ρ1 w1) => forL (bName 2) oB2 (cs.map D.int) ρ1 w1
      | some (.ok .ct ρ1 w1) => forL (bName 2) oB2 (cs.map D.int) ρ1 w1
      | some (.ok .br ρ1 w1) => some (.ok .nx ρ1 w1)
      | some (.ok (.rt d') ρ1 w1) => some (.ok (.rt d') ρ1 w1)
      | some (.exc x ρ1 w1) => some (.exc x ρ1 w1)
      | none => none) = _
    rw [oB2_run]
    exact h
theorem oM3_run (r m : Slot) (w : Wo) : ∀ (cs : List Int) (c d : Slot), ∃ c', lcLoop [2] (bName 2) (ret true) oE3 (cs.map D.int) [r, m, c, d] w = some (cs.map fun x => D.int (absI x), [r, m, c', d], w)
  | [], c, d => ⟨c, rfl⟩
  | x :: cs, c, d => by
    obtain ⟨c', h⟩ := oM3_run r m w cs (.val (.int x)) d
    refine ⟨c', ?_⟩
    rw [List.map_cons,
          List.map_cons]
    unfold lcLoop
    show ((lcLoop [2] (bName 2) (ret true) oE3 (cs.map D.int) [r, m, .val (.int x), d] w).map fun z => (D.int (absI x) :: z.1, z.2)) = _
    rw [h]
    rfl
theorem open_run (cs : List Int) (w : Wo) (h : cs.length ≤ 100000) : (mSeq oM1 (mSeq oM2 oM3)) [.val (.rol (cs.map D.int)), .free, .free, .free] w = some (.ok .nx [.val (.rol (cs.map D.int)), .val (.int (mixOf cs 11)), .free, .val (.lst (cs.map fun x => D.int (absI x)))] w) := by
  obtain ⟨c1, h1⟩ := oM2_run (.val (.rol (cs.map D.int))) .free w cs 11 .free
  obtain ⟨c2, h2⟩ := oM3_run (.val (.rol (cs.map D.int))) (.val (.int (mixOf cs 11))) w cs c1 .free
  have e2 : oM2 [.val (.rol (cs.map D.int)), .val (.int 11), .free, .free] w = forL (bName 2) oB2 (cs.map D.int) [.val (.rol (cs.map D.int)), .val (.int 11), .free, .free] w := rfl
  have e3 : oM3 [.val (.rol (cs.map D.int)), .val (.int (mixOf cs 11)), c1, .free] w = some (.ok .nx [.val (.rol (cs.map D.int)), .val (.int (mixOf cs 11)), .free, .val (.lst (cs.map fun x => D.int (absI x)))] w) := by
    have e : (if (cs.map D.int).length ≤ 100000 then (match lcLoop [2] (bName 2) (ret true) oE3 (cs.map D.int) [.val (.rol (cs.map D.int)), .val (.int (mixOf cs 11)), c1, .free] w with
      | some (ys, ρ', w') => some (Rs.ok ys (wipeR ρ' [2]) w')
      | none => none) else none) = some (.ok (cs.map fun x => D.int (absI x)) [.val (.rol (cs.map D.int)), .val (.int (mixOf cs 11)), .free, .free] w) := by
      rw [if_pos (by rw [List.length_map]; exact h), h2]
      rfl
    have f : nLc [2] oIt (bName 2) (ret true) oE3 [.val (.rol (cs.map D.int)), .val (.int (mixOf cs 11)), c1, .free] w = some (.ok (cs.map fun x => D.int (absI x)) [.val (.rol (cs.map D.int)), .val (.int (mixOf cs 11)), .free, .free] w) := e
    unfold oM3 mSet mLc
    unfold bnd
    rw [f]
    rfl
  have e1 : oM1 [.val (.rol (cs.map D.int)), .free, .free, .free] w = some (.ok .nx [.val (.rol (cs.map D.int)), .val (.int 11), .free, .free] w) := rfl
  rw [seq_nx e1, seq_nx (e2.trans h1)]
  exact e3
/-- what the opening promises -/
def spOpen (K : PySem.W.Frag) : Sp := fun vs H Q _ => ∃ (a : Addr) (cells : List Int), vs = [.ref a] ∧ SqL K H a (cells.map V.int) ∧ cells.length ≤ 100000 ∧
  ∀ H' sa ca, (∀ b o, H b = some o → H' b = some o) → H sa = none → H ca = none → sa ≠ ca → H' sa = some (.dK (srcK (src0 sa ca cells))) → H' ca = some (.lst ((src0 sa ca cells).cells.map V.int)) → Q (.ref sa) H'
def oTr (K : PySem.W.Frag) : List (TE × TE) := [(tC (.str "cells"), tRevL K (tVar 3)), (tC (.str "left"), tC (.int 1)), (tC (.str "mixed"), tVar 1), (tC (.str "turn"), tC (.int 0))]
theorem merge_src (a : V) (m : Int) : mergeK [] ([(.inr "cells", a), (.inr "left", .int 1), (.inr "mixed", .int m), (.inr "turn", .int 0)] : List (Key × V)) = ([(.inr "cells", a), (.inr "left", .int 1), (.inr "mixed", .int m), (.inr "turn", .int 0)] : List (Key × V)) := by
  have h1 : ¬ ((Sum.inr "cells" : Key) = .inr "left") := by decide +kernel
  have h2 : ¬ ((Sum.inr "cells" : Key) = .inr "mixed") := by decide +kernel
  have h3 : ¬ ((Sum.inr "cells" : Key) = .inr "turn") := by decide +kernel
  have h4 : ¬ ((Sum.inr "left" : Key) = .inr "mixed") := by decide +kernel
  have h5 : ¬ ((Sum.inr "left" : Key) = .inr "turn") := by decide +kernel
  have h6 : ¬ ((Sum.inr "mixed" : Key) = .inr "turn") := by decide +kernel
  unfold mergeK
  simp only [List.foldl_cons, List.foldl_nil, L2.putK, List.any_nil, List.any_cons, decide_eq_false h1, decide_eq_false h2, decide_eq_false h3, decide_eq_false h4, decide_eq_false h5, decide_eq_false h6, Bool.false_or, Bool.or_false, Bool.or_self, Bool.false_eq_true, if_false, List.nil_append, List.cons_append]
section
variable {P : Program} {wd : World} {K : PySem.W.Frag} {mg : Str → Option Value} {base : Heap}
theorem map_abs {F : Hp} {vs : List V} : ∀ {cs : List Int} {vs : List V}, RpAll K F vs (cs.map fun x => D.int (absI x)) → vs = (cs.map absI).map V.int
  | [], _, h => by cases h; rfl
  | c :: cs, _, h => by
    cases h with
    | cons h1 h2 =>
      cases h1
      rw [map_abs (vs := vs) h2]
      rfl
theorem rp_ints {F : Hp} : ∀ cs : List Int, RpAll K F (cs.map V.int) (cs.map D.int)
  | [] => .nil
  | c :: cs => .cons (.int c) (rp_ints cs)
theorem open_ok {x qual : Str} {st s1 s2 s3 s4 : Stmt} {f : Addr} {fd : FuncData} {N : List Str} {n : Nat} (F : Fun K x qual st f fd) (S : FnScope N ["_law_script"] (defScope st)) (hN : N.length = 4) (hb : defBody st = [s1, s2, s3, s4])
    (body : ∀ (cdv : Value) (A : Around) (outer : List Env) (s : Shared) (H : Hp) (E : XK) (B : Bs), Body K (cxOf (L2.CX P wd) P wd K mg base N qual (defScope st) f cdv A outer s H E) B (fun cls d _ H => E cls d H) n →
      (∃ t1, SS (cxOf (L2.CX P wd) P wd K mg base N qual (defScope st) f cdv A outer s H E) B (fun cls d _ H => E cls d H) s1 t1 oM1) ∧ (∃ t2, SS (cxOf (L2.CX P wd) P wd K mg base N qual (defScope st) f cdv A outer s H E) B (fun cls d _ H => E cls d H) s2 t2 oM2) ∧
      (∃ t3, SS (cxOf (L2.CX P wd) P wd K mg base N qual (defScope st) f cdv A outer s H E) B (fun cls d _ H => E cls d H) s3 t3 oM3) ∧ PS (cxOf (L2.CX P wd) P wd K mg base N qual (defScope st) f cdv A outer s H E) s4 (tRet (tDisp (oTr K)))) :
    FnOk P wd K mg base (L2.CX P wd) (n + 1) f fd ["_law_script"] (spOpen K) := by
  refine F.okX S (fun vs H Q E h => ?_) (fun cdv A outer s H vs Q E hr h => ?_)
  · obtain ⟨a, cells, h, _⟩ := h
    rw [h]
    rfl
  · obtain ⟨a, cells, ev, hs, hl, q⟩ := h
    subst ev
    -- the frozen part: the script
    let F0 : Hp := fun b => if b = a then H b else none
    have sub0 : Sub F0 H := fun b o e => by
      have e : (if b = a then H b else none) = some o := e
      split at e
      · exact e
      · cases e
    have hs0 : SqL K F0 a (cells.map V.int) := by
      rcases hs with (hs | ⟨o, hs⟩) | hs
      · exact .inl (.inl (by show (if a = a then H a else none) = _; rw [if_pos rfl]; exact hs))
      · exact .inl (.inr ⟨o, by show (if a = a then H a else none) = _; rw [if_pos rfl]; exact hs⟩)
      · exact .inr hs
    obtain ⟨⟨t1, g1⟩, ⟨t2, g2⟩, ⟨t3, g3⟩, g4⟩ := body cdv A outer s H E ⟨K, H, F0, none⟩ ⟨⟨rfl, rfl, takes_of rfl rfl rfl rfl, hr, rfl, S.nd⟩, passes_of rfl⟩
    refine ⟨tSeq t1 (tSeq t2 (tSeq t3 (tRet (tDisp (oTr K))))), by rw [hb]; exact pss_cons g1.ps (pss_cons g2.ps (pss_cons g3.ps (pss_one g4))), ?_⟩
    have r0 : RpAll K F0 [V.ref a] [D.rol (cells.map D.int)] := .cons (.rol hs0 (rp_ints cells)) .nil
    have ok0 : Ok ⟨K, H, F0, none⟩ F0 ([D.rol (cells.map D.int)].map .val ++ List.replicate (N.length - [D.rol (cells.map D.int)].length) .free) none (L2.start N [V.ref a]) H := ok_start sub0 trivial r0 (by rw [hN]; show 1 ≤ 4; decide)
    rw [hN] at ok0
    have run := open_run cells none hl
    -- the three statements, then the display
    have G := (sb_cons g1 (sb_cons g2 (sb_one g3))).sim _ none _ run F0 _ H ok0 { nx := fun σ H1 => tRet (tDisp (oTr K)) { nx := fun _ H' => Q .non H', rt := Q } σ H1, rt := Q } (fun F1 σ1 H1 s1 ok1 => ?_)
    · have conv : ∀ (u k : TS) σ H, tSeq t1 (tSeq t2 u) { nx := fun σ H1 => k { nx := fun _ H' => Q .non H', rt := Q } σ H1, rt := Q } σ H = tSeq t1 (tSeq t2 (tSeq u k)) { nx := fun _ H' => Q .non H', rt := Q } σ H := fun u k σ H => rfl
      rw [conv] at G
      exact G
    · obtain ⟨v1, e1, r1⟩ := ok1.val 1 _ rfl
      cases r1
      obtain ⟨v3, e3, r3⟩ := ok1.val 3 _ rfl
      cases r3 with
      | lst h3 r3 =>
        rename_i b ws
        have ew := map_abs (vs := ws) r3
        subst ew
        intro sa hsa
        have n0 : H sa = none := (ok1.fresh hsa).1
        have hb1 : H1 b = some (.lst ((cells.map absI).map V.int)) := ok1.sub _ _ h3
        refine ⟨.ref b, e3, b, _, rfl, SqL.of (by rw [upd_ne (ne_of_none hb1 hsa)]; exact hb1), fun ca hca => ?_⟩
        have nsc : sa ≠ ca := fun z => by
          rw [z, upd_same] at hca
          cases hca
        rw [upd_ne nsc.symm] at hca
        refine ⟨.int (mixOf cells 11), e1, by rw [upd_ne nsc, upd_same], [(.inr "cells", .ref ca), (.inr "left", .int 1), (.inr "mixed", .int (mixOf cells 11)), (.inr "turn", .int 0)], rfl, by show 4 ≤ 15; decide, ?_⟩
        rw [merge_src]
        have keep : ∀ b o, H b = some o → H1 b = some o := fun b o e => ok1.go.keep b o e (by intro z; cases z)
        have c0 : H ca = none := (ok1.fresh hca).1
        refine q _ sa ca (fun b o e => ?_) n0 c0 nsc upd_same ?_
        · have nb1 : b ≠ sa := fun z => by rw [z, n0] at e; cases e
          have nb2 : b ≠ ca := fun z => by rw [z, c0] at e; cases e
          rw [upd_ne nb1, upd_ne nb2, upd_ne nb1]
          exact keep b o e
        · rw [upd_ne nsc.symm, upd_same]
          show _ = some (HO.lst (((cells.map absI).reverse).map V.int))
          rw [List.map_reverse]
end
end DL
set_option Elab.async false
set_option linter.all false
set_option maxRecDepth 100000
set_option
      maxHeartbeats 4000000
/-! DLN: -x, xs[::-1], list(range(..)), the law's own frame. -/
namespace DL
open PySem PySem.Spec PyProof.Rows L2 RZ StX
section
variable {X : Cx} {Kf : PySem.W.Frag} {B : Bs} {W : WX} {n : Nat} {a b c e : Expr} {es : List Expr} {ta tb tc te : TE} {ma mb mc me : M D} {pos p p2 p3 apos : Pos} {ts : TA} {ms : M (List D)} {x k : Str} {i : Nat}
theorem se_globQ {v : V} {u : Value} {d : D} (q : Cq Kf X B W n) (hg : Gl X x) (hm : X.mg x = some u) (r : RelV v u) (h : ∀ F, Rp Kf F v d) (hdb : (x == ("__debug__" : Str)) = false := by decide) : SE X B W (.Name x pos) (tC v) (ret d) :=
  ⟨pe_glob hg hm r hdb, sim_c fun F => by
    have g := h F
    rw [q.hK] at g
    exact g⟩
def mNeg (m : M D) : M D := bnd m (kInt fun i => ret (.int (-i)))
theorem se_neg (h : SE X B W e te me) : SE X B W (.UnaryOp .USub e pos) (tUn (rU fun i => .int (-i)) te) (mNeg me) :=
  ⟨pe_un un_neg h.pe, Sim.bnd (R' := RV B) (k := kInt fun i => ret (.int (-i))) (tk := fun v σ H Q => rU (fun i => .int (-i)) v H Q) h.sim fun d ρ w r hr v F σ H ok rv Q p => by
    obtain ⟨i, e1, hr2⟩ := kInt_some hr
    clear hr
    subst e1
    cases rv
    cases hr2
    exact ⟨i, rfl, p _ F H (Sub.refl F) ok (.int _)⟩⟩
def revD : D → Option D
  | .lst xs => some (.lst xs.reverse)
  | _ => none
def mRev (m : M D) : M D := bnd m fun d => lft (revD d)
theorem se_revL {j : Nat} {q1 q2 q3 : Pos} (q : Cq Kf X B W n) (h : SE X B W e te me) : SE X B W (.Subscript e (.Slice none none (some (.UnaryOp .USub (.Constant (.int 1) j q1) q2)) q3) pos) (tRevL Kf te) (mRev me) := by
  cases q.hX
  exact ⟨pe_revL h.pe, by
    rw [q.hK]
    exact Sim.bnd (R' := RV B) (k := fun d => lft (revD d)) (tk := fun x σ H Q => ∃ a xs, x = V.ref a ∧ SqL B.K H a xs ∧ ∀ p, H p = none → Q (.ref p) (upd H p (.lst xs.reverse))) h.sim fun d ρ w r hr v F σ H ok rv Q p => by
      obtain ⟨z, hz, e1⟩ := lft_some hr
      subst e1
      unfold revD at hz
      split at hz
      · cases hz
        cases rv with
        | lst h1 r1 =>
          refine ⟨_, _, rfl, SqL.of (ok.sub _ _ h1), fun l hl => ?_⟩
          obtain ⟨s, ok'⟩ := ok.laid hl (.lst _)
          exact p _ _ _ s ok' (.lst upd_same (r1.reverse.up s))
      · cases hz⟩
theorem rp_rg {K : PySem.W.Frag} {F : Hp} (lo : Int) : ∀ n : List Nat, RpAll K F (n.map fun i => V.int (lo + (i : Nat))) (n.map fun i => D.int (lo + (i : Nat)))
  | [] => .nil
  | _ :: r => .cons (.int _) (rp_rg lo r)
def kLr (lo hi : Int) : M (List D) := if -100000 ≤ lo ∧ lo ≤ 100000 ∧ -100000 ≤ hi ∧ hi ≤ 100000 then ret (rgs lo (hi - lo).toNat) else fun _ _ => none
theorem kLr_some {lo hi : Int} {ρ : Rho} {w : Wo} {r : Rs (List D)} (h : kLr lo hi ρ w = some r) : r = .ok (rgs lo (hi - lo).toNat) ρ w ∧ RgOk lo hi := by
  unfold kLr at h
  split at h
  · rename_i b
    cases h
    exact ⟨rfl, by unfold RgOk; omega⟩
  · cases h
def nLr1 (m : M D) : M (List D) := bnd m (kInt fun hi => kLr 0 hi)
def nLr2 (ma mb : M D) : M (List D) := bnd ma fun d => bnd mb (kInt fun hi => kInt (fun lo => kLr lo hi) d)
def mLRange1 (m : M D) : M D := bnd (nLr1 m) fun ds => ret (.lst ds)
theorem simN_rg {lo hi : Int} {ρ : Rho} {w : Wo} {r : Rs (List D)} (h : kLr lo hi ρ w = some r) {F : Hp} {σ : L2.St} {H : Hp} (ok : Ok B F ρ w σ H) {Q : VK} (p : PostN B W r F σ Q) : RgOk lo hi ∧ ∀ q, H q = none → Q (.ref q) (upd H q (.lst (rgV lo hi))) := by
  obtain ⟨e, hb⟩ := kLr_some h
  subst e
  refine ⟨hb, fun q hq => ?_⟩
  obtain ⟨ok', nw⟩ := ok.newL hq (vs := rgV lo hi) (ds := rgs lo (hi - lo).toNat) (rp_rg lo _)
  exact p q F _ (Sub.refl F) ok' nw
theorem sn_lrange1 (q : Cq Kf X B W n) (hg2 : Gl X "list") (hm2 : X.mg "list" = none) (hg : Gl X "range") (hm : X.mg "range" = none) (ha : SE X B W a ta ma) (na : starEach [a] X.env = (false, eval a X.env) :: starEach [] X.env := by rfl)
    (nb : starEach [.Call (.Name "range" p2) [a] [] p3] X.env = (false, eval (.Call (.Name "range" p2) [a] [] p3) X.env) :: starEach [] X.env := by rfl) : SN X B W (.Call (.Name "list" p) [.Call (.Name "range" p2) [a] [] p3] [] pos) (tLstRg (tRg1 ta)) (nLr1 ma) := by
  cases q.hX
  exact ⟨pe_listRg q.calm hg2 hm2 (prg_1 hg hm ha.pe na) nb, SimN.of (k := kInt fun hi => kLr 0 hi) (tk := fun x σ H Q => ∃ n, x = V.int n ∧ RgOk 0 n ∧ ∀ q, H q = none → Q (.ref q) (upd H q (.lst (rgV 0 n)))) ha.sim fun d ρ w r hr v F σ H ok rv Q p => by
    obtain ⟨i, e1, hr2⟩ := kInt_some hr
    clear hr
    subst e1
    cases rv
    exact ⟨i, rfl, simN_rg hr2 ok p⟩⟩
theorem se_lrange1 (q : Cq Kf X B W n) (hg2 : Gl X "list") (hm2 : X.mg "list" = none) (hg : Gl X "range") (hm : X.mg "range" = none) (ha : SE X B W a ta ma) (na : starEach [a] X.env = (false, eval a X.env) :: starEach [] X.env := by rfl)
    (nb : starEach [.Call (.Name "range" p2) [a] [] p3] X.env = (false, eval (.Call (.Name "range" p2) [a] [] p3) X.env) :: starEach [] X.env := by rfl) : SE X B W (.Call (.Name "list" p) [.Call (.Name "range" p2) [a] [] p3] [] pos) (tLstRg (tRg1 ta)) (mLRange1 ma) := by
  cases q.hX
  exact ⟨(sn_lrange1 (p := p) (pos := pos) q hg2 hm2 hg hm ha na nb).pe, (sn_lrange1 (p := p) (p2 := p2) (p3 := p3) (pos := pos) q hg2 hm2 hg hm ha na nb).sim.val⟩
end

/-! ### the law's own frame: the source is opened, then the rest runs -/
/-- the law tells True of every script of at most 63 ints -/
def spLaw (K : PySem.W.Frag) : Sp := fun vs H Q _ => ∃ (a : Addr) (ns : List Int),
      vs = [.ref a] ∧ SqL K H a (ns.map V.int) ∧ ns.length ≤ 63 ∧ ∀ H', Q (.bl true) H'
section
variable {P : Program} {wd : World} {K : PySem.W.Frag} {mg : Str → Option Value} {base : Heap}
/-- what the rest has to do: from any opened source it returns True -/
def Told (nn i : Nat) (m : M Fl) : Prop := ∀ sa ca cells, sa ≠ ca → cells.length ≤ 63 → ∃ ρ w, m ((List.replicate nn Slot.free).set i (.val (.raw (.ref sa)))) (some (src0 sa ca cells)) = some (.ok (.rt (.bl true)) ρ w)
theorem law_ok {st s1 : Stmt} {rest : List Stmt} {f fo : Addr} {fd fdo : FuncData} {N : List Str} {n i : Nat} {m : M Fl} {y : Str} {p1 p2 p3 p4 p5 : Pos} (F : Fun K "law" "law" st f fd) (S : FnScope N ["_law_script"] (defScope st)) (Fo : FnOk P wd K mg base (L2.CX P wd) n fo fdo ["_law_script"] (spOpen K))
    (mo : mg "_law_open_cells" = some (.ref fo)) (ko : PySem.W.keepIn K (.ref fo) = true) (bo : Binds K fdo ["_law_script"] []) (hb : defBody st = s1 :: rest) (h1 : s1 = .Assign [.Name y p1] (.Call (.Name "_law_open_cells" p2) [.Name "_law_script" p3] [] p4) p5) (hi : 0 < i) (hil : i < N.length)
    (head : ∀ (cdv : Value) (A : Around) (outer : List Env) (s : Shared) (H : Hp) (E : XK), Room n (cxOf (L2.CX P wd) P wd K mg base N "law" (defScope st) f cdv A outer s H E).A →
      PS (cxOf (L2.CX P wd) P wd K mg base N "law" (defScope st) f cdv A outer s H E) s1 (tAsg (tCallS (spOpen K) (fun _ => E) (tCons (tVar 0) tNil)) (gName i)))
    (body : ∀ (cdv : Value) (A : Around) (outer : List Env) (s : Shared) (H : Hp) (E : XK), ∃ t, ∀ B : Bs, Body K (cxOf (L2.CX P wd) P wd K mg base N "law" (defScope st) f cdv A outer s H E) B (fun cls d _ H => E cls d H) n →
      SB (cxOf (L2.CX P wd) P wd K mg base N "law" (defScope st) f cdv A outer s H E) B (fun cls d _ H => E cls d H) rest t m)
    (T : Told N.length i m) : FnOk P wd K mg base (L2.CX P wd) (n + 1) f fd ["_law_script"] (spLaw K) := by
  refine F.okX S (fun vs H Q E h => ?_) (fun cdv A outer s H vs Q E hr h => ?_)
  · obtain ⟨a, ns, h, _⟩ := h
    rw [h]
    rfl
  · obtain ⟨a, ns, ev, hs, hl, hq⟩ := h
    subst ev
    obtain ⟨t, hbd⟩ := body cdv A outer s H E
    have hbd := fun B (hBK : B.K = K) => hbd B ⟨⟨rfl, (show K = B.K from hBK.symm), takes_of rfl rfl rfl rfl, hr, rfl, S.nd⟩, passes_of rfl⟩
    have hps := (hbd ⟨K, H, fun _ => none, none⟩ rfl).pss
    refine ⟨tSeq (tAsg (tCallS (spOpen K) (fun _ => E) (tCons (tVar 0) tNil)) (gName i)) t, by rw [hb]; exact pss_cons (head cdv A outer s H E hr) hps, ?_⟩
    refine ⟨.ref a, rfl, a, ns, rfl, hs, by omega, fun H' sa ca keep n1 n2 nsc hsa hca => ?_⟩
    obtain ⟨ρ1, w1, hrun⟩ := T sa ca ns nsc hl
    have ls : (L2.start N [V.ref a]).length = N.length := by
      unfold L2.start
      simp only [List.length_append, List.length_map, List.length_replicate, List.length_singleton]
      omega
    have fr : ∀ (j : Nat) (sl : Slot), ((List.replicate N.length Slot.free).set i (.val (.raw (.ref sa))))[j]? = some sl → sl = .free ∨ (i = j ∧ sl = .val (.raw (.ref sa))) := fun j sl e => by
      by_cases hj : i = j
      · subst hj
        rw [List.getElem?_set_self (by rw [List.length_replicate]; exact hil)] at e
        exact .inr ⟨rfl, (Option.some.inj e).symm⟩
      · rw [List.getElem?_set_ne hj, List.getElem?_replicate] at e
        split at e
        · exact .inl (Option.some.inj e).symm
        · cases e
    have ok0 : Ok ⟨K, H', fun _ => none, some (src0 sa ca ns)⟩ (fun _ => none) ((List.replicate N.length Slot.free).set i (.val (.raw (.ref sa)))) (some (src0 sa ca ns)) ((L2.start N [V.ref a]).set i (some (.ref sa))) H' := by
      refine ⟨fun b o e => (by cases e), Goes.refl _ _ _, ⟨rfl, rfl, nsc, hsa, hca⟩, by rw [List.length_set, List.length_set, List.length_replicate, ls], fun j d e => ?_, fun j ds e => ?_, fun j l b dj dl e => ?_⟩
      · rcases fr j _ e with z | ⟨hj, z⟩
        · cases z
        · cases z
          subst hj
          exact ⟨.ref sa, List.getElem?_set_self (by rw [ls]; exact hil), .raw _⟩
      · rcases fr j _ e with z | ⟨_, z⟩ <;> cases z
      · rcases fr j _ e with z | ⟨_, z⟩ <;> cases z
    exact (hbd ⟨K, H', fun _ => none, some (src0 sa ca ns)⟩ rfl).sim _ _ _ hrun _ _ _ ok0 _ fun v F2 σ2 H2 _ _ rv => by
      cases rv
      exact hq H2
end

/-! ### what the top has left -/
/-- a def of the top -/
structure Df (K : PySem.W.Frag) (mg : Str → Option Value) (x : Str) (st : Stmt) (ps : List Str) : Prop where
  ex : ∃ (f : Addr) (fd : FuncData), Fun K x x st f fd ∧ mg x = some (.ref f) ∧ Binds K fd ps []
theorem df_mk {K : PySem.W.Frag} {h : Heap} {mg : Str → Option Value} {x : Str} {st : Stmt} {ps : List Str} {f : Addr} {oc : Value} {od an : Option Addr} {osl : Array (Option Value)} {kV dc pm cd ct : Value} (X : K.In h) (G : h.Ns mainGlobals mg)
    (a : PySem.W.nsIn K mainGlobals x = some (some (.ref f))) (l : K.lookup f = some ⟨oc, od, .func (PySem.W.fnOf x x (defArgs st) (defBody st) (defScope st) .none kV dc pm an cd ct), osl⟩) (c : PySem.W.codeIn K cd x = true) (k : PySem.W.keepIn K (.ref f) = true)
    (hb : ∀ F : Fun K x x st f (PySem.W.fnOf x x (defArgs st) (defBody st) (defScope st) .none kV dc pm an cd ct), Binds K (PySem.W.fnOf x x (defArgs st) (defBody st) (defScope st) .none kV dc pm an cd ct) ps []) : Df K mg x st ps :=
  ⟨f, _, fun_mk l c k, PySem.W.mg_of X G a, hb (fun_mk l c k)⟩
theorem z_of {P : Program} {wd : World} {K : PySem.W.Frag} {mg : Str → Option Value} {base : Heap} {x : Str} {st : Stmt} {ps : List Str} (D : Df K mg x st ps) : Fnc P wd K mg base 0 x ps.length (fun _ _ => none) := by
  obtain ⟨f, fd, F, hm, hb⟩ := D.ex
  exact fnc_zero F hm hb
/-- a written constant's value is these data -/
def CRp (K : PySem.W.Frag) (u : Value) (d : D) : Prop := ∃ v, RelV v u ∧ ∀ F, Rp K F v d
inductive CRpAll (K : PySem.W.Frag) : List Value → List D → Prop
  | nil : CRpAll K [] []
  | cons {u : Value} {us : List Value} {d : D} {ds : List D} : CRp K u d → CRpAll K us ds → CRpAll K (u :: us) (d :: ds)
section
variable {K : PySem.W.Frag}
theorem crp_str {x : Str} {t : Tok} (h : PyData.strOk x = true := by decide +kernel) : CRp K (.str x t) (.str x) := ⟨.str x, ⟨t, rfl⟩, fun _ => .str x h⟩
theorem crp_int {i : Int} {t : Tok} : CRp K (.int i t) (.int i) := ⟨.int i, ⟨t, rfl⟩, fun _ => .int i⟩
theorem crp_bl {b : Bool} : CRp K (.bool b) (.bl b) := ⟨.bl b, rfl, fun _ => .bl b⟩
theorem crp_non : CRp K .none .non := ⟨.non, rfl, fun _ => .non⟩
theorem crp_fn {x : Str} {a : Addr} (h : PySem.W.nsIn K mainGlobals x = some (some (.ref a))) : CRp K (.ref a) (.fn x) := ⟨.ref a, rfl, fun _ => .fn x h⟩
theorem CRpAll.vals {us : List Value} {ds : List D} (h : CRpAll K us ds) : ∃ vs, Vals vs us ∧ ∀ F, RpAll K F vs ds := by
  induction h with
  | nil => exact ⟨[], .nil, fun _ => .nil⟩
  | cons h _ ih =>
    obtain ⟨v, h1, h2⟩ := h
    obtain ⟨vs, g1, g2⟩ := ih
    exact ⟨v :: vs, .cons h1 g1, fun F => .cons (h2 F) (g2 F)⟩
theorem crp_tup {a : Addr} {its : Array Value} {n : Nat} {ds : List D} (l : K.lookup a = some ⟨.type "tuple", none, .seq its n, #[]⟩) (hs : its.size ≤ sizeLine) (h : CRpAll K its.toList ds) : CRp K (.ref a) (.tup ds) := by
  obtain ⟨vs, g1, g2⟩ := h.vals
  exact ⟨.ref a, rfl, fun F => .tup (.inr ⟨_, its, n, l, ⟨rfl, rfl, rfl⟩, rfl, hs, g1⟩) (g2 F)⟩
theorem crp_rol {a : Addr} {its : Array Value} {n : Nat} {ds : List D} (l : K.lookup a = some ⟨.type "list", none, .seq its n, #[]⟩) (hs : its.size ≤ sizeLine) (h : CRpAll K its.toList ds) : CRp K (.ref a) (.rol ds) := by
  obtain ⟨vs, g1, g2⟩ := h.vals
  exact ⟨.ref a, rfl, fun F => .rol (.inr ⟨_, its, n, l, rfl, rfl, rfl, hs, g1⟩) (g2 F)⟩
theorem cg_mk {h : Heap} {mg : Str → Option Value} {x : Str} {u : Value} {d : D} (X : K.In h) (G : h.Ns mainGlobals mg) (a : PySem.W.nsIn K mainGlobals x = some (some u)) (r : CRp K u d) : ∃ v u, mg x = some u ∧ RelV v u ∧ ∀ F, Rp K F v d := by
  obtain ⟨v, h1, h2⟩ := r
  exact ⟨v, u, PySem.W.mg_of X G a, h1, h2⟩
/-- a written dict, entry by entry -/
inductive KDs (K : PySem.W.Frag) (A : Addr) : List (Str × Option D) → Prop
  | nil : KDs K A []
  | on {z : Str} {u : Value} {d : D} {r : List (Str × Option D)} : PySem.W.nsIn K A z = some (some u) → CRp K u d → KDs K A r → KDs K A ((z, some d) :: r)
  | off {z : Str} {r : List (Str × Option D)} : PySem.W.nsIn K A z = some none → KDs K A r → KDs K A ((z, none) :: r)
theorem KDs.at' {A : Addr} {tb : List (Str × Option D)} (h : KDs K A tb) : ∀ z o, tb.lookup z = some o → match o with
    | some d => ∃ u v, PySem.W.nsIn K A z = some (some u) ∧ RelV v u ∧ ∀ F, Rp K F v d
    | none => PySem.W.nsIn K A z = some none := by
  induction h with
  | nil => exact fun z o e => by cases e
  | on g r _ ih =>
    intro z o e
    unfold List.lookup at e
    split at e
    · rename_i q
      cases e
      cases (beq_iff_eq.mp q)
      obtain ⟨v, h1, h2⟩ := r
      exact ⟨_, v, g, h1, h2⟩
    · exact ih z o e
  | off g _ ih =>
    intro z o e
    unfold List.lookup at e
    split at e
    · rename_i q
      cases e
      cases (beq_iff_eq.mp q)
      exact g
    · exact ih z o e
theorem kd_mk {h : Heap} {mg : Str → Option Value} {w : World} {x : Str} {A : Addr} {es : Array DictEntry} {n : Nat} {tb : List (Str × Option D)} (X : K.In h) (G : h.Ns mainGlobals mg) (a : PySem.W.nsIn K mainGlobals x = some (some (.ref A)))
    (l : K.lookup A = some ⟨.type "dict", none, .dict es n, #[]⟩) (k : PySem.W.KeysLit w.params es.toList) (low : (A == sysModules) = false) (t : KDs K A tb) : ∃ A, mg x = some (.ref A) ∧ KD K w A tb :=
  ⟨A, PySem.W.mg_of X G a, ⟨es, n, l, k, low⟩, t.at'⟩
end
theorem tb_all {Pr : Str → Nat → Fn1 → Prop} : ∀ {tb : Tb}, (∀ e ∈ tb, Pr e.1 e.2.1 e.2.2) → ∀ y k g, tb.lookup y = some (k, g) → Pr y k g
  | [], _, _, _, _,
        h => by cases h
  | (z, v) :: r, ha, y, k, g, h => by
    unfold List.lookup at h
    split at h
    · rename_i e
      have e : y = z := by simpa using e
      cases h
      subst e
      exact ha _ List.mem_cons_self
    · exact tb_all (fun e he => ha e (List.mem_cons_of_mem _ he)) y k g h
end DL
set_option Elab.async false
set_option linter.all false
set_option maxRecDepth 100000
set_option maxHeartbeats 4000001
/-! DLZ0: list(zip(t, u)) of two tuples. -/
namespace DL
open PySem PySem.Calls
      PyProof.Rows PySem.Spec
open PySem.W
section
variable {prog : Program}
      {w : World} {A : Around} {E : Value → Shared → Prop} {s : Shared}
/-- the pair that was given out last is still held -/
structure ZH (h : Heap) (z TI TO T i1 i2 : Addr) (l1 l2 : Addr) (k : Nat) (f : Bool) : Prop where
  z : IsZipHeld h z TI TO T f
  t : ∃ o, h.get? T = some o
  p : IsPair h TI (.ref i1) (.ref i2)
  a : h.IsTupleIter i1 l1 k
  b : h.IsTupleIter i2 l2 k
theorem zh_next {z TI TO T i1 i2 l1 l2 : Addr} {f : Bool} {k : Nat} {xs ys : Array Value} {x y : Value} {Q : Option Value → Shared → Prop} (D : ZipApart z TI TO i1 i2 l1 l2) (st : ZH s.heap z TI TO T i1 i2 l1 l2 k f) (nT : T ≠ z ∧ T ≠ i1 ∧ T ≠ i2)
    (hl1 : s.heap.IsTuple l1 xs) (hl2 : s.heap.IsTuple l2 ys) (hx : xs[k]? = some x) (hy : ys[k]? = some y)
    (hQ : ∀ h', ZH h' z TI TO T i1 i2 l1 l2 (k + 1) true → h'.get? s.heap.objs.size = some { cls := .type "tuple", data := .seq #[x, y] } → h'.objs.size = s.heap.objs.size + 1 →
      (∀ c o, c ≠ z → c ≠ i1 → c ≠ i2 → s.heap.get? c = some o → h'.get? c = some o) → Q (some (.ref s.heap.objs.size)) { s with heap := h' }) : wpAny (model prog w) A (pyNext (.ref z)) Q E s := by
  obtain ⟨hz, ⟨oT, hT⟩, hTI, h1, h2⟩ := st
  have ty : s.TypeIs (.ref z) "zip" := ⟨_, hz, rfl⟩
  unfold pyNext
  refine wpAny_bind (wpAny_attempt (wpAny_callSpecial?_slot (name := Str.ofString "__next__") ty
    F.slot_zip_next (wpAny_call_entry F.slot_zip_next ty F.entry_zip_next ?_ (F.args_zip_next_1 _))))
  show wpAny _ _ (field (.ref z) 2 >>= fun _ => _) _ _ _
  refine wpAny_bind (wpAny_field hz rfl
    (x := .bool false) rfl ?_)
  show wpAny _ _ (field (.ref z) 3 >>= fun _ => _) _ _ _
  refine wpAny_bind (wpAny_field hz rfl
    (x := .ref TI) rfl ?_)
  refine wpAny_bind (wpAny_seqItems
    hTI rfl ?_)
  show wpAny _ _ (Builtin.SmallTypes.ownedTupleIsFree (.ref z) >>= fun _ => _) _ _ _
  refine wpAny_bind (wpAny_tupleHeld_zip
    hz hT fun g1 z1 sb1 => ?_)
  simp only [Bool.false_eq_true,
    if_false]
  refine wpAny_bind ?_
  rw [← Array.forIn_toList]
  simp only [List.forIn_cons,
    List.forIn_nil]
  refine wpAny_bind (wpAny_bind
    (wpAny_holding ?_))
  show wpAny _ _ (Builtin.SmallTypes.nextOf (.ref i1) >>= fun _ => _) _ _ _
  refine wpAny_bind (wpAny_nextOf_tuple_item (s := { s with heap := g1 }) (h1.extBut sb1.extBut D.i1z) (hl1.extBut sb1.extBut D.l1z) hx fun g2 a2 sb2 => wpAny_pure ?_)
  refine wpAny_pure ?_
  refine wpAny_bind (wpAny_bind
    (wpAny_holding ?_))
  show wpAny _ _ (Builtin.SmallTypes.nextOf (.ref i2) >>= fun _ => _) _ _ _
  refine wpAny_bind (wpAny_nextOf_tuple_item (s := { s with heap := g2 }) ((h2.extBut sb1.extBut D.i2z).extBut sb2.extBut D.i12.symm) ((hl2.extBut sb1.extBut D.l2z).extBut sb2.extBut D.l2i1) hy fun g3 b3 sb3 => wpAny_pure ?_)
  refine wpAny_pure
        (wpAny_pure ?_)
  show wpAny _ _ (newTuple [x, y] >>= fun _ => _) _ _ _
  refine wpAny_bind
        (wpAny_newTuple ?_)
  have sz : g3.objs.size = s.heap.objs.size := by rw [sb3.1, sb2.1, sb1.1]
  have z3 : IsZipHeld g3 z TI TO T true := sb3.extBut _ _ D.i2z.symm (sb2.extBut _ _ D.i1z.symm z1)
  have kp : ∀ c o, c ≠ z → c ≠ i1 → c ≠ i2 → s.heap.get? c = some o → g3.get? c = some o := fun c o n1 n2 n3 e => sb3.extBut _ _ n3 (sb2.extBut _ _ n2 (sb1.extBut _ _ n1 e))
  have a3 : g3.IsTupleIter i1 l1 (k + 1) := a2.extBut sb3.extBut D.i12
  refine wpAny_pure ⟨_, rfl, wpAny_pure ?_⟩
  show Q (some (.ref g3.objs.size)) _
  have pp : (g3.push { cls := .type "tuple", data := .seq #[x, y] }).get? g3.objs.size = some { cls := .type "tuple", data := .seq #[x, y] } := Heap.get?_push_size _ rfl
  have ps : (g3.push { cls := .type "tuple", data := .seq #[x, y] }).objs.size = g3.objs.size + 1 := Heap.size_push ..
  rw [sz] at pp ps ⊢
  refine hQ _ ⟨Heap.get?_push_of_some _ z3, ⟨oT, Heap.get?_push_of_some _ (kp T oT nT.1 nT.2.1 nT.2.2 hT)⟩, Heap.get?_push_of_some _ (kp TI _ D.TIz D.TIi1 D.TIi2 hTI), a3.at fun o e => Heap.get?_push_of_some _ e, b3.at fun o e => Heap.get?_push_of_some _ e⟩ pp ps fun c o n1 n2 n3 e => Heap.get?_push_of_some _ (kp c o n1 n2 n3 e)
theorem zh_end {z TI TO T i1 i2 l1 l2 : Addr} {f : Bool} {k : Nat} {xs ys : Array Value} {Q : Option Value → Shared → Prop} (hh : A.handled = none) (D : ZipApart z TI TO i1 i2 l1 l2) (st : ZH s.heap z TI TO T i1 i2 l1 l2 k f)
    (hl1 : s.heap.IsTuple l1 xs) (hl2 : s.heap.IsTuple l2 ys) (hend : xs[k]? = none ∨ ys[k]? = none)
    (hQ : ∀ h', (∀ c o, c ≠ z → c ≠ i1 → c ≠ i2 → s.heap.get? c = some o → h'.get? c = some
          o) → Q none { s with heap := h' }) : wpAny (model prog w) A (pyNext (.ref z)) Q E s := by
  obtain ⟨hz, ⟨oT, hT⟩, hTI, h1, h2⟩ := st
  have ty : s.TypeIs (.ref z) "zip" := ⟨_, hz, rfl⟩
  have fin : ∀ h' e, (∀ c o, c ≠ z → c ≠ i1 → c ≠ i2 → s.heap.get? c = some o → h'.get? c = some o) → (∃ o, h'.get? e = some o ∧ o.cls = .type "StopIteration") →
      wpAny (model prog w) A (do if ← isInstance (.ref e) (.type "StopIteration") then pure none else throw (.ref e)) Q E { s with heap := h' } := fun h' e kp he => by
    obtain ⟨o, ho, hc⟩ := he
    refine wpAny_bind (wpAny_isInstance (T := "StopIteration")
          (b := true) ⟨o, ho, hc⟩ isSubtype_stop ?_)
    exact wpAny_pure (hQ _ kp)
  unfold pyNext
  refine wpAny_bind (wpAny_attempt (wpAny_callSpecial?_slot (name := Str.ofString "__next__") ty
    F.slot_zip_next (wpAny_call_entry F.slot_zip_next ty F.entry_zip_next ?_ (F.args_zip_next_1 _))))
  show wpAny _ _ (field (.ref z) 2 >>= fun _ => _) _ _ _
  refine wpAny_bind (wpAny_field hz rfl
    (x := .bool false) rfl ?_)
  show wpAny _ _ (field (.ref z) 3 >>= fun _ => _) _ _ _
  refine wpAny_bind (wpAny_field hz rfl
    (x := .ref TI) rfl ?_)
  refine wpAny_bind (wpAny_seqItems
    hTI rfl ?_)
  show wpAny _ _ (Builtin.SmallTypes.ownedTupleIsFree (.ref z) >>= fun _ => _) _ _ _
  refine wpAny_bind (wpAny_tupleHeld_zip
    hz hT fun g1 z1 sb1 => ?_)
  simp only [Bool.false_eq_true,
    if_false]
  refine wpAny_bind ?_
  rw [← Array.forIn_toList]
  simp only [List.forIn_cons,
    List.forIn_nil]
  refine wpAny_bind (wpAny_bind
    (wpAny_holding ?_))
  show wpAny _ _ (Builtin.SmallTypes.nextOf (.ref i1) >>= fun _ => _) _ _ _
  cases hx : xs[k]? with
  | none =>
    refine wpAny_bind (wpAny_nextOf_tuple_end (s := { s with heap := g1 }) hh (h1.extBut sb1.extBut D.i1z) (hl1.extBut sb1.extBut D.l1z) hx fun g2 e sb2 he => ?_)
    exact fin g2 e (fun c o n1 n2 _ q => sb2 _ _ n2 (sb1.extBut _ _ n1 q)) he
  | some x =>
    have hy : ys[k]? = none := hend.resolve_left fun q => by rw [hx] at q; cases q
    refine wpAny_bind (wpAny_nextOf_tuple_item (s := { s with heap := g1 }) (h1.extBut sb1.extBut D.i1z) (hl1.extBut sb1.extBut D.l1z) hx fun g2 a2 sb2 => wpAny_pure ?_)
    refine wpAny_pure ?_
    refine wpAny_bind (wpAny_bind
      (wpAny_holding ?_))
    show wpAny _ _ (Builtin.SmallTypes.nextOf (.ref i2) >>= fun _ => _) _ _ _
    refine wpAny_bind (wpAny_nextOf_tuple_end (s := { s with heap := g2 }) hh ((h2.extBut sb1.extBut D.i2z).extBut sb2.extBut D.i12.symm) ((hl2.extBut sb1.extBut D.l2z).extBut sb2.extBut D.l2i1) hy fun g3 e sb3 he => ?_)
    exact fin g3 e (fun c o n1 n2 n3 q => sb3 _ _ n3 (sb2.extBut _ _ n2 (sb1.extBut _ _ n1 q))) he
/-- before the k-th pair: nothing given out yet, or the last pair still held -/
def ZS (h : Heap) (z TI TO i1 i2 l1 l2 S : Addr) (k : Nat) : Prop :=
  (k = 0 ∧ IsZip h z TI TO .none ∧ IsPair h TI (.ref i1) (.ref i2) ∧ (∃ a b, IsPair h TO a b) ∧ h.IsTupleIter i1 l1 0 ∧ h.IsTupleIter i2 l2 0) ∨
  ∃ T f, ZH h z TI TO T i1 i2 l1 l2 k f ∧ (T ≠ z ∧ T ≠ i1 ∧ T ≠ i2) ∧ T ≠ S
theorem ZS.up {h h' : Heap} {z TI TO i1 i2 l1 l2 S : Addr} {k : Nat} (x : ZS h z TI TO i1 i2 l1 l2 S k) (hk : ∀ b o, b ≠ S → h.get? b = some o → h'.get? b = some o) (n : z ≠ S ∧ TI ≠ S ∧ TO ≠ S ∧ i1 ≠ S ∧ i2 ≠ S) : ZS h' z TI TO i1 i2 l1 l2 S k := by
  obtain ⟨n1, n2, n3, n4, n5⟩ := n
  rcases x with ⟨e, hz, hT, ⟨a, b, hO⟩, g1, g2⟩ | ⟨T, f, ⟨hz, ⟨o, hT⟩, hp, g1, g2⟩, m, mS⟩
  · exact .inl ⟨e, hk _ _ n1 hz, hk _ _ n2 hT, ⟨a, b, hk _ _ n3 hO⟩, g1.at fun o q => hk _ o n4 q, g2.at fun o q => hk _ o n5 q⟩
  · exact .inr ⟨T, f, ⟨hk _ _ n1 hz, ⟨o, hk _ _ mS hT⟩, hk _ _ n2 hp, g1.at fun o q => hk _ o n4 q, g2.at fun o q => hk _ o n5 q⟩, m, mS⟩
theorem zs_item {z TI TO i1 i2 l1 l2 S : Addr} {k : Nat} {xs ys : Array Value} {x y : Value} {Q : Option Value → Shared → Prop} (D : ZipApart z TI TO i1 i2 l1 l2) (st : ZS s.heap z TI TO i1 i2 l1 l2 S k) (hS : S < s.heap.objs.size)
    (hl1 : s.heap.IsTuple l1 xs) (hl2 : s.heap.IsTuple l2 ys) (hx : xs[k]? = some x) (hy : ys[k]? = some y)
    (hQ : ∀ h', ZS h' z TI TO i1 i2 l1 l2 S (k + 1) → h'.get? s.heap.objs.size = some { cls := .type "tuple", data := .seq #[x, y] } → h'.objs.size = s.heap.objs.size + 1 →
      (∀ c o, c ≠ z → c ≠ TO → c ≠ i1 → c ≠ i2 → s.heap.get? c = some o → h'.get? c = some o) → Q (some (.ref s.heap.objs.size)) { s with heap := h' }) : wpAny (model prog w) A (pyNext (.ref z)) Q E s := by
  rcases st with ⟨e, hz, hTI, ⟨a, b, hTO⟩, g1, g2⟩ | ⟨T, f, st, m, mS⟩
  · subst e
    have b1 : i1 < s.heap.objs.size := by obtain ⟨o, q, _⟩ := id g1; exact Heap.lt_size q
    have b2 : i2 < s.heap.objs.size := by obtain ⟨o, q, _⟩ := id g2; exact Heap.lt_size q
    refine RZ.pyNext_zipT_item D hz hTI hTO g1 g2 hl1 hl2 hx hy fun h' z' TO' a1 a2 T' sz kp => hQ h' (.inr ⟨_, false, ⟨z', ⟨_, T'⟩, kp _ _ D.TIz D.TITO D.TIi1 D.TIi2 hTI, a1, a2⟩, ⟨Nat.ne_of_gt (Heap.lt_size hz), Nat.ne_of_gt b1, Nat.ne_of_gt b2⟩, Nat.ne_of_gt hS⟩) T' sz kp
  · exact zh_next D st m hl1 hl2 hx hy fun h' st' T' sz kp => hQ h' (.inr ⟨T, true, st', m, mS⟩) T' sz fun c o n1 _ n3 n4 e => kp c o n1 n3 n4 e
theorem zs_end {z TI TO i1 i2 l1 l2 S : Addr} {k : Nat} {xs ys : Array Value} {Q : Option Value → Shared → Prop} (hh : A.handled = none) (D : ZipApart z TI TO i1 i2 l1 l2) (st : ZS s.heap z TI TO i1 i2 l1 l2 S k)
    (hl1 : s.heap.IsTuple l1 xs) (hl2 : s.heap.IsTuple l2 ys) (hend : xs[k]? = none ∨ ys[k]? = none)
    (hQ : ∀ h', (∀ c o, c ≠ z → c ≠ TO → c ≠ i1 → c ≠ i2 → s.heap.get? c = some o → h'.get? c =
          some o) → Q none { s with heap := h' }) : wpAny (model prog w) A (pyNext (.ref z)) Q E s := by
  rcases st with ⟨e, hz, hTI, ⟨a, b, hTO⟩, g1, g2⟩ | ⟨T, f, st, m, mS⟩
  · subst e
    exact RZ.pyNext_zipT_end hh D hz hTI hTO g1 g2 hl1 hl2 hend hQ
  · exact zh_end hh D st hl1 hl2 hend fun h' kp => hQ h' fun c o n1 _ n3 n4 e => kp c o n1 n3 n4 e
/-- the pairs so far -/
structure ZG (xs ys : Array Value) (lo : Nat) (h : Heap) (as : List Addr) : Prop where
  rise : as.Pairwise (· < ·)
  above : ∀ a ∈ as, lo ≤ a
  pairs : ∀ (j : Nat) (a : Addr), as[j]? = some a → ∃ x y, xs[j]? = some x ∧ ys[j]? = some y ∧ h.get? a = some { cls := .type "tuple", data := .seq #[x, y] }
theorem ZG.nil {xs ys : Array Value} {lo : Nat} {h : Heap} : ZG xs ys lo h [] := by
  refine ⟨List.Pairwise.nil, ?_, ?_⟩
  · intro a ha
    cases ha
  · intro j a hj
    simp at hj
theorem ZG.lt {xs ys : Array Value} {lo : Nat} {h : Heap} {as : List Addr} (g : ZG xs ys lo h as) {a : Addr} (ha : a ∈ as) : a < h.objs.size := by
  obtain ⟨j, hj⟩ :=
        List.mem_iff_getElem?.mp ha
  obtain ⟨_, _, _, _, e⟩ := g.pairs j a hj
  exact Heap.lt_size e
theorem ZG.up {xs ys : Array Value} {lo : Nat} {h h' : Heap} {as : List Addr} (g : ZG xs ys lo h as) (k : ∀ a o, lo ≤ a → h.get? a = some o → h'.get? a = some o) : ZG xs ys lo h' as :=
  ⟨g.rise, g.above, fun j a hj => by
    obtain ⟨x, y, e1, e2, e3⟩ := g.pairs j a hj
    exact ⟨x, y, e1, e2, k a _ (g.above a (List.mem_of_getElem? hj)) e3⟩⟩
theorem ZG.more {xs ys : Array Value} {lo : Nat} {h : Heap} {as : List Addr} {b : Addr} {x y : Value} (g : ZG xs ys lo h as) (hb : ∀ a ∈ as, a < b) (hl : lo ≤ b) (hx : xs[as.length]? = some x) (hy : ys[as.length]? = some y) (e : h.get? b = some { cls := .type "tuple", data := .seq #[x, y] }) : ZG xs ys lo h (as ++ [b]) := by
  refine ⟨List.pairwise_append.mpr ⟨g.rise, List.pairwise_singleton _ _, fun a ha c hc => by rw [List.mem_singleton.mp hc]; exact hb a ha⟩, fun a ha => ?_, fun j c hj => ?_⟩
  · rcases List.mem_append.mp ha with q | q
    · exact g.above a q
    · rw [List.mem_singleton.mp q]; exact hl
  · by_cases h1 : j < as.length
    · rw [List.getElem?_append_left
          h1] at hj
      exact g.pairs j c hj
    · rw [List.getElem?_append_right (by omega)] at hj
      have h2 : j - as.length = 0 := by
        cases q : j - as.length with
        | zero => rfl
        | succ m => rw [q] at hj; cases hj
      have h3 : j = as.length := by omega
      subst h3
      rw [h2] at hj
      cases hj
      exact ⟨x, y, hx, hy, e⟩
theorem ne_lo {a b lo : Nat} (h : b < lo) (g : lo ≤ a) : a ≠ b := by omega
/-- kept but for the list, the zip's own -/
def Kp (S z TO i1 i2 : Addr) (h h' : Heap) : Prop := ∀ b o, b ≠ S → b ≠ z → b ≠ TO → b ≠ i1 → b ≠ i2 → h.get? b = some o → h'.get? b = some o
theorem zl_loop {R : Result → Shared → Prop} {S z TI TO i1 i2 l1 l2 : Addr} {lo n : Nat} {xs ys : Array Value} (hh : A.handled = none) (D : ZipApart z TI TO i1 i2 l1 l2) (nS : (z ≠ S ∧ TI ≠ S ∧ TO ≠ S ∧ i1 ≠ S ∧ i2 ≠ S) ∧ l1 ≠ S ∧ l2 ≠ S) (lw : z < lo ∧ TO < lo ∧ i1 < lo ∧ i2 < lo ∧ S < lo)
    (hn : n = min xs.size ys.size) (hz : n ≤ sizeLine) (res : Value) {h1 : Heap} (hR : ∀ h' tk acc c as, Kp S z TO i1 i2 h1 h' → h'.get? S = some { cls := .type "list", dict := none, data := .seq acc c, slots := #[] } → as.length = n → ZG xs ys lo h' as → acc.toList = as.map Value.ref → R (.ok (.ret res)) { s with heap := h', toks := tk }) :
    ∀ (k i : Nat) (h : Heap) (tk c : Nat) (acc : Array Value) (as : List Addr), n - i = k → i ≤ n → ZS h z TI TO i1 i2 l1 l2 S i → h.IsTuple l1 xs → h.IsTuple l2 ys → Kp S z TO i1 i2 h1 h →
      h.get? S = some { cls := .type "list", dict := none, data := .seq acc c, slots := #[] } → acc.toList = as.map Value.ref → as.length = i → ZG xs ys lo h as → lo ≤ h.objs.size →
      codeAny (model prog w) A (.builtin "list.extend.loop" ⟨[.ref S, .ref z, res], []⟩) R { s with heap := h, toks := tk } := by
  obtain ⟨nS, nS1, nS2⟩ := nS
  obtain ⟨w1, w2, w3, w4, w5⟩ := lw
  intro k
  induction k with
  | zero =>
    intro i h tk c acc as hk hi st t1 t2 kp hS hacc hal hG hlo
    refine codeAny_builtin
          PySem.F.entry_extend_loop ?_
    rw [Around.under_plainId
      PySem.F.plain_extend_loop _]
    show wpAny _ A.in1 (pyNext (.ref z) >>= fun _ => _) _ _ _
    have hend : xs[i]? = none ∨ ys[i]? = none := by
      rcases Nat.le_total xs.size ys.size with q | q
      · exact .inl (Array.getElem?_eq_none (by omega))
      · exact .inr (Array.getElem?_eq_none (by omega))
    refine wpAny_bind (zs_end (s := { s with heap := h, toks := tk }) (A := A.in1) hh D st t1 t2 hend fun h' kk => ?_)
    refine wpAny_pure (hR h' tk acc c as (fun b o m1 m2 m3 m4 m5 e => kk b o m2 m3 m4 m5 (kp b o m1 m2 m3 m4 m5 e)) (kk S _ nS.1.symm nS.2.2.1.symm nS.2.2.2.1.symm nS.2.2.2.2.symm hS) (by omega) (hG.up fun a o la e => kk a o (ne_lo w1 la) (ne_lo w2 la) (ne_lo w3 la) (ne_lo w4 la) e) hacc)
  | succ k ih =>
    intro i h tk c acc as hk hi st t1 t2 kp hS hacc hal hG hlo
    have lx : i < xs.size := by omega
    have ly : i < ys.size := by omega
    have hx : xs[i]? = some xs[i] := Array.getElem?_eq_getElem lx
    have hy : ys[i]? = some ys[i] := Array.getElem?_eq_getElem ly
    have hsz : acc.size = i :=
          by rw [← Array.length_toList, hacc, List.length_map, hal]
    refine codeAny_builtin
          PySem.F.entry_extend_loop ?_
    rw [Around.under_plainId
      PySem.F.plain_extend_loop _]
    show wpAny _ A.in1 (pyNext (.ref z) >>= fun _ => _) _ _ _
    have hSl : S < h.objs.size
          := Heap.lt_size hS
    refine wpAny_bind (zs_item (s := { s with heap := h, toks := tk }) (A := A.in1) (S := S) D st hSl t1 t2 hx hy fun h' st' ht sz kk => ?_)
    dsimp only at ht sz kk ⊢
    have hS' : h'.get? S = some { cls := .type "list", dict := none, data := .seq acc c, slots := #[] } := kk S _ nS.1.symm nS.2.2.1.symm nS.2.2.2.1.symm nS.2.2.2.2.symm hS
    have up : ∀ b o, b ≠ S → h'.get? b = some o → (h'.update S (Obj.mapSeq (·.push (Value.ref
          h.objs.size)))).get? b = some o := fun b o hb e => (Heap.get?_update_other _ _ (Ne.symm hb)).trans e
    show wpAny _ A.in1 (updateSeq S (·.push (Value.ref h.objs.size)) >>= fun _ => _) _ _ _
    refine wpAny_bind ?_
    have t1' : (h'.update S (Obj.mapSeq (·.push (Value.ref h.objs.size)))).IsTuple l1 xs := t1.at fun o e => up _ _ nS1 (kk _ _ D.l1z D.l1TO D.l1i1 D.l1i2 e)
    have t2' : (h'.update S (Obj.mapSeq (·.push (Value.ref h.objs.size)))).IsTuple l2 ys := t2.at fun o e => up _ _ nS2 (kk _ _ D.l2z D.l2TO D.l2i1 D.l2i2 e)
    have eT := up _ _ (Nat.ne_of_gt hSl) ht
    refine wpAny_updateSeq hS' rfl (wpAny_pure ⟨plainId_quiet PySem.F.plain_extend_loop _, ih (i + 1) _ tk _ (acc.push (Value.ref h.objs.size)) (as ++ [h.objs.size]) (by omega) (by omega) (st'.up up nS) t1' t2'
      (fun b o m1 m2 m3 m4 m5 e => up b o m1 (kk b o m2 m3 m4 m5 (kp b o m1 m2 m3 m4 m5 e))) (Heap.get?_update_self _ hS' rfl) (by rw [Array.toList_push, hacc, List.map_append]; rfl) (by rw [List.length_append, hal]; rfl) ?_ ?_⟩) (by rw [hsz]; omega) (by show (acc.push (Value.ref h.objs.size)).size ≤ sizeLine + 1; rw [Array.size_push, hsz]; omega)
    · refine ZG.more (hG.up fun a o la e => up a o (ne_lo w5 la) (kk a o (ne_lo w1 la) (ne_lo w2 la) (ne_lo w3 la) (ne_lo w4 la) e)) (fun a ha => hG.lt ha) hlo (by rw [hal]; exact hx) (by rw [hal]; exact hy) eT
    · exact Nat.le_trans hlo (Nat.le_of_lt (Heap.lt_size eT))
theorem zip_no_len : typeLookup (.type "zip") "__len__" = pure none := am_miss_of_fast (by decide +kernel)
theorem zip_no_hint : typeLookup (.type "zip") "__length_hint__" = pure none := am_miss_of_fast (by decide +kernel)
theorem zl_hint {r : Addr} {Q : Bool → Shared → Prop} (hT : s.TypeIs (.ref r) "zip") (h : Q true s) : wpAny (model prog w) A (Builtin.List.listLengthHint (.ref r)) Q E s := by
  unfold
        Builtin.List.listLengthHint
  refine wpAny_bind (wpAny_specialOf hT zip_no_len ?_)
  show wpAny _ _ (specialOf (.ref r) "__length_hint__" >>= fun _ => _) _ _ _
  refine wpAny_bind (wpAny_specialOf hT zip_no_hint ?_)
  exact wpAny_pure h
theorem zl_extend {R : Result → Shared → Prop} {S z TI TO i1 i2 l1 l2 : Addr} {lo n : Nat} {xs ys : Array Value} (hh : A.handled = none) (D : ZipApart z TI TO i1 i2 l1 l2) (nS : (z ≠ S ∧ TI ≠ S ∧ TO ≠ S ∧ i1 ≠ S ∧ i2 ≠ S) ∧ l1 ≠ S ∧ l2 ≠ S) (lw : z < lo ∧ TO < lo ∧ i1 < lo ∧ i2 < lo ∧ S < lo)
    (hn : n = min xs.size ys.size) (hz : n ≤ sizeLine) (res : Value) (hT : IsZip s.heap z TI TO .none) (st : ZS s.heap z TI TO i1 i2 l1 l2 S 0) (t1 : s.heap.IsTuple l1 xs) (t2 : s.heap.IsTuple l2 ys) (hlo : lo ≤ s.heap.objs.size) {c : Nat} (hS : s.heap.get? S = some { cls := .type "list", data := .seq #[] c })
    (hR : ∀ h' tk acc c as, Kp S z TO i1 i2 s.heap h' → h'.get? S = some { cls := .type "list", dict := none, data := .seq acc c, slots := #[] } → as.length = n → ZG xs ys lo h' as → acc.toList = as.map Value.ref → R (.ok (.ret res)) { s with heap := h', toks := tk }) :
    wpAny (model prog w) A.in1 (Builtin.List.listExtendWith (.ref S) (.ref z) res)
      (fun fin s' => match fin with
        | .done f => R (.ok f) s'
        | .again c' => c'.quiet = true ∧ codeAny (model prog w) A c' R s') (fun e s' => R (.error e) s') s := by
  have ty : ∀ h : Heap, IsZip h z TI TO .none → Shared.TypeIs { s with heap := h } (.ref z) "zip" := fun h q => ⟨_, q, rfl⟩
  have key : ∀ (h : Heap) (c tk : Nat), (∀ b o, b ≠ S → s.heap.get? b = some o → h.get? b = some o) → s.heap.objs.size ≤ h.objs.size → h.get? S = some { cls := .type "list", data := .seq #[] c } →
      codeAny (model prog w) A (.builtin "list.extend.loop" ⟨[.ref S, .ref z, res], []⟩) R { s with heap := h, toks := tk } := fun h c tk up sz hS' =>
    zl_loop hh D nS lw hn hz res hR n 0 h tk c #[] [] (Nat.sub_zero n) (Nat.zero_le n) (st.up up nS.1) (t1.at fun o e => up _ _ nS.2.1 e) (t2.at fun o e => up _ _ nS.2.2 e) (fun b o m _ _ _ _ e => up b o m e) hS' rfl rfl
      ZG.nil (Nat.le_trans hlo sz)
  unfold
        Builtin.List.listExtendWith
  refine wpAny_bind (wpAny_typeOf (T := "zip") (ty _ hT) ?_)
  have e1 : Builtin.List.listSameRef (.ref S) (.ref z) = false := by simp [Builtin.List.listSameRef, nS.1.1.symm]
  have e2 : (Value.type "zip" == Value.type "list") = false := by decide
  have e3 : (Value.type "zip" == Value.type "tuple") = false := by decide
  simp only [e1, e2, e3, Bool.or_false,
    Bool.false_eq_true, if_false]
  refine wpAny_bind (wpAny_pyIter_zip hT ?_)
  refine wpAny_bind (wpAny_holding (zl_hint (ty _ hT) ?_))
  refine wpAny_ite_split (fun _ => ?_) (fun _ => wpAny_pure ⟨plainId_quiet
    PySem.F.plain_extend_loop _, key _ c _ (fun b o _ e => e) (Nat.le_refl _) hS⟩)
  refine wpAny_bind
        (wpAny_rule ?_)
  refine wpAny_bind ?_
  show wpAny _ _ (updateSeq S (·.push .none) >>= fun _ => updateSeq S
    (·.pop)) _ _ _
  refine wpAny_bind
        (wpAny_updateSeq hS rfl ?_)
  have hS2 := Heap.get?_update_self (Obj.mapSeq (·.push Value.none)) hS rfl
  refine wpAny_updateSeq (hz := by seq_fits) hS2 rfl ?_
  have hS3 := Heap.get?_update_self (Obj.mapSeq (·.pop)) hS2 rfl
  refine wpAny_pure ⟨plainId_quiet
    PySem.F.plain_extend_loop _, key _ _ _ (fun b o m e => (Heap.get?_update_other _ _ (Ne.symm m)).trans ((Heap.get?_update_other _ _ (Ne.symm m)).trans e)) ?_ hS3⟩
  show s.heap.objs.size ≤ ((s.heap.update S _).update S _).objs.size
  simp [Heap.update]
theorem zl_init {R : Result → Shared → Prop} {S z TI TO i1 i2 l1 l2 : Addr} {lo n : Nat} {xs ys : Array Value} (hh : A.handled = none) (D : ZipApart z TI TO i1 i2 l1 l2) (nS : (z ≠ S ∧ TI ≠ S ∧ TO ≠ S ∧ i1 ≠ S ∧ i2 ≠ S) ∧ l1 ≠ S ∧ l2 ≠ S) (lw : z < lo ∧ TO < lo ∧ i1 < lo ∧ i2 < lo ∧ S < lo)
    (hn : n = min xs.size ys.size) (hz : n ≤ sizeLine) (hT : IsZip s.heap z TI TO .none) (st : ZS s.heap z TI TO i1 i2 l1 l2 S 0) (t1 : s.heap.IsTuple l1 xs) (t2 : s.heap.IsTuple l2 ys) (hlo : lo ≤ s.heap.objs.size) (hS : s.heap.get? S = some { cls := .type "list", data := .seq #[] })
    (hR : ∀ h' tk acc c as, Kp S z TO i1 i2 s.heap h' → h'.get? S = some { cls := .type "list", dict := none, data := .seq acc c, slots := #[] } → as.length = n → ZG xs ys lo h' as → acc.toList = as.map Value.ref → R (.ok (.ret .none)) { s with heap := h', toks := tk }) :
    wpAny (model prog w) A.in1 (Builtin.«list.__init__» ⟨[.ref S, .ref z], []⟩)
      (fun fin s' => match fin with
        | .done f => R (.ok f) s'
        | .again c' => c'.quiet = true ∧ codeAny (model prog w) A c' R s') (fun e s' => R (.error e) s') s := by
  show wpAny _ _ (Builtin.List.listItems (.ref S) >>= fun old => Builtin.List.listUpdate (.ref S) (fun _ => #[]) >>= fun _ => letGo old.toList.reverse >>= fun _ => Builtin.List.listExtendWith (.ref S) (.ref z) .none) _ _ s
  refine wpAny_bind ?_
  unfold Builtin.List.listItems
  refine wpAny_bind (wpAny_seqItems hS rfl
    (wpAny_pure ?_))
  show wpAny _ _ (updateSeq S (fun _ => #[]) >>= fun _ => letGo (#[] : Array Value).toList.reverse >>= fun _ => Builtin.List.listExtendWith (.ref S) (.ref z)
    .none) _ _ s
  refine wpAny_bind
        (wpAny_updateSeq hS rfl ?_)
  have hS2 := Heap.get?_update_self (Obj.mapSeq
        (fun _ => (#[] : Array Value))) hS rfl
  have up : ∀ b o, b ≠ S → s.heap.get? b = some o → (s.heap.update S (Obj.mapSeq (fun _ => (#[] : Array Value)))).get? b = some o := fun b o m e => (Heap.get?_update_other _ _ (Ne.symm m)).trans e
  refine wpAny_bind
        (wpAny_letGo ?_)
  refine zl_extend hh D nS lw hn hz .none (up _ _ nS.1.1 hT) (st.up up nS.1) (t1.at fun o e => up _ _ nS.2.1 e) (t2.at fun o e => up _ _ nS.2.2 e) (Nat.le_trans hlo ?_) hS2 fun h' tk acc c as kp e1 e2 e3 e4 => ?_
  · simp [Heap.update]
  · exact hR h' tk acc c as (fun b o m1 m2 m3 m4 m5 e => kp b o m1 m2 m3 m4 m5 (up b o m1 e)) e1 e2 e3 e4
/-- list(z), z a zip of two tuples that has given nothing out yet -/
theorem zl_call {Q : Value → Shared → Prop} {z TI TO i1 i2 l1 l2 : Addr} {n : Nat} {xs ys : Array Value} (hh : A.handled = none) (D : ZipApart z TI TO i1 i2 l1 l2) (hn : n = min xs.size ys.size) (hz : n ≤ sizeLine) (hT : IsZip s.heap z TI TO .none) (hp : IsPair s.heap TI (.ref i1) (.ref i2)) (ho : ∃ a b, IsPair s.heap TO a b)
    (g1 : s.heap.IsTupleIter i1 l1 0) (g2 : s.heap.IsTupleIter i2 l2 0) (t1 : s.heap.IsTuple l1 xs) (t2 : s.heap.IsTuple l2 ys)
    (hQ : ∀ h' tk acc c as, (∀ b o, b ≠ z → b ≠ TO → b ≠ i1 → b ≠ i2 → s.heap.get? b = some o → h'.get? b = some o) → h'.get? s.heap.objs.size = some { cls := .type "list", dict := none, data := .seq acc c, slots := #[] } → as.length = n → ZG xs ys (s.heap.objs.size + 1) h' as → acc.toList = as.map Value.ref → Q (.ref s.heap.objs.size) { s with heap := h', toks := tk }) :
    wpAny (model prog w) A (call (.type "list") [.ref z]) Q E s := by
  refine callType_codes (Q₁ := fun obj s₁ => obj = .ref s.heap.objs.size ∧ s₁ = { s with heap := s.heap.push { cls := .type "list", data := .seq #[] } }) PySem.F.called_list
    (PySem.F.typeCall_list_1 _) PySem.F.entry_list_init (code_list_new _ ⟨rfl, rfl⟩) fun obj s₁ h₁ => ?_
  obtain ⟨e1, e2⟩ := h₁
  subst e1 e2
  have hS : (s.heap.push { cls := .type "list", data := .seq #[] }).get? s.heap.objs.size
        = some { cls := .type "list", data := .seq #[] } := Heap.get?_push_size _ rfl
  have b1 : i1 < s.heap.objs.size := by obtain ⟨o, q, _⟩ := id g1; exact Heap.lt_size q
  have b2 : i2 < s.heap.objs.size := by obtain ⟨o, q, _⟩ := id g2; exact Heap.lt_size q
  have b3 : l1 < s.heap.objs.size := by obtain ⟨o, q, _⟩ := id t1; exact Heap.lt_size q
  have b4 : l2 < s.heap.objs.size := by obtain ⟨o, q, _⟩ := id t2; exact Heap.lt_size q
  have b5 : z < s.heap.objs.size := Heap.lt_size hT
  have b6 : TI < s.heap.objs.size := Heap.lt_size hp
  have b7 : TO < s.heap.objs.size := by obtain ⟨a, b, q⟩ := ho; exact Heap.lt_size q
  have up : ∀ b o, s.heap.get? b = some o → (s.heap.push { cls := .type "list", data := .seq #[] }).get? b = some o := fun b o e => Heap.get?_push_of_some _ e
  obtain ⟨pa, pb, po⟩ := ho
  refine ⟨⟨_, hS, rfl⟩, PySem.F.args_list_init_2 _ _, zl_init (lo := s.heap.objs.size + 1) (A := A.in1) hh D ⟨⟨Nat.ne_of_lt b5, Nat.ne_of_lt b6, Nat.ne_of_lt b7, Nat.ne_of_lt b1, Nat.ne_of_lt b2⟩, Nat.ne_of_lt b3, Nat.ne_of_lt b4⟩
    ⟨Nat.lt_succ_of_lt b5, Nat.lt_succ_of_lt b7, Nat.lt_succ_of_lt b1, Nat.lt_succ_of_lt b2, Nat.lt_succ_self _⟩ hn hz (up _ _ hT) (.inl ⟨rfl, up _ _ hT, up _ _ hp, ⟨pa, pb, up _ _ po⟩, g1.at fun o e => up _ o e, g2.at fun o e => up _ o e⟩) (t1.at fun o e => up _ o e) (t2.at fun o e => up _ o e)
    (by show _ ≤ (s.heap.push _).objs.size; rw [Heap.size_push]; exact Nat.le_refl _) hS fun h' tk acc c as kp e1 e2 e3 e4 => ?_⟩
  exact ⟨rfl, hQ h' tk acc c as (fun b o m1 m2 m3 m4 e => kp b o (Nat.ne_of_lt (Heap.lt_size e)) m1 m2 m3 m4 (up b o e)) e1 e2 e3 e4⟩
end
end DL
namespace DL
open PySem PySem.Spec
      PyProof.Rows L2
/-- a new pair's object -/
abbrev prO (u v : Value) : Obj := { cls := .type "tuple", data := .seq #[u, v] }
def putZ : Hp → List Addr → List V → List V → List Value → List Value → Hp
  | H, a :: as, x :: xs, y :: ys, u :: us, v :: vs => putZ (upd H a (.frz (prO u v) (.tup [x, y]))) as xs ys us vs
  | H, _, _, _, _, _ => H
theorem putZ_off {b : Addr} : ∀ (as : List Addr) (xs ys : List V) (us vs : List Value) (H : Hp), b ∉ as → putZ H as xs ys us vs b = H b
  | [], _, _, _, _, _, _ => by simp [putZ]
  | _ :: _, [], _, _, _, _, _ => by simp [putZ]
  | _ :: _, _ :: _, [], _, _, _, _ => by simp [putZ]
  | _ :: _, _ :: _, _ :: _, [], _, _, _ => by simp [putZ]
  | _ :: _, _ :: _, _ :: _, _ :: _, [], _, _ => by simp [putZ]
  | a :: as, x :: xs, y :: ys, u :: us, v :: vs, H, h => by
    show putZ (upd H a _) as xs ys us vs b = H b
    rw [putZ_off as xs ys us vs _ fun z => h (List.mem_cons_of_mem _ z), upd_ne fun z => h (by rw [z]; exact List.mem_cons_self)]
theorem putZ_at : ∀ (as : List Addr) (xs ys : List V) (us vs : List Value) (H : Hp) (j : Nat) (a : Addr), as.Nodup → as[j]? = some a → as.length ≤ xs.length → as.length ≤ ys.length → as.length ≤ us.length → as.length ≤ vs.length →
    ∃ x y u v, xs[j]? = some x ∧ ys[j]? = some y ∧ us[j]? = some u ∧ vs[j]? = some v ∧ putZ H as xs ys us vs a = some (.frz (prO u v) (.tup [x, y]))
  | [], _, _, _, _, _, _, _, _, h, _, _, _, _ => by simp at h
  | _ :: _, [], _, _, _, _, _, _, _, _, h, _, _, _ => by simp at h
  | _ :: _, _ :: _, [], _, _, _, _, _, _, _, _, h, _, _ => by simp at h
  | _ :: _, _ :: _, _ :: _, [], _, _, _, _, _, _, _, _, h, _ => by simp at h
  | _ :: _, _ :: _, _ :: _, _ :: _, [], _, _, _, _, _, _, _, _, h => by simp at h
  | b :: as, x :: xs, y :: ys, u :: us, v :: vs, H, 0, a, nd, h, _, _, _, _ => by
    cases h
    refine ⟨x, y, u, v, rfl, rfl, rfl, rfl, ?_⟩
    show putZ (upd H b _) as xs ys us vs b = _
    rw [putZ_off as xs ys us vs _ (List.nodup_cons.mp nd).1, upd_same]
  | b :: as, x :: xs, y :: ys, u :: us, v :: vs, H, j + 1, a, nd, h, l1, l2, l3, l4 => by
    obtain ⟨x', y', u', v', e1, e2, e3, e4, e5⟩ := putZ_at as xs ys us vs (upd H b (.frz (prO u v) (.tup [x, y]))) j a (List.nodup_cons.mp nd).2 h (Nat.le_of_succ_le_succ l1) (Nat.le_of_succ_le_succ l2) (Nat.le_of_succ_le_succ l3) (Nat.le_of_succ_le_succ l4)
    exact ⟨x', y', u', v', e1, e2, e3, e4, e5⟩
theorem vals_at : ∀ {xs : List V} {us : List Value} {j : Nat} {x : V} {u : Value}, Vals xs us → xs[j]? = some x → us[j]? = some u → RelV x u
  | _, _, j, _, _, .nil, h, _ => by simp at h
  | _, _, 0, _, _, .cons r _, h, g => by
    cases h
    cases g
    exact r
  | _, _, j + 1, _, _, .cons _ t, h, g => vals_at (j := j) t h g
theorem refs_vals : ∀ as : List Addr, Vals (as.map V.ref) (as.map Value.ref)
  | [] => .nil
  | _ :: as => .cons rfl (refs_vals as)
section
variable {X : Cx}
/-- what list(zip(..)) has laid -/
structure Zd (H H' : Hp) (p : Addr) (ts : List Addr) (xs ys : List V) : Prop where
  ext : ∀ b o, H b = some o → H' b = some o
  p0 : H p = none
  at' : H' p = some (.lst (ts.map V.ref))
  len : ts.length = min xs.length ys.length
  prs : ∀ (j : Nat) (t : Addr), ts[j]? = some t → H t = none ∧ ∃ x y o, xs[j]? = some x ∧ ys[j]? = some y ∧ o.cls = .type "tuple" ∧ o.dict = none ∧ o.slots = #[] ∧ H' t = some (.frz o (.tup [x, y]))
theorem zd_laid {pins : List (Addr × Obj)} {σ : L2.St} {H : Hp} {s : Shared} {h' : Heap} {tk : Nat} {xs ys : List V} {us vs : List Value} {acc : Array Value} {c : Nat} {as : List Addr} {S lo : Addr} (I : Inv X pins σ H s) (rx : Vals xs us) (ry : Vals ys vs) (hn : as.length = min us.length vs.length) (hz : as.length ≤ sizeLine)
    (hk : ∀ b o, s.heap.get? b = some o → h'.get? b = some o) (s0 : s.heap.objs.size ≤ S) (hlo : S < lo) (hS : h'.get? S = some { cls := .type "list", dict := none, data := .seq acc c, slots := #[] }) (hG : ZG us.toArray vs.toArray lo h' as) (hacc : acc.toList = as.map Value.ref) :
    ∃ H', Zd H H' S as xs ys ∧ Inv X pins σ H' { s with heap := h', toks := tk } := by
  have l1 := rx.length
  have l2 := ry.length
  have nd : as.Nodup := List.Pairwise.imp
        (fun {a b} (h : a < b) => Nat.ne_of_lt h) hG.rise
  have big : ∀ a ∈ as, s.heap.objs.size ≤ a := fun a ha => Nat.le_trans s0 (Nat.le_trans (Nat.le_of_lt hlo) (hG.above a ha))
  have hSn : S ∉ as := fun z => Nat.lt_irrefl _ (Nat.lt_of_lt_of_le hlo (hG.above _ z))
  have new : ∀ t ∈ as, H t = none := fun t ht => I.hok.fresh (big t ht)
  have newS : H S = none := I.hok.fresh s0
  have low : ∀ b o, s.heap.get? b = some o → b ∉ as ∧ b ≠ S := fun b o e => ⟨fun z => Nat.lt_irrefl _ (Nat.lt_of_lt_of_le (Heap.lt_size e) (big b z)), fun z => Nat.lt_irrefl _ (Nat.lt_of_lt_of_le (Heap.lt_size e) (z ▸ s0))⟩
  have atP := fun j a (h : as[j]? = some a) => putZ_at as xs ys us vs (upd H S (.lst (as.map V.ref))) j a nd h (by omega) (by omega) (by omega) (by omega)
  have off : ∀ b, b ∉ as → b ≠ S → putZ (upd H S (.lst (as.map V.ref))) as xs ys us vs b = H b := fun b h1 h2 => by rw [putZ_off as xs ys us vs _ h1, upd_ne h2]
  have eS : putZ (upd H S (.lst (as.map V.ref))) as xs ys us vs S = some (.lst (as.map V.ref)) := by rw [putZ_off as xs ys us vs _ hSn, upd_same]
  have kp : ∀ b o, H b = some o → putZ (upd H S (.lst (as.map V.ref))) as xs ys us vs b = some o := fun b o e => by
    rw [off b (fun z => by rw [new b z] at e; cases e) fun z => by rw [z, newS] at e; cases e]
    exact e
  refine ⟨putZ (upd H S (.lst (as.map V.ref))) as xs ys us vs, ⟨kp, newS, eS, by omega, fun j t h => ⟨new t (List.mem_of_getElem? h), ?_⟩⟩, ?_⟩
  · obtain ⟨x, y, u, v, e1, e2, e3, e4, e5⟩ := atP j t h
    exact ⟨x, y, _, e1, e2, rfl, rfl, rfl, e5⟩
  · refine I.call' (ch := []) rfl ⟨fun b o q _ _ _ => hk b o q, fun b o q _ _ _ => ⟨o.slots, hk b o q⟩, fun b o q n _ => ?_, fun b o q _ => ⟨o, hk b o q⟩, fun b xs q => kp b _ q, fun b o u q => kp b _ q, fun b ps q => ⟨#[], by rw [kp b _ q]; simp⟩⟩ (fun b o q => ?_) I.bare fun b z => by simp at z
    · obtain ⟨z1,
          z2⟩ := low b o q
      rw [off b z1 z2]
      exact n
    · by_cases hb : b ∈ as
      · obtain ⟨j, hj⟩ := List.mem_iff_getElem?.mp hb
        obtain ⟨x, y, u, v, e1, e2, e3, e4, e5⟩ := atP j b hj
        rw [e5] at q
        cases q
        obtain ⟨u', v', f1, f2, f3⟩ := hG.pairs j b hj
        have g1 : us[j]? = some u' := by simpa using f1
        have g2 : vs[j]? = some v' := by simpa using f2
        rw [e3] at g1
        rw [e4] at g2
        cases g1
        cases g2
        exact ⟨f3, by show 2 ≤ sizeLine; decide, [u, v], .cons (vals_at rx e1 e3) (.cons (vals_at ry e2 e4) .nil), ⟨_, f3, rfl, _, rfl⟩⟩
      · by_cases hb2 : b = S
        · subst hb2
          rw [eS] at q
          cases q
          refine ⟨by rw [List.length_map]; exact hz, acc.toList, c, by rw [hacc]; exact refs_vals as, ?_⟩
          rw [Array.toArray_toList]
          exact hS
        · rw [off b hb hb2] at q
          exact (I.hok b o q).stay (fun d v _ y => hk d v y) (fun d y => kp d _ y) fun d xs y => kp d _ y
/-- list(zip(t, u)) -/
def tLZip (K : PySem.W.Frag) (ta : TA) : TE := fun σ H Q => ta σ H fun vs H1 => ∃ a b xs ys, vs = [.ref a, .ref b] ∧ (SqT K H1 a xs ∧ SqT K H1 b ys) ∧ ∀ H' p ts, Zd H1 H' p ts xs ys → Q (.ref p) H'
theorem pe_lzip {e e2 : Expr} {ta : TA} {p p2 pos zpos : Pos} (hc : X.calm = true) (hg2 : Gl X "list") (hm2 : X.mg "list" = none) (hg : Gl X "zip") (hm : X.mg "zip" = none) (ha : PA X [e, e2] ta)
    (hs : starEach [e, e2] X.env = (false, eval e X.env) :: starEach [e2] X.env := by rfl) (hpl : (backTo zpos (starEach [e2] X.env)).any (·.1) = false := by rfl)
    (hl : starEach [.Call (.Name "zip" p2) [e, e2] [] zpos] X.env = (false, eval (.Call (.Name "zip" p2) [e, e2] [] zpos) X.env) :: starEach [] X.env := by rfl) : PE X (.Call (.Name "list" p) [.Call (.Name "zip" p2) [e, e2] [] zpos] [] pos) (tLZip X.K ta) := by
  constructor
  intro pins s σ H Q I h
  refine Call_ (ld_blt I hg2 hm2 boot_list (PyProof.Rows.callWith_type1 (args_cons ?_ hl) hl))
  refine Call_ (ld_blt I hg hm PyProof.Rows.boot_zip (PyProof.Rows.callWith_type1 (thn (ha.run zpos pins s σ H _ I h) fun us s1 ⟨vs, H1, I1, r1, q1⟩ => ?_) hs hpl))
  obtain ⟨a, b, xs, ys, ex, ⟨hqx, hqy⟩, q⟩ := q1
  subst ex
  cases r1 with
  | cons r rr =>
    cases rr with
    | cons r' rr =>
      cases rr
      cases r
      cases r'
      obtain ⟨its, rv, p1, hz1⟩ := I1.tuple hqx
      obtain ⟨jts, rv2, p2', hz2⟩ := I1.tuple hqy
      have l1 := rv.length
      have l2 := rv2.length
      obtain ⟨o1, ho1, _⟩ := id p1
      obtain ⟨o2, ho2, _⟩ := id p2'
      refine RZ.call_zipT (show s1.heap.IsTuple a its.toArray from p1) (show s1.heap.IsTuple b jts.toArray from p2') fun h' z hTI hTO g1 g2 hsz hk => args_nil ?_
      have D := PySem.W.ktu_apart s1.heap.objs.size a b (Heap.lt_size ho1) (Heap.lt_size ho2)
      have t1 : h'.IsTuple a its.toArray := Heap.IsTuple.at (show s1.heap.IsTuple a its.toArray from p1) fun o e => hk _ o e
      have t2 : h'.IsTuple b jts.toArray := Heap.IsTuple.at (show s1.heap.IsTuple b jts.toArray from p2') fun o e => hk _ o e
      refine zl_call (s := { s1 with heap := h' }) (I1.ok.hd hc) D rfl (by rw [List.size_toArray, List.size_toArray]; omega) z hTI ⟨_, _, hTO⟩ g1 g2 t1 t2 fun h2 tk acc c as kp eS el hG hacc => ?_
      dsimp only at kp eS hG hacc ⊢
      have up : ∀ b o, s1.heap.get? b = some o → h2.get? b = some o := fun b o e => by
        have hb := Heap.lt_size e
        have lt : ∀ m, b ≠ s1.heap.objs.size + m := fun m z => by
          rw [z] at hb
          exact Nat.lt_irrefl _ (Nat.lt_of_le_of_lt (Nat.le_add_right _ _) hb)
        exact kp b o (lt 4) (lt 3) (lt 0) (lt 1) (hk b o e)
      obtain ⟨H', zd, J⟩ := zd_laid (tk := tk) I1 rv rv2 (by rw [el, List.size_toArray, List.size_toArray]) (by rw [el, List.size_toArray, List.size_toArray]; omega) up (by rw [hsz]; exact Nat.le_add_right _ _) (Nat.lt_succ_self _) eS hG hacc
      exact ⟨.ref _, H', J, rfl, q H' _ as zd⟩
end
end DL
set_option Elab.async false
set_option linter.all false
set_option maxRecDepth 100000
set_option maxHeartbeats 4000001
/-! DLZ: list(zip(t, u)) as a rule over data. -/
namespace DL
open PySem PyProof.Rows PySem.Spec L2 RZ StX
section
variable {X : Cx} {Kf : PySem.W.Frag} {B : Bs} {W : WX} {n : Nat} {a b c e : Expr} {es : List Expr} {ta tb tc te : TE} {ma mb mc me : M D} {pos p p2 p3 apos : Pos} {ts : TA} {ms : M (List D)} {x k : Str} {i : Nat}
/-- what is newly there is frozen -/
theorem Ok.ext {F F' : Hp} {ρ : Rho} {w : Wo} {σ : L2.St} {H H' : Hp} (k : Ok B F ρ w σ H) (hH : ∀ b o, H b = some o → H' b = some o) (sF : Sub F F') (new : ∀ b o, F' b = some o → F b = some o ∨ H b = none) (sub : Sub F' H') : Ok B F' ρ w σ H' := by
  have old : ∀ b o, H b = some o → F b = none → F' b = none := fun b o e f => by
    cases q : F' b with
    | none => rfl
    | some u =>
      rcases new b u q with z | z
      · rw [f] at z; cases z
      · rw [e] at z; cases z
  refine ⟨sub, ⟨k.go.sub.trans sF, fun b o e n => hH b o (k.go.keep b o e n), fun b o e => ?_, k.go.old, k.go.new⟩, ?_, k.len, fun i d e => ?_, fun i ds e => ?_, k.inj⟩
  · rcases new b o e with z | z
    · exact k.go.frs b o z
    · exact .inr (k.go.back k.wd z)
  · have kw := k.wd
    cases w with
    | none => trivial
    | some w =>
      obtain ⟨g1, g2, g3, g4, g5⟩ := kw
      exact ⟨old _ _ g4 g1, old _ _ g5 g2, g3, hH _ _ g4, hH _ _ g5⟩
  · obtain ⟨v, h1, h2⟩ := k.val i d e
    exact ⟨v, h1, h2.up sF⟩
  · obtain ⟨q, vs, h1, h2, h3, h4, h5, h6⟩ := k.own i ds e
    exact ⟨q, vs, h1, hH _ _ h2, old _ _ h2 h3, h4, h5, h6.up sF⟩
theorem RpAll.of_get {K : PySem.W.Frag} {F : Hp} : ∀ {vs : List V} {ds : List D}, vs.length = ds.length → (∀ (j : Nat) v d, vs[j]? = some v → ds[j]? = some d → Rp K F v d) → RpAll K F vs ds
  | [], [], _, _ => .nil
  | [], _ :: _, h,
        _ => by cases h
  | _ :: _, [], h,
        _ => by cases h
  | v :: vs, d :: ds, h, g => .cons (g 0 v d rfl rfl) (RpAll.of_get (Nat.succ.inj h) fun j v d e f => g (j + 1) v d e f)
def lzipD : List D → Option D
  | [.tup xs, .tup ys] => some (.lst ((xs.zip ys).map fun p => .tup [p.1, p.2]))
  | _ => none
def mLZip (ms : M (List D)) : M D := bnd ms fun ds => lft (lzipD ds)
theorem se_lzip (q : Cq Kf X B W n) (hg2 : Gl X "list") (hm2 : X.mg "list" = none) (hg : Gl X "zip") (hm : X.mg "zip" = none) (ha : SA X B W [a, b] ts ms) (hs : starEach [a, b] X.env = (false, eval a X.env) :: starEach [b] X.env := by rfl) (hpl : (backTo p3 (starEach [b] X.env)).any (·.1) = false := by rfl)
    (hl : starEach [.Call (.Name "zip" p2) [a, b] [] p3] X.env = (false, eval (.Call (.Name "zip" p2) [a, b] [] p3) X.env) :: starEach [] X.env := by rfl) : SE X B W (.Call (.Name "list" p) [.Call (.Name "zip" p2) [a, b] [] p3] [] pos) (tLZip Kf ts) (mLZip ms) := by
  cases q.hX
  refine ⟨pe_lzip q.calm hg2 hm2 hg hm ha.pa hs hpl hl, ?_⟩
  rw [q.hK]
  refine Sim.bnd (R' := RV B) (k := fun ds => lft (lzipD ds)) (tk := fun vs σ H Q => ∃ a b xs ys, vs = [V.ref a, V.ref b] ∧ (SqT B.K H a xs ∧ SqT B.K H b ys) ∧ ∀ H' p ts, Zd H H' p ts xs ys → Q (.ref p) H') ha.sim fun d ρ w r hr v F σ H ok rv Q p => ?_
  obtain ⟨z, hz, e1⟩ := lft_some hr
  subst e1
  unfold lzipD at hz
  split at hz
  · rename_i ds1 ds2
    cases hz
    obtain ⟨u1, u2, e, r1, r2⟩ := rv.two
    subst e
    cases r1 with
    | tup h1 r1 =>
      cases r2 with
      | tup h2 r2 =>
        rename_i A1 vs1 A2 vs2
        refine ⟨A1, A2, vs1, vs2, rfl, ⟨(ok.sub.sqP h1).sqT, (ok.sub.sqP h2).sqT⟩, fun H' P ts zd => ?_⟩
        let F' : Hp := fun b => if (H b).isNone then H' b else F b
        have at_new : ∀ b, H b = none → F' b = H' b := fun b h => by
          show (if (H b).isNone then H' b else F b) = H' b
          rw [h]
          rfl
        have at_old : ∀ b o, H b = some o → F' b = F b := fun b o h => by
          show (if (H b).isNone then H' b else F b) = F b
          rw [h]
          rfl
        have sF : Sub F F' := fun b o e => by
          rw [at_old b o (ok.sub b o e)]
          exact e
        have sub : Sub F' H' := fun b o e => by
          cases g : H b with
          | none => rw [at_new b g] at e; exact e
          | some u =>
            rw [at_old b u g] at e
            exact zd.ext b o (ok.sub b o e)
        have ok' : Ok B F' ρ w σ H' := ok.ext zd.ext sF (fun b o e => by
          cases g : H b with
          | none => exact .inr rfl
          | some u => rw [at_old b u g] at e; exact .inl e) sub
        refine p _ F' H' sF ok' (.lst (vs := ts.map V.ref) (by rw [at_new _ zd.p0]; exact zd.at') (.of_get ?_ fun j v d e f => ?_))
        · rw [List.length_map, List.length_map, List.length_zip, zd.len, r1.length, r2.length]
        · rw [List.getElem?_map] at e f
          cases g : ts[j]? with
          | none => rw [g] at e; cases e
          | some t =>
            rw [g] at e
            cases e
            cases gz : (ds1.zip ds2)[j]? with
            | none => rw [gz] at f; cases f
            | some pr =>
              rw [gz] at f
              cases f
              rw [List.getElem?_zip_eq_some] at gz
              obtain ⟨n1, x, y, o, k1, k2, k3, k4, k5, k6⟩ := zd.prs j t g
              obtain ⟨x1, m1, m2⟩ := r1.get gz.1
              obtain ⟨y1, m3, m4⟩ := r2.get gz.2
              rw [k1] at m1
              rw [k2] at m3
              cases m1
              cases m3
              exact .tup (.inl ⟨o, by rw [at_new _ n1]; exact k6, k3, k4, k5⟩) (.cons (m2.up sF) (.cons (m4.up sF) .nil))
  · cases hz
end
end DL
set_option Elab.async false
set_option linter.all false
set_option maxRecDepth 100000
set_option
      maxHeartbeats 4000000
/-! DLT: the law's own frame, in which no repr is under way; repr of data. -/
namespace DL
open PySem PySem.Spec PyProof.Rows L2 RZ StX
section
variable {P : Program} {w : World} {K : PySem.W.Frag}
      {mg : Str → Option Value} {base : Heap}
/-- one call of a def, from what stands around it -/
theorem run_at {CXg : CXT} {k : Nat} {f : Addr} {x qual : Str} {st : Stmt} {fd : FuncData} {N ps : List Str} (F : Fun K x qual st f fd) (S : FnScope N ps (defScope st))
    {A : Around} {outer : List Env} {s : Shared} {H : Hp} {args : Args} {us : List Value}
    {vs : List V} {Q : VK} {E : XK} (hr : Room (k + 1) A) (e0 : Env0 P w K mg base A outer s H)
    (hb : BindsTo s fd args (ps.zip us)) (r : Vals vs us) (hl : vs.length = ps.length)
    (hbody : ∀ cdv : Value, Room k (A.deeper (envOfC qual (defScope st) s.heap.objs.size f cdv)) →
      ∃ t, PSs (cxOf CXg P w K mg base N qual (defScope st) f cdv A outer s H E) (defBody st) t ∧
        t { nx := fun _ H' => Q .non H', rt := Q } (start N vs) H) :
    codeAny (model P w) A (.call (.ref f) args) (CR CXg outer P w H s Q E) s := by
  obtain ⟨oc, od, kV, doc, pm, an,
        cdv, ct, osl, rfl, lk, hcd⟩ := F.ex
  have kin : K.In s.heap := e0.mod.kin.keeps
    fun b o e => (e0.bs b o e).1
  have nolim : s.heap.NoLimit := e0.mod.nolimit.keeps
    fun b o e => (e0.bs b o e).1
  have kinds : ∀ y ∈ ps.zip us, (defScope st).names.lookup y.1 = some .local ∨
      ((defScope st).names.lookup y.1 = some .cell ∧
        ((cellsFrom (s.heap.objs.size + 1) (defScope st).names []).lookup y.1).isSome = true) := by
    rintro ⟨n, v⟩ hy
    rcases S.par n (List.of_mem_zip hy).1 with h | h
    · exact Or.inl h
    · exact Or.inr ⟨h, PySem.W.cellsFrom_some _ _ _
        (Or.inl h)⟩
  refine codeAny_call_function hr.depth (kin _ _ lk)
    rfl S.co S.gen rfl (PySem.W.codeRec_of kin hcd) (hb _ _ _ _ ?_)
  refine wpAny_newFunctionEnv_cells S.kind kinds
    fun env he s1 xx => ?_
  subst he
  refine ⟨nolim.keeps xx.toInCall.keep,
    codeAny_func ?_⟩
  obtain ⟨t, ht, hq⟩ := hbody cdv (hr.deeper _)
  have I : Inv (cxOf CXg P w K mg base N qual (defScope st) f cdv A outer s H E) []
      (start N vs) H s1 := inv_start S hr.hd e0 hl r xx
  refine wpAny_mono (ht.run [] s1 (start N vs) H _ I hq)
    ?_ fun e s' hs => hs
  intro fl s' hs
  cases fl with
  | brk =>
    obtain ⟨_, _, _, z⟩ := hs
    cases z
  | cont =>
    obtain ⟨_, _, _, z⟩ := hs
    cases z
  | next =>
    obtain ⟨σ', H', J, z⟩ := hs
    exact ⟨V.non, H', J.os, J.bare, J.base, J.hok, rfl, z⟩
  | ret u =>
    obtain ⟨v, σ', H', J, rv, z⟩ := hs
    exact ⟨v, H', J.os, J.bare, J.base, J.hok, rv, z⟩
end
/-! ### the law's call -/
section
variable {P : Program} {w : World} {K : PySem.W.Frag} {mg mb : Str → Option Value} {CXg : CXT}
/-- one abstract heap of the law's call: the script alone may be in it -/
structure Scr (P : Program) (w : World) (K : PySem.W.Frag) (h : Heap) (a : Addr) (ns : List Int) (H : Hp) : Prop where
  hok : HOk P w H h
  only : ∀ b, H b ≠ none → b = a
  frz : ∀ b, H b ≠ none → ∃ o xs, H b = some (.frz o (.lst xs))
  free : H a ≠ none → K.lookup a = none
  sq : SqL K H a (ns.map V.int)
theorem scr_of {h : Heap} {a : Addr} {vs : List Value} {ns : List Int} (KX : K.In h)
    (ha : h.get? a = some { cls := .type "list", data := .seq vs.toArray })
    (hi : IntsAre vs ns) (hl : ns.length ≤ sizeLine) : ∃ H, Scr P w K h a ns H := by
  have rv := vals_ints hi
  have lv := hi.length
  by_cases hk : K.lookup a = none
  · let ob : Obj := { cls := .type "list", data := .seq vs.toArray }
    let u : HO := .frz ob (.lst (ns.map V.int))
    have at' : ∀ b o, upd (fun _ => none) a u b = some o → b = a ∧ o = u := fun b o e => by
      by_cases hb : b = a
      · subst hb
        rw [upd_same] at e
        exact ⟨rfl, (Option.some.inj e).symm⟩
      · rw [upd_ne hb] at e
        cases e
    refine ⟨upd (fun _ => none) a u, fun b o e => ?_, fun b hb => ?_, fun b hb => ?_, fun _ => hk, ?_⟩
    · obtain ⟨e1, e2⟩ := at' b o e
      subst e1
      subst e2
      exact ⟨ha,
            by rw [List.length_map]; exact hl, vs, _, rv, ha⟩
    · cases q : upd (fun _ => none) a u b with
      | none => exact absurd q hb
      | some o => exact (at' b o q).1
    · cases q : upd (fun _ => none) a u b with
      | none => exact absurd q hb
      | some o =>
        rw [(at' b o q).2]
        exact ⟨_, _, rfl⟩
    · exact .inl (.inr ⟨ob, upd_same⟩)
  · cases q : K.lookup a with
    | none => exact absurd q hk
    | some o =>
      have e := KX a o q
      rw [ha] at e
      cases e
      refine ⟨fun _ => none, fun b o e => (by cases e), fun b hb => absurd rfl hb, fun b hb => absurd rfl hb, fun hb => absurd rfl hb, ?_⟩
      exact .inr ⟨_, vs.toArray, _, q, rfl, rfl, rfl, by rw [List.size_toArray, lv]; exact hl, by simpa using rv⟩
theorem Scr.env0 {s₁ : Shared} {a : Addr} {vs : List Value} {ns : List Int} {H : Hp} (S : Scr P w K s₁.heap a ns H)
    (KX : K.In s₁.heap) (hns : s₁.heap.Ns mainGlobals mg) (hb : s₁.heap.Ns builtinsNs mb)
    (hbb : ∀ x : Str, x ≠ "__name__" → mb x = bootBuiltins x) (hlim : s₁.heap.NoLimit) (hg : s₁.gens = #[])
    (ha : s₁.heap.get? a = some { cls := .type "list", data := .seq vs.toArray }) :
    K.In (hidT s₁.heap H) ∧ (hidT s₁.heap H).Ns mainGlobals mg ∧ Env0 P w K mg (hidT s₁.heap H) callerA [] s₁ H := by
  have free_of : ∀ {b : Addr}, b ≠ a → H b = none := fun {b} n => by
    cases q : H b with
    | none => rfl
    | some u => exact absurd (S.only b (by rw [q]; intro z; cases z)) n
  have dictFree : ∀ {b : Addr} {o : Obj} {es : Array DictEntry} {ep : Nat}, s₁.heap.get? b = some o →
      o.data = .dict es ep → H b = none := fun {b o es ep} e d => free_of fun z => by
    rw [z, ha] at e
    cases e
    exact nomatch d
  have nsT : ∀ {b : Addr} {m : Str → Option Value}, s₁.heap.Ns b m → (hidT s₁.heap H).Ns b m := by
    rintro b m ⟨o, es, ep, e, d, r⟩
    exact ⟨o, es, ep, hidT_get e (dictFree e d), d, r⟩
  have kT : K.In (hidT s₁.heap H) := fun b o e => by
    refine hidT_get (KX b o e) ?_
    by_cases hba : b = a
    · cases q : H b with
      | none => rfl
      | some u =>
        have z := S.free (by rw [← hba, q]; intro z; cases z)
        rw [← hba, e] at z
        cases z
    · exact free_of hba
  obtain ⟨mc, l1, l2⟩ := hlim
  have mo : Mod K mg (hidT s₁.heap H) := ⟨kT, nsT hns, ⟨mb, nsT hb, hbb⟩, ⟨mc, nsT l1, l2⟩⟩
  exact ⟨kT, nsT hns, ⟨rfl, mo, fun b o e => of_hidT e, Nat.le_of_eq (hidT_size _ _), trivial, fun b hb => (nomatch hb), S.hok, .of_eq hg⟩⟩
/-- behind it: all stands as it stood -/
theorem Scr.behind {s₁ s' : Shared} {a : Addr} {ns : List Int} {H : Hp} (S : Scr P w K s₁.heap a ns H) {r : Result} (hCX : ∀ e s', CXg [] H s₁ (fun _ _ _ => False) e s' → False)
    (h : CR CXg [] P w H s₁ (fun v _ => v = V.bl true) (fun _ _ _ => False) r s') :
    r = .ok (.ret (.bool true)) ∧ OldK s₁.heap s'.heap ∧ s'.os = s₁.os ∧ AllBare s'.gens := by
  match r, h with
  | .error e, h => exact (hCX e s' h).elim
  | .ok .next, h => exact False.elim h
  | .ok .brk, h => exact False.elim h
  | .ok .cont, h => exact False.elim h
  | .ok (.ret u), ⟨v, H', os, bare, un, hok', rel, q⟩ =>
    have q : v = .bl true := q
    subst q
    have rel : u = Value.bool true := rel
    subst rel
    refine ⟨rfl, OldK.of_keep
          fun b o e => ?_, os, bare⟩
    by_cases hb : H b = none
    · exact un.keep b o e hb (fun z => nomatch z) fun z => nomatch z
    · obtain ⟨ob, xs, z⟩ := S.frz b hb
      obtain ⟨e1, _⟩ := S.hok b _ z
      obtain ⟨e2, _⟩ := hok' b _ (un.frzs b ob _ z)
      rw [e] at e1
      cases e1
      exact e2
/-- the goal that the head leaves, from one call of the law where no repr is under way -/
theorem walk_at {l : PySem.W.OpenLaw} {n : Nat} {q : Program} {loose : List Str} {XP : (Str → Option Value) → Heap → Prop} {YP : World → Heap → Prop} {d : DefRec} {Kp : Params → PySem.W.Frag}
    (hn : l.most = some n) (hn2 : n ≤ sizeLine) (hdf : d.params.defaults = []) (hY : ∀ (w : World) (h : Heap), YP w h → (Kp w.params).In h)
    (F : ∀ (w : World) (mg : Str → Option Value) (fa : Addr) (h : Heap), (Kp w.params).In h → h.Ns mainGlobals mg → mg d.name = some (.ref fa) →
      ∀ base : Heap, (Kp w.params).In base → base.Ns mainGlobals mg → ∀ (s : Shared) (H : Hp) (a : Addr) (ns : List Int), ns.length ≤ n → Env0 l.prog w (Kp w.params) mg base callerA [] s H →
        SqL (Kp w.params) H a (ns.map V.int) → codeAny (model l.prog w) callerA (.call (.ref fa) ⟨[.ref a], []⟩) (CR (L2.CX l.prog w) [] l.prog w H s (fun v _ => v = V.bl true) fun _ _ _ => False) s) :
    PySem.W.WalkO q loose XP YP l.row.toRowW
          d [] (fun f vs => PySem.call f vs) := by
  refine Att.attach_call hn hdf
        fun w s₀ s₁ mg mb fa o pm cd doc a vs ns G Y ho hd hcd hmg hobj hints hlen hg => ?_
  have KX := hY w _ Y
  obtain ⟨H, S⟩ := scr_of (P := l.prog) (w := w) KX hobj hints (Nat.le_trans hlen hn2)
  obtain ⟨kT, nT, e0⟩ := S.env0 KX G.T.g G.T.b G.T.builtins G.T.nolimit hg hobj
  refine codeAny_mono (F w mg fa _ KX G.T.g hmg _ kT nT s₁ H a ns hlen e0 S.sq) fun r s' h => S.behind (fun e s' c => ?_) h
  obtain ⟨_, _, _, _, _, _, _, _, _, _, _, _, c⟩ := c
  exact c
end
/-! ### the law's def, at its one call -/
section
variable {P : Program} {wd : World} {K : PySem.W.Frag} {mg : Str → Option Value} {base : Heap}
abbrev cxL (P : Program) (wd : World) (K : PySem.W.Frag) (mg : Str → Option Value) (base : Heap) (N : List Str) (st : Stmt) (f : Addr) (cdv : Value) (s : Shared) (H : Hp) : Cx :=
  cxOf (L2.CX P wd) P wd K mg base N "law" (defScope st) f cdv callerA [] s H fun _ _ _ => False
theorem law_okG {st s1 : Stmt} {rest : List Stmt} {f fo : Addr} {fd fdo : FuncData} {N : List Str} {n i : Nat} {m : M Fl} {y : Str} {p1 p2 p3 p4 p5 : Pos} (F : Fun K "law" "law" st f fd) (S : FnScope N ["_law_script"] (defScope st)) (Fo : FnOk P wd K mg base (L2.CX P wd) n fo fdo ["_law_script"] (spOpen K))
    (hbind : ∀ (s : Shared) (v : Value), BindsTo s fd ⟨[v], []⟩ [("_law_script", v)]) (hr0 : Room (n + 1) callerA)
    (hb : defBody st = s1 :: rest) (h1 : s1 = .Assign [.Name y p1] (.Call (.Name "_law_open_cells" p2) [.Name "_law_script" p3] [] p4) p5) (hi : 0 < i) (hil : i < N.length)
    (head : ∀ (cdv : Value) (s : Shared) (H : Hp), Room n (cxL P wd K mg base N st f cdv s H).A →
      PS (cxL P wd K mg base N st f cdv s H) s1 (tAsg (tCallS (spOpen K) (fun _ => fun _ _ _ => False) (tCons (tVar 0) tNil)) (gName i)))
    (body : ∀ (cdv : Value) (s : Shared) (H : Hp), ∃ t, ∀ B : Bs, Body K (cxL P wd K mg base N st f cdv s H) B (fun _ _ _ _ => False) n → (cxL P wd K mg base N st f cdv s H).A.guards = some [] →
      SB (cxL P wd K mg base N st f cdv s H) B (fun _ _ _ _ => False) rest t m)
    (T : Told N.length i m) (s : Shared) (H : Hp) (a : Addr) (ns : List Int) (hl : ns.length ≤ 63) (e0 : Env0 P wd K mg base callerA [] s H) (hs : SqL K H a (ns.map V.int)) :
    codeAny (model P wd) callerA (.call (.ref f) ⟨[.ref a], []⟩) (CR (L2.CX P wd) [] P wd H s (fun v _ => v = V.bl true) fun _ _ _ => False) s := by
  refine run_at (vs := [.ref a]) (us := [.ref a]) (ps := ["_law_script"]) F S hr0 e0 (hbind s (.ref a)) (.cons rfl .nil) rfl fun cdv hr => ?_
  obtain ⟨t, hbd⟩ := body cdv s H
  have hbd := fun B (hBK : B.K = K) => hbd B ⟨⟨rfl, (show K = B.K from hBK.symm), takes_of rfl rfl rfl rfl, hr, rfl, S.nd⟩, passes_of rfl⟩ rfl
  have hps := (hbd ⟨K, H, fun _ => none, none⟩ rfl).pss
  refine ⟨tSeq (tAsg (tCallS (spOpen K) (fun _ => fun _ _ _ => False) (tCons (tVar 0) tNil)) (gName i)) t, by rw [hb]; exact pss_cons (head cdv s H hr) hps, ?_⟩
  refine ⟨.ref a, rfl, a, ns, rfl, hs, by omega, fun H' sa ca keep n1 n2 nsc hsa hca => ?_⟩
  obtain ⟨ρ1, w1, hrun⟩ := T sa ca ns nsc hl
  have ls : (L2.start N [V.ref a]).length = N.length := by
    unfold L2.start
    simp only [List.length_append, List.length_map, List.length_replicate, List.length_singleton]
    omega
  have fr : ∀ (j : Nat) (sl : Slot), ((List.replicate N.length Slot.free).set i (.val (.raw (.ref sa))))[j]? = some sl → sl = .free ∨ (i = j ∧ sl = .val (.raw (.ref sa))) := fun j sl e => by
    by_cases hj : i = j
    · subst hj
      rw [List.getElem?_set_self (by rw [List.length_replicate]; exact hil)] at e
      exact .inr ⟨rfl, (Option.some.inj e).symm⟩
    · rw [List.getElem?_set_ne hj, List.getElem?_replicate] at e
      split at e
      · exact .inl (Option.some.inj e).symm
      · cases e
  have ok0 : Ok ⟨K, H', fun _ => none, some (src0 sa ca ns)⟩ (fun _ => none) ((List.replicate N.length Slot.free).set i (.val (.raw (.ref sa)))) (some (src0 sa ca ns)) ((L2.start N [V.ref a]).set i (some (.ref sa))) H' := by
    refine ⟨fun b o e => (by cases e), Goes.refl _ _ _, ⟨rfl, rfl, nsc, hsa, hca⟩, by rw [List.length_set, List.length_set, List.length_replicate, ls], fun j d e => ?_, fun j ds e => ?_, fun j l b dj dl e => ?_⟩
    · rcases fr j _ e with z | ⟨hj, z⟩
      · cases z
      · cases z
        subst hj
        exact ⟨.ref sa, List.getElem?_set_self (by rw [ls]; exact hil), .raw _⟩
    · rcases fr j _ e with z | ⟨_, z⟩ <;> cases z
    · rcases fr j _ e with z | ⟨_, z⟩ <;> cases z
  exact (hbd ⟨K, H', fun _ => none, some (src0 sa ca ns)⟩ rfl).sim _ _ _ hrun _ _ _ ok0 _ fun v F2 σ2 H2 _ _ rv => by
    cases rv
    rfl
end
/-! ### repr of data -/
def reprD : List D → Option D
  | [d] => if dat 60 d && (toP d).showable && decide ((toP d).shown.length ≤ 100000) && PyData.strOk (toP d).shown then some (.str (toP d).shown) else none
  | _ => none
def rRepr (K : PySem.W.Frag) : List V → Hp → VK → Prop := fun xs H Q => ∃ x d, xs = [x] ∧ Dp K H x d ∧ SeqAt.shaped d = true ∧ d.showable = true ∧ d.shown.length ≤ sizeLine ∧ Q (.str d.shown) H
section
variable {X : Cx} {Kf : PySem.W.Frag} {B : Bs} {W : WX} {n : Nat} {e : Expr} {es : List Expr} {ts : TA} {ms : M (List D)} {p pos : Pos}
theorem call_reprD (hg : X.A.guards = some []) (hu : X.A.units + 70 < cLine) : CallR X (.builtin "repr") (rRepr X.K) := by
  intro pins s σ
        H xs us Q I r h
  obtain ⟨x, d, ex, hd, sd, sh, sz, q⟩ := h
  subst ex
  cases r with
  | cons r1 r2 =>
    cases r2
    obtain ⟨as, rd⟩ := Dp.reads I d x _ hd r1
    have hz : d.depth ≤ 64 := by
      unfold SeqAt.shaped at sd
      rw [Bool.and_eq_true] at sd
      exact of_decide_eq_true sd.2
    have nd : d.hasDict = false := by
      unfold SeqAt.shaped at sd
      rw [Bool.and_eq_true] at sd
      exact PyData.hasDict_of_canLay d sd.1
    have fin : ∀ (h' : Heap) (u tk : Tok), (∀ b o, s.heap.get? b = some o → h'.get? b = some o) → EP X pins σ Q (.str d.shown u) { s with heap := h', toks := tk } := fun h' u tk hk => ⟨.str d.shown, H, I.kept (t' := tk) hk, ⟨u, rfl⟩, q⟩
    have fin0 : ∀ (u tk : Tok), EP X pins σ Q (.str d.shown u) { s with toks := tk } := fun u tk => fin s.heap u tk fun _ _ e => e
    cases hd with
    | non =>
      cases r1
      exact PySem.P.repr_of_none (by simpa [PyData.shown] using fin0 s.toks (s.toks + 1))
    | bl b =>
      cases r1
      exact PySem.P.repr_of_bool (by simpa [PyData.shown] using fin0 s.toks (s.toks + 1))
    | int i =>
      obtain ⟨t, rfl⟩ := r1
      exact PySem.P.repr_of_int (by simpa [PyData.showable] using sh) (by simpa [PyData.shown] using fin0 s.toks (s.toks + 1))
    | str x =>
      obtain ⟨t, rfl⟩ := r1
      exact PySem.P.repr_of_str (by simpa [PyData.shown] using fin0 s.toks (s.toks + 1)) (by simpa [PyData.shown] using sz)
    | lst h1 h2 =>
      cases r1
      exact PySem.repr_of_reads' rd sh (PyData.noDict_hsm nd) hg (by omega) (fun _ _ e => e) fin sz
    | tup h1 h2 =>
      cases r1
      exact PySem.repr_of_reads' rd sh (PyData.noDict_hsm nd) hg (by omega) (fun _ _ e => e) fin sz
theorem cas_repr : CaS B W (rRepr B.K) fun ds => lft (reprD ds) := by
  refine .pure fun ds d h F H vs sub rs Q q _ _ => ?_
  unfold reprD at h
  split at h
  · split at h
    · rename_i hc
      rw [Bool.and_eq_true, Bool.and_eq_true, Bool.and_eq_true] at hc
      obtain ⟨⟨⟨h1, h2⟩, h3⟩, h4⟩ := hc
      cases h
      obtain ⟨v, ev, rv⟩ := rs.one
      subst ev
      obtain ⟨g1, g2⟩ := rp_shaped sub h1 rv
      exact ⟨v, _, rfl, g1, g2, h2, small (of_decide_eq_true h3), q _ (.str _ h4)⟩
    · cases h
  · cases h
theorem Cq.u70 {Kf : PySem.W.Frag} {X : Cx} {B : Bs} {W : WX} {n : Nat} (q : Cq Kf X B W n) : X.A.units + 70 < cLine := by
  cases q.hX
  have := q.hr.un; omega
theorem se_repr (qg : X.A.guards = some []) (q : Cq Kf X B W n) (hg : Gl X "repr") (hm : X.mg "repr" = none) (ha : SA X B W (e :: es) ts ms) (he : starEach (e :: es) X.env = (false, eval e X.env) :: starEach es X.env := by rfl) (hpl : (backTo pos (starEach es X.env)).any (·.1) = false := by rfl) :
    SE X B W (.Call (.Name "repr" p) (e :: es) [] pos) (tCB (rRepr Kf) ts) (bnd ms fun ds => lft (reprD ds)) := by
  have u := q.u70
  cases q.hX
  exact se_cb (call_reprD qg u) (by rw [q.hK]; exact cas_repr) hg hm (by decide +kernel) ha (by decide) (by decide) he hpl
end
end DL
set_option Elab.async false
set_option linter.all false
set_option maxRecDepth 100000
set_option
      maxHeartbeats 4000000
/-! DLU: {k: v, ..}[x], the keys written texts. -/
namespace DL
open PySem PySem.Spec PyProof.Rows L2 RZ StX
section
variable {B : Bs} {F : Hp} {ρ : Rho} {w : Wo} {σ : L2.St} {H : Hp} {p : Addr} {o o' : HO}
theorem Ok.putIn (k : Ok B F ρ w σ H) (h : H p = none) : Ok (B.plus p o) F ρ w σ (upd H p o) := by
  obtain ⟨h0, hF, hw⟩ := k.fresh h
  have ne : ∀ {a : Addr} {u : HO}, F a = some u → a ≠ p := fun {a u} e z => by rw [z, hF] at e; cases e
  have pl : ∀ {a : Addr}, a ≠ p → (B.plus p o).H a = B.H a := fun {a} n => upd_ne n
  refine ⟨fun a u e => ?_, ⟨k.go.sub, fun a u e n => ?_, fun a u e => ?_, k.go.old, fun a e => ?_⟩, wd_upd k.wd hw fun _ _ => rfl, k.len, k.val, fun i ds e => ?_, k.inj⟩
  · rw [upd_ne (ne e)]
    exact k.sub a u e
  · by_cases ha : a = p
    · subst ha
      have e : upd B.H a o a = some u := e
      rw [upd_same] at e ⊢
      exact e
    · rw [pl ha] at e
      rw [upd_ne ha]
      exact k.go.keep a u e n
  · rcases k.go.frs a u e with z | z
    · exact .inl z
    · exact .inr ((pl (ne e)).trans z)
  · rcases k.go.new a e with z | z
    · exact .inl z
    · exact .inr ((pl fun q => hw (q ▸ e)).trans z)
  · obtain ⟨a, us, h1, h2, h3, h4, h5, h6⟩ := k.own i ds e
    have na : a ≠ p := ne_of_none h2 h
    exact ⟨a, us, h1, by rw [upd_ne na]; exact h2, h3, (pl na).trans h4, h5, h6⟩
/-- it is taken out of what must stay -/
theorem Ok.takeOut (h0 : B.H p = none) (hw : p ∉ adr B.w) (hF : B.F p = none) (k : Ok (B.plus p o) F ρ w σ H) : Ok B F ρ w σ H ∧ H p = some o ∧ F p = none ∧ p ∉ adr w ∧ ∀ (i : Nat) (ds : List D), ρ[i]? = some (Slot.own ds) → σ[i]? ≠ some (some (V.ref p)) := by
  have at' : (B.plus p o).H p = some o := upd_same
  have pl : ∀ {a : Addr}, a ≠ p → (B.plus p o).H a = B.H a := fun {a} n => upd_ne n
  have back : ∀ {a : Addr}, (B.plus p o).H a = none → B.H a = none := fun {a} e => by
    by_cases ha : a = p
    · rw [ha]; exact h0
    · rw [← pl ha]; exact e
  have nF : F p = none := by
    cases q : F p with
    | none => rfl
    | some u =>
      rcases k.go.frs p u q with z | z
      · have z : B.F p = some u := z
        rw [hF] at z
        cases z
      · rw [at'] at z
        cases z
  have nw : p ∉ adr w := fun z => by
    rcases k.go.new p z with q | q
    · exact hw q
    · rw [at'] at q
      cases q
  refine ⟨⟨k.sub, ⟨k.go.sub, fun a u e n => k.go.keep a u ?_ n, fun a u e => (k.go.frs a u e).imp id back, k.go.old, fun a e => (k.go.new a e).imp id back⟩, k.wd, k.len, k.val, fun i ds e => ?_, k.inj⟩, k.go.keep p o at' hw, nF, nw, fun i ds e z => ?_⟩
  · rw [pl fun q => by rw [q, h0] at e; cases e]
    exact e
  · obtain ⟨a, us, h1, h2, h3, h4, h5, h6⟩ := k.own i ds e
    exact ⟨a, us, h1, h2, h3, back h4, h5, h6⟩
  · obtain ⟨a, us, h1, h2, h3, h4, h5, h6⟩ := k.own i ds e
    rw [h1] at z
    cases z
    rw [at'] at h4
    cases h4
/-- it changes -/
theorem Ok.putNew (h0 : B.H p = none) (hw : p ∉ adr B.w) (hF : B.F p = none) (k : Ok (B.plus p o) F ρ w σ H) : Ok (B.plus p o') F ρ w σ (upd H p o') := by
  obtain ⟨k1, h1, nF, nw, ns⟩ := k.takeOut h0 hw hF
  have pl : ∀ {a : Addr}, a ≠ p → (B.plus p o').H a = B.H a := fun {a} n => upd_ne n
  refine ⟨fun a u e => ?_, ⟨k1.go.sub, fun a u e n => ?_, fun a u e => ?_, k1.go.old, fun a e => ?_⟩, wd_upd k1.wd nw fun _ _ => rfl, k1.len, k1.val, fun i ds e => ?_, k1.inj⟩
  · rw [upd_ne fun z => by rw [z, nF] at e; cases e]
    exact k1.sub a u e
  · by_cases ha : a = p
    · subst ha
      have e : upd B.H a o' a = some u := e
      rw [upd_same] at e ⊢
      exact e
    · rw [pl ha] at e
      rw [upd_ne ha]
      exact k1.go.keep a u e n
  · rcases k1.go.frs a u e with z | z
    · exact .inl z
    · exact .inr ((pl fun q => by rw [q, nF] at e; cases e).trans z)
  · rcases k1.go.new a e with z | z
    · exact .inl z
    · exact .inr ((pl fun q => nw (q ▸ e)).trans z)
  · obtain ⟨a, us, g1, g2, g3, g4, g5, g6⟩ := k1.own i ds e
    have na : a ≠ p := fun z => ns i ds e (by rw [g1, z])
    exact ⟨a, us, g1, by rw [upd_ne na]; exact g2, g3, (pl na).trans g4, g5, g6⟩
end
/-! ### the pairs -/
def RPs (B : Bs) (ks : List Str) : Hp → List (V × V) → List D → Prop := fun F ps ds => ∃ vs, ps = (ks.zip vs).map (fun kv => (V.str kv.1, kv.2)) ∧ vs.length = ks.length ∧ RpAll B.K F vs ds
structure SPs (X : Cx) (B : Bs) (W : WX) (pos : Pos) (keys : List (Option Expr)) (vals : List Expr) (ks : List Str) (trs : List (TE × TE)) (ms : M (List D)) : Prop where
  pps : PPs X pos keys vals trs
  sim : Sim B W (RPs B ks) (tPairs trs) ms
section
variable {X : Cx} {Kf : PySem.W.Frag} {B : Bs} {W : WX} {n : Nat} {a e : Expr} {ta te : TE} {ma me : M D} {pos p p2 : Pos} {keys : List (Option Expr)} {vals : List Expr} {ks : List Str} {trs : List (TE × TE)} {ms : M (List D)} {k : Str}
theorem sps_nil : SPs X B W pos [] [] [] [] mNil := ⟨pps_nil, fun ρ w r hr F σ H ok Q q => by
  cases hr
  exact q [] F H (Sub.refl F) ok ⟨[], rfl, rfl, .nil⟩⟩
theorem sps_cons {j : Nat} (hk : PyData.strOk k = true) (h : SE X B W e te me) (hs : SPs X B W pos keys vals ks trs ms) : SPs X B W pos (some (.Constant (.str k) j p) :: keys) (e :: vals) (k :: ks) ((tC (.str k), te) :: trs) (mCons me ms) :=
  ⟨pps_cons pe_str h.pe hs.pps, by
    intro ρ w r hr F σ H ok Q q
    show te σ H fun v H1 => tPairs trs σ H1 fun ps H2 => Q ((.str k, v) :: ps) H2
    refine (Sim.bnd (R' := RPs B (k :: ks)) (tk := fun x σ H Q => tPairs trs σ H fun ps H2 => Q ((.str k, x) :: ps) H2) h.sim fun d ρ1 w1 r1 hr1 x F1 σ1 H1 ok1 rx Q1 p1 => ?_) ρ w r hr F σ H ok Q q
    unfold DL.bnd at hr1
    cases h : ms ρ1 w1 with
    | none => rw [h] at hr1; cases hr1
    | some r2 =>
      rw [h] at hr1
      cases r2 with
      | ok ds ρ2 w2 =>
        cases hr1
        refine hs.sim ρ1 w1 _ h F1 σ1 H1 ok1 _ fun ps F2 H2 s2 ok2 rs => ?_
        obtain ⟨vs, e1, e2, e3⟩ := rs
        subst e1
        exact p1 _ F2 H2 s2 ok2 ⟨x :: vs, rfl, by simp [e2], .cons (rx.up s2) e3⟩
      | exc z ρ2 w2 =>
        cases hr1
        exact hs.sim ρ1 w1 _ h F1 σ1 H1 ok1 _ fun d F2 H2 s2 ok2 q => p1 d F2 H2 s2 ok2 q⟩
def lookD : List Str → List D → Str → Option D
  | k :: ks, d :: ds, z => if k = z then some d else lookD ks ds z
  | _, _, _ => none
def kLook (ks : List Str) (ds : List D) : D → M D
  | .str z => lft (lookD ks ds z)
  | _ => fun _ _ => none
theorem kLook_some {ks : List Str} {ds : List D} {d : D} {ρ : Rho} {w : Wo} {r : Rs D} (h : kLook ks ds d ρ w = some r) : ∃ z d', d = .str z ∧ lookD ks ds z = some d' ∧ r = .ok d' ρ w := by
  cases d with
  | str z =>
    obtain ⟨d', h1, h2⟩ := lft_some (show lft (lookD ks ds z) ρ w = some r from h)
    exact ⟨z, d', rfl, h1, h2⟩
  | _ => cases h
def mDget (ks : List Str) (ms : M (List D)) (mi : M D) : M D := bnd ms fun ds => bnd mi (kLook ks ds)
def nodupS : List Str → Bool
  | [] => true
  | k :: ks => !(ks.contains k) && nodupS ks
theorem nodupS_ok : ∀ {ks : List Str}, nodupS ks = true → ks.Nodup
  | [], _ => .nil
  | k :: ks, h => by
    simp only [nodupS, Bool.and_eq_true, Bool.not_eq_true'] at h
    refine List.nodup_cons.mpr ⟨fun m => ?_, nodupS_ok h.2⟩
    have := List.contains_iff_mem.mpr m
    rw [this] at h
    cases h.1
theorem merge_fresh : ∀ (ks : List Str) (vs : List V) (acc : List (Key × V)), ks.Nodup → vs.length = ks.length → (∀ k ∈ ks, valV acc (.inr k) = none) → mergeK acc ((ks.zip vs).map fun kv => ((.inr kv.1 : Key), kv.2)) = acc ++ (ks.zip vs).map fun kv => ((.inr kv.1 : Key), kv.2)
  | [], vs, acc, _, hl, _ => by
    cases vs with
    | nil => simp [mergeK]
    | cons v vs => simp at hl
  | k :: ks, vs, acc, hn, hl, hf => by
    cases vs with
    | nil => simp at hl
    | cons v vs =>
      obtain ⟨n1, n2⟩ := List.nodup_cons.mp hn
      have e : mergeK acc (((k :: ks).zip (v :: vs)).map fun kv => ((.inr kv.1 : Key), kv.2)) = mergeK (L2.putK acc (.inr k) v) ((ks.zip vs).map fun kv => ((.inr kv.1 : Key), kv.2)) := rfl
      rw [e, putK_new v (hf k List.mem_cons_self), merge_fresh ks vs _ n2 (by simpa using hl) fun k' hk' => ?_]
      · simp
      · rw [valV_snoc _ _ _ _ (hf k List.mem_cons_self), if_neg fun z => n1 (by cases z; exact hk')]
        exact hf k' (List.mem_cons_of_mem _ hk')
theorem look_val {K : PySem.W.Frag} {F : Hp} : ∀ {ks : List Str} {vs : List V} {ds : List D} {z : Str} {d : D}, RpAll K F vs ds → vs.length = ks.length → lookD ks ds z = some d → ∃ v, valV ((ks.zip vs).map fun kv => ((.inr kv.1 : Key), kv.2)) (.inr z) = some v ∧ Rp K F v d
  | [], _, _, _, _, _, _, h => by simp [lookD] at h
  | k :: ks, _, [], _, _, _, _, h => by simp [lookD] at h
  | k :: ks, _, d :: ds, z, d', r, hl, h => by
    cases r with
    | cons r1 r2 =>
      unfold lookD at h
      split at h
      · rename_i e
        cases h
        exact ⟨_, valV_pos (by rw [e]), r1⟩
      · rename_i e
        obtain ⟨v, h1, h2⟩ := look_val r2 (by simpa using hl) h
        refine ⟨v, ?_, h2⟩
        rw [List.zip_cons_cons, List.map_cons, valV_neg fun q => e (by cases q; rfl)]
        exact h1
theorem se_dispget {dpos : Pos} (q : Cq Kf X B W n) (hs : ∀ B' : Bs, Kf = B'.K → Cq Kf X B' W n → SPs X B' W dpos keys vals ks trs ms) (hi : ∀ B' : Bs, Kf = B'.K → Cq Kf X B' W n → SE X B' W a ta ma) (hn : nodupS ks = true) (hl15 : ks.length ≤ 15) (hall : keys.all (·.isSome) = true := by rfl) (hl : keys.length = vals.length := by rfl) (h0 : keys ≠ [] := by intro h; exact nomatch h)
    (hlim : decide (keys.length ≤ 15) = true := by rfl) (hsl : NoSl a := by intro _ _; rfl) : SE X B W (.Subscript (.Dict keys vals dpos) a pos) (tDGet (tDisp trs) ta) (mDget ks ms ma) := by
  refine ⟨pe_dget (by have := q.u65; omega) (pe_disp (hs B q.hK q).pps hall hl h0 (of_decide_eq_true hlim)) (hi B q.hK q).pe hsl, ?_⟩
  intro ρ w r hr F σ H ok Q post
  intro pp hp
  obtain ⟨n0, nF, nw⟩ := ok.fresh hp
  have bF : B.F pp = none := ok.go.sub.back nF
  have bw : pp ∉ adr B.w := fun z => nw (ok.go.old pp z)
  have cq : ∀ o, Cq Kf X (B.plus pp o) W n := fun o => ⟨q.hX, q.hK, q.tk, q.hr, q.calm, q.nd⟩
  have ok1 : Ok (B.plus pp (.dK [])) F ρ w σ (upd H pp (.dK [])) := ok.putIn hp
  unfold mDget bnd at hr
  cases h1 : ms ρ w with
  | none => rw [h1] at hr; cases hr
  | some r1 =>
    rw [h1] at hr
    refine (hs (B.plus pp (.dK [])) q.hK (cq _)).sim ρ w r1 h1 F σ _ ok1 _ ?_
    cases r1 with
    | exc x ρ1 w1 =>
      cases hr
      exact fun d F' H' s ok' hx => post d F' H' s (ok'.takeOut n0 bw bF).1 hx
    | ok ds ρ1 w1 =>
      intro ps F1 H1 s1 ok2 rs
      obtain ⟨vs, e1, e2, e3⟩ := rs
      subst e1
      obtain ⟨_, g1, _⟩ := ok2.takeOut n0 bw bF
      refine ⟨g1, (ks.zip vs).map fun kv => ((.inr kv.1 : Key), kv.2), by rw [List.map_map]; rfl, by rw [List.length_map, List.length_zip]; omega, ?_⟩
      rw [merge_fresh ks vs [] (nodupS_ok hn) e2 fun _ _ => rfl, List.nil_append]
      have ok3 : Ok (B.plus pp (.dK ((ks.zip vs).map fun kv => ((.inr kv.1 : Key), kv.2)))) F1 ρ1 w1 σ (upd H1 pp (.dK ((ks.zip vs).map fun kv => ((.inr kv.1 : Key), kv.2)))) := ok2.putNew n0 bw bF
      dsimp only at hr
      cases h2 : ma ρ1 w1 with
      | none => rw [h2] at hr; cases hr
      | some r2 =>
        rw [h2] at hr
        refine (hi (B.plus pp (.dK ((ks.zip vs).map fun kv => ((.inr kv.1 : Key), kv.2)))) q.hK (cq _)).sim ρ1 w1 r2 h2 F1 σ _ ok3 _ ?_
        cases r2 with
        | exc x ρ2 w2 =>
          cases hr
          exact fun d F' H' s ok' hx => post d F' H' (s1.trans s) (ok'.takeOut n0 bw bF).1 hx
        | ok d ρ2 w2 =>
          intro y F2 H2 s2 ok4 ry
          obtain ⟨ok5, g2, _⟩ := ok4.takeOut n0 bw bF
          dsimp only at hr
          obtain ⟨z, d', ed, hd', er⟩ := kLook_some hr
          subst ed
          subst er
          cases ry
          obtain ⟨v, hv, rv⟩ := look_val (e3.up s2) e2 hd'
          exact ⟨pp, v, rfl, by rw [← hv]; exact DGet.k (k := .inr z) g2, post v F2 H2 (s1.trans s2) ok5 rv⟩
end
end DL
set_option Elab.async false
set_option linter.all false
set_option maxRecDepth 100000
set_option maxHeartbeats 4000001
/-! DLZM: lists and tuples as what a zip draws from: all by the library's Draws and Begins. -/
namespace DL
open PySem PySem.Calls
      PyProof.Rows PySem.Spec
/-- a list, a tuple -/
inductive SK where
  | L | T
def SK.it : SK → String
  | .L => "list_iterator"
  | .T => "tuple_iterator"
def SqI (k : SK) (h : Heap) (l : Addr) (xs : Array Value) : Prop := match k with
  | .L => h.IsList l xs
  | .T => h.IsTuple l xs
def ItI (k : SK) (h : Heap) (it l : Addr) (i : Nat) : Prop := match k with
  | .L => h.IsListIter it l i
  | .T => h.IsTupleIter it l i
theorem SqI.lt {k : SK} {h : Heap} {a : Addr} {xs : Array Value} (x : SqI k h a xs) : a < h.objs.size := by
  cases k <;> exact let ⟨_, e, _⟩ := x; Heap.lt_size e
theorem SqI.of {k : SK} {h h' : Heap} {a : Addr} {xs : Array Value} (x : SqI k h a xs) (f : ∀ o, h.get? a = some o → h'.get? a = some o) : SqI k h' a xs := by
  cases k <;> exact let ⟨o, e, r⟩ := x; ⟨o, f o e, r⟩
theorem ItI.obj {k : SK} {h : Heap} {a l : Addr} {i : Nat} (x : ItI k h a l i) : ∃ o, h.get? a = some o ∧ o.cls = .type k.it ∧ o.data = .fields #[.ref l, .int i 0] := by
  cases k <;> exact x
theorem ItI.lt {k : SK} {h : Heap} {a l : Addr} {i : Nat} (x : ItI k h a l i) : a < h.objs.size := by
  obtain ⟨_, e, _⟩ := x.obj
  exact Heap.lt_size e
theorem ItI.of {k : SK} {h : Heap} {a l : Addr} {i : Nat} (x : ∃ o, h.get? a = some o ∧ o.cls = .type k.it ∧ o.data = .fields #[.ref l, .int i 0]) : ItI k h a l i := by
  cases k <;> exact x
theorem ItI.at {k : SK} {h h' : Heap} {a l : Addr} {i : Nat} (x : ItI k h a l i) (f : ∀ o, h.get? a = some o → h'.get? a = some o) : ItI k h' a l i := by
  obtain ⟨o, e, r⟩ := x.obj
  exact .of ⟨o, f o e, r⟩
/-- an iterator is no list and no tuple -/
theorem ItI.apart {k q : SK} {h : Heap} {a l m : Addr} {i : Nat} {xs : Array Value} (x : ItI k h a l i) (y : SqI q h m xs) : m ≠ a := by
  rintro rfl
  obtain ⟨o, e, _, d⟩ := x.obj
  have no : ∀ {ys : Array Value} {n : Nat}, o.data = .seq ys n → False := fun z => nomatch z.symm.trans d
  cases q <;>
    (obtain ⟨o', e', r⟩ := y
     obtain rfl := Option.some.inj (e.symm.trans e')
     obtain ⟨_, _, z⟩ := r
     exact no z)
theorem begins_of (k : SK) (l : Addr) (xs : Array Value) : Begins (.ref l) { cls := .type k.it, data := .fields #[.ref l, .int 0 0] } fun h => SqI k h l xs := by
  cases k with
  | L => exact begins_list l xs
  | T => exact begins_tuple l xs
section
variable {prog : Program}
      {w : World} {A : Around}
theorem draws_of (k : SK) (hh : A.handled = none) {it l : Addr} (ne : l ≠ it) (xs : Array Value) : Draws prog w A it [it, l] xs.size (fun i v => xs[i]? = some v) fun i h => ItI k h it l i ∧ SqI k h l xs := by
  cases k with
  | L => exact Draws.list hh it l ne xs
  | T => exact Draws.tuple hh it l ne xs
/-- where it stands, and it may stand behind the end: what is still drawn -/
theorem draws_at {k : SK} (hh : A.handled = none) {it l : Addr} {i : Nat} {xs : Array Value} {h : Heap} (p : ItI k h it l i) (q : SqI k h l xs) :
    ∃ (n : Nat) (P : Nat → Value → Prop) (St : Nat → Heap → Prop), Draws prog w A it [it, l] n P St ∧ St i h ∧ i ≤ n ∧ (xs.size ≤ i → i = n) := by
  rcases Nat.lt_or_ge i xs.size with lt | ge
  · exact ⟨_, _, _, draws_of k hh (p.apart q) xs, ⟨p, q⟩, Nat.le_of_lt lt, fun z => absurd lt (Nat.not_lt.mpr z)⟩
  · refine ⟨i, fun _ _ => True, fun j h => j = i ∧ ItI k h it l i ∧ SqI k h l xs, ⟨?_, ?_, ?_, ?_⟩, ⟨rfl, p, q⟩, Nat.le_refl _, fun _ => rfl⟩
    · rintro _ _ ⟨_, a, _⟩
      obtain ⟨o, e, _⟩ := a.obj
      exact ⟨o, e⟩
    · rintro _ _ _ ⟨ej, a, b⟩ same
      exact ⟨ej, a.at fun o e => same it (by simp) o e, b.of fun o e => same l (by simp) o e⟩
    · intro j _ _ _ lt st
      exact absurd st.1 (Nat.ne_of_lt lt)
    · intro s Q E st out
      have none_ : xs[i]? = none := Array.getElem?_eq_none ge
      obtain ⟨_, a, b⟩ := st
      cases k with
      | L => exact wpAny_nextOf_list_end hh a b none_ out
      | T => exact wpAny_nextOf_tuple_end hh a b none_ out
end
end DL
set_option Elab.async false
set_option linter.all false
set_option maxRecDepth 100000
set_option
      maxHeartbeats 4000000
/-! DLZN: for a, b in zip(s, t): each a list or a tuple. -/
namespace DL
open PySem PySem.Spec PyProof.Rows L2 RZ StX
def SqV (k : SK) (K : PySem.W.Frag) (H : Hp) (a : Addr) (xs : List V) : Prop := match k with
  | .L => SqL K H a xs
  | .T => SqT K H a xs
section
variable {X : Cx} {pins : List (Addr × Obj)}
      {σ : L2.St} {H : Hp} {s : Shared}
theorem seq_at {k : SK} {a : Addr} {xs : List V} (I : Inv X pins σ H s) (h : SqV k X.K H a xs) : ∃ its : List Value, Vals xs its ∧ SqI k s.heap a its.toArray := by
  cases k with
  | L => exact let ⟨its, rv, p, _⟩ := I.list h; ⟨its, rv, p.isList⟩
  | T => exact let ⟨its, rv, p, _⟩ := I.tuple h; ⟨its, rv, p⟩
theorem seq_inj {k : SK} {a : Addr} {xs ys : List V} (I : Inv X pins σ H s) (h : SqV k X.K H a xs) (h' : SqV k X.K H a ys) : xs = ys := by
  cases k with
  | L => exact I.list_inj h h'
  | T => exact I.tuple_inj h h'
end
/-- pairs of what stands at i in both -/
def ItzM (q1 q2 : SK) (K : PySem.W.Frag) (a b : Addr) : It where
  go := fun i H => ∃ (xs ys : List V) (x y : V), SqV q1 K H a xs ∧ SqV q2 K H b ys ∧ xs[i]? = some x ∧ ys[i]? = some y
  yld := fun i H v H' => ∃ T x y, v = .ref T ∧ H T = none ∧ H' = upd H T (.tup [x, y]) ∧ (∀ xs, SqV q1 K H a xs → xs[i]? = some x) ∧ ∀ ys, SqV q2 K H b ys → ys[i]? = some y
  stop := fun i H => ∃ xs ys : List V, SqV q1 K H a xs ∧ SqV q2 K H b ys ∧ (xs.length ≤ i ∨ ys.length ≤ i)
/-- the five things of a zip, i pairs given out -/
structure Zw (q1 q2 : SK) (a b z TI TO i1 i2 : Addr) (i : Nat) (h : Heap) : Prop where
  zip : IsZip h z TI TO .none
  its : IsTupOf2 h TI (.ref i1) (.ref i2)
  out : ∃ x y, IsTupOf2 h TO x y
  one : ItI q1 h i1 a i
  two : ItI q2 h i2 b i
section
variable {q1 q2 : SK} {a b z TI TO i1 i2 : Addr} {i : Nat} {h h' : Heap}
theorem Zw.stays (k : Zw q1 q2 a b z TI TO i1 i2 i h) (f : ∀ c ∈ [z, TI, TO, i1, i2], ∀ o, h.get? c = some o → h'.get? c = some o) : Zw q1 q2 a b z TI TO i1 i2 i h' := by
  obtain ⟨x, y, e⟩ := k.out
  exact ⟨f z (by simp) _ k.zip, f TI (by simp) _ k.its, ⟨x, y, f TO (by simp) _ e⟩, k.one.at (f i1 (by simp)), k.two.at (f i2 (by simp))⟩
theorem Zw.plain (k : Zw q1 q2 a b z TI TO i1 i2 i h) : ∀ c ∈ [z, TI, TO, i1, i2], ∃ o, h.get? c = some o ∧ ∀ v, o.data ≠ .cell v := by
  obtain ⟨x, y, e⟩ := k.out
  obtain ⟨o1, g1, _, d1⟩ := k.one.obj
  obtain ⟨o2, g2, _, d2⟩ := k.two.obj
  have no : ∀ {d : Data} {vs : Array Value}, d = .fields vs → ∀ v, d ≠ .cell v := fun z v z' => nomatch z'.symm.trans z
  intro c hc
  simp only [List.mem_cons, List.not_mem_nil, or_false] at hc
  rcases hc with rfl | rfl | rfl | rfl | rfl
  · exact ⟨_, k.zip, no rfl⟩
  · exact ⟨_, k.its, fun v => Data.noConfusion⟩
  · exact ⟨_, e, fun v => Data.noConfusion⟩
  · exact ⟨o1, g1, no d1⟩
  · exact ⟨o2, g2, no d2⟩
theorem Zw.lt (k : Zw q1 q2 a b z TI TO i1 i2 i h) : ∀ c ∈ [z, TI, TO, i1, i2], c < h.objs.size := fun c hc => by
  obtain ⟨_, e, _⟩ := k.plain c hc
  exact Heap.lt_size e
end
theorem turn_zm {q1 q2 : SK} {P : Program} {w : World} {K : PySem.W.Frag} {elts : List Expr} {kk : Nat} {tpos : Pos} {a b z TI TO i1 i2 : Addr} (D : ZipSep2 z TI TO i1 i2 [i1, a] [i2, b]) :
    Turn P w K (.Tuple elts kk tpos) (ItzM q1 q2 K a b) [z, TI, TO, i1, i2] z (Zw q1 q2 a b z TI TO i1 i2) where
  mem := List.mem_cons_self
  obj := fun _ _ k => k.plain
  keep := fun _ _ _ k f => k.stays f
  self := fun _ _ _ _ _ k q => wpAny_pyIter_zip k.zip q
  done := by
    rintro X rfl rfl rfl calm i pins s σ H E I fp k ⟨xs, ys, ha, hb, end_⟩
    obtain ⟨x0, y0, out⟩ := k.out
    obtain ⟨us, ru, pu⟩ := seq_at I ha
    obtain ⟨vs, rv, pv⟩ := seq_at I hb
    have lu := ru.length
    have lv := rv.length
    obtain ⟨n1, P1, S1, D1, s1, le1, e1⟩ := draws_at (prog := X.prog) (w := X.w) (A := X.A.in1) (I.ok.hd calm) k.one pu
    obtain ⟨n2, P2, S2, D2, s2, le2, e2⟩ := draws_at (prog := X.prog) (w := X.w) (A := X.A.in1) (I.ok.hd calm) k.two pv
    have over : i = n1 ∨ i = n2 := by
      rcases end_ with z | z
      · exact .inl (e1 (by simpa using (by omega : us.length ≤ i)))
      · exact .inr (e2 (by simpa using (by omega : vs.length ≤ i)))
    refine wpAny_pyNext_zipD2_end D D1 D2 k.zip k.its out s1 s2 le1 le2 over fun h' tk same => ⟨rfl, ?_⟩
    refine I.turnedL (t' := tk) (ch := [z, TI, TO, i1, i2]) (fun c o nc e => ?_) fp
    simp only [List.mem_cons, List.not_mem_nil, or_false, not_or] at nc
    exact same c o nc.1 nc.2.2.1 nc.2.2.2.1 nc.2.2.2.2 e
  item := by
    rintro X rfl rfl rfl calm i pins s σ H E I fp k ⟨xs, ys, x, y, ha, hb, hx, hy⟩
    obtain ⟨x0, y0, out⟩ := k.out
    obtain ⟨us, ru, pu⟩ := seq_at I ha
    obtain ⟨vs, rv, pv⟩ := seq_at I hb
    obtain ⟨u, hu, xu⟩ := ru.get hx
    obtain ⟨v, hv, yv⟩ := rv.get hy
    have gu : us.toArray[i]? = some u := by rw [List.getElem?_toArray, hu]
    have gv : vs.toArray[i]? = some v := by rw [List.getElem?_toArray, hv]
    let N := s.heap.objs.size
    have below := k.lt
    refine wpAny_pyNext_zipD2_item D (draws_of (prog := X.prog) (w := X.w) (A := X.A.in1) q1 (I.ok.hd calm) (k.one.apart pu) us.toArray) (draws_of (prog := X.prog) (w := X.w) (A := X.A.in1) q2 (I.ok.hd calm) (k.two.apart pv) vs.toArray)
      k.zip k.its out ⟨k.one, pu⟩ ⟨k.two, pv⟩ (Array.getElem?_eq_some_iff.mp gu).1 (Array.getElem?_eq_some_iff.mp gv).1 ?_
    intro u' v' h1 tk eu ev z1 out1 o1 o2 laid _ rest
    obtain rfl : u' = u := Option.some.inj ((show us.toArray[i]? = some u' from eu).symm.trans gu)
    obtain rfl : v' = v := Option.some.inj ((show vs.toArray[i]? = some v' from ev).symm.trans gv)
    refine ⟨_, rfl, wpAny_letOwnedTupleGo_zip (s := { s with heap := h1, toks := tk }) z1 ?_⟩
    intro h2 z2 same
    have zN : N ≠ z := Nat.ne_of_gt (below z (by simp))
    have pairAt : h2.get? N = some { cls := .type "tuple", data := .seq #[u', v'] } := (same.2 N zN).trans laid
    have pairOk : ObjOk X.prog X.w (upd H N (.tup [x, y])) h2 N (.tup [x, y]) := by
      refine ⟨show 2 ≤ sizeLine from by decide, [u', v'], .cons xu (.cons yv .nil), _, pairAt, rfl, _, rfl⟩
    have keeps : ∀ c o, c ∉ [z, TI, TO, i1, i2] → s.heap.get? c = some o → h2.get? c = some o := fun c o nc e => by
      simp only [List.mem_cons, List.not_mem_nil, or_false, not_or] at nc
      exact (same.2 c nc.1).trans (rest c o nc.1 nc.2.2.1 nc.2.2.2.1 nc.2.2.2.2 e)
    have I2 : Inv X pins σ (upd H N (.tup [x, y])) { s with heap := h2, toks := tk } := I.turnedNew (ch := [z, TI, TO, i1, i2]) keeps fp (Nat.le_refl _) pairOk
    have st2 : Zw q1 q2 a b z TI TO i1 i2 (i + 1) h2 := by
      refine ⟨z2, (same.2 TI D.TIz).trans (rest TI _ D.TIz D.TITO D.TIi1 D.TIi2 k.its), ⟨u', v', (same.2 TO D.TOz).trans out1⟩, o1.1.at fun o e => ?_, o2.1.at fun o e => ?_⟩
      · exact (same.2 i1 D.zi1.symm).trans e
      · exact (same.2 i2 D.zi2.symm).trans e
    refine ⟨.ref N, _, I2, rfl, ⟨N, x, y, rfl, I.hok.fresh (Nat.le_refl _), rfl, fun l hl => (seq_inj I ha hl) ▸ hx, fun l hl => (seq_inj I hb hl) ▸ hy⟩, st2, fun c hc => ?_⟩
    rw [upd_ne (Nat.ne_of_lt (below c hc))]
    exact (fp c hc).1
def iZipM (K : PySem.W.Frag) (ta : TA) : TI := fun σ H R => ta σ H fun vs H1 => ∃ q1 q2 a b xs ys, vs = [V.ref a, V.ref b] ∧ SqV q1 K H1 a xs ∧ SqV q2 K H1 b ys ∧ R (ItzM q1 q2 K a b) H1
theorem pi_zipM {X : Cx} {e e2 : Expr} {ta : TA} {p pos tpos : Pos} {elts : List Expr} {kk : Nat} (hg : Gl X "zip") (hm : X.mg "zip" = none) (ha : PA X [e, e2] ta)
    (hs : starEach [e, e2] X.env = (false, eval e X.env) :: starEach [e2] X.env :=
          by rfl) (hpl : (backTo pos (starEach [e2] X.env)).any (·.1) = false := by rfl) :
    PI X (.Tuple elts kk tpos) (.Call (.Name "zip" p) [e, e2] [] pos) (iZipM X.K ta) where
  run := by
    intro pins s σ H R I want
    refine Call_ (ld_blt I hg hm PyProof.Rows.boot_zip (PyProof.Rows.callWith_type1 (thn (ha.run pos pins s σ H _ I want) ?_) hs hpl))
    rintro us s1 ⟨vs, H1, I1, rel, q1, q2, a, b, xs, ys, rfl, sa, sb, go⟩
    obtain _ | ⟨ra, _ | ⟨rb, _ | _⟩⟩ := rel
    cases ra
    cases rb
    obtain ⟨u1, _, p1⟩ := seq_at I1 sa
    obtain ⟨u2, _, p2⟩ := seq_at I1 sb
    have sep := zip_sep2 (N := s1.heap.objs.size) (fp1 := [a]) (fp2 := [b]) (fun c hc => by obtain rfl := List.mem_singleton.mp hc; exact p1.lt) (fun c hc => by obtain rfl := List.mem_singleton.mp hc; exact p2.lt)
    refine zip_begins2 (begins_of q1 a u1.toArray) (begins_of q2 b u2.toArray) p1 p2 fun h' z its out o1 o2 _ same => wpAny_pyIter_zip z ?_
    refine ⟨_, _, _, _, H1, rfl, I1.kept (t' := s1.toks) same, turn_zm (q1 := q1) (q2 := q2) sep, ⟨z, its, ⟨_, _, out⟩, .of ⟨_, o1, rfl, rfl⟩, .of ⟨_, o2, rfl, rfl⟩⟩, fun c hc => ?_, go⟩
    have up : s1.heap.objs.size ≤ c := by
      simp only [List.mem_cons, List.not_mem_nil, or_false] at hc
      rcases hc with rfl | rfl | rfl | rfl | rfl
      · exact Nat.le_add_right _ 4
      · exact Nat.le_add_right _ 2
      · exact Nat.le_add_right _ 3
      · exact Nat.le_refl _
      · exact Nat.le_add_right _ 1
    exact I1.fpOk up (I1.hok.fresh up)
section
variable {X : Cx} {Kf : PySem.W.Frag} {B : Bs} {W : WX} {n : Nat} {a b : Expr} {pos p tpos : Pos} {ts : TA} {ms : M (List D)}
def seqOf : D → Option (List D)
  | .lst xs => some xs
  | .tup xs => some xs
  | _ => none
def zipMD : List D → Option (List D)
  | [x, y] => (seqOf x).bind fun xs => (seqOf y).map fun ys => (xs.zip ys).map fun p => .pr p.1 p.2
  | _ => none
theorem seqOf_at {K : PySem.W.Frag} {F : Hp} {v : V} {d : D} {xs : List D} (h : seqOf d = some xs) (r : Rp K F v d) : ∃ k a vs, v = .ref a ∧ (∀ F' : Hp, Sub F F' → SqV k K F' a vs) ∧ RpAll K F vs xs := by
  cases r with
  | lst h1 r1 =>
    cases h
    exact ⟨.L, _, _, rfl, fun F' s => SqL.of (s _ _ h1), r1⟩
  | tup h1 r1 =>
    cases h
    exact ⟨.T, _, _, rfl, fun F' s => (s.sqP h1).sqT, r1⟩
  | _ => cases h
theorem walk_zm {F : Hp} {k1 k2 : SK} {a b : Addr} {vs us : List V} {xs ys : List D} (h : ∀ F' : Hp, Sub F F' → SqV k1 B.K F' a vs) (r : RpAll B.K F vs xs) (h' : ∀ F' : Hp, Sub F F' → SqV k2 B.K F' b us) (r' : RpAll B.K F us ys) : Walk B F (ItzM k1 k2 B.K a b) ((xs.zip ys).map fun p => .pr p.1 p.2) := fun i F1 ρ w σ H s B' hK ok => by
  have hq := h H (s.trans ok.sub)
  have hq' := h' H (s.trans ok.sub)
  refine ⟨fun hi => ⟨vs, us, hq, hq', ?_⟩, fun d hd => ?_⟩
  · rw [r.length, r'.length]
    rw [List.length_map, List.length_zip] at hi
    omega
  · obtain ⟨u, v, h1, h2, e⟩ := zip_get hd
    subst e
    obtain ⟨x1, g1, g2⟩ := r.get h1
    obtain ⟨x2, g3, g4⟩ := r'.get h2
    refine ⟨⟨vs, us, x1, x2, hq, hq', g1, g3⟩, fun x H' y => ?_⟩
    obtain ⟨T, y1, y2, e1, hT, e2, f1, f2⟩ := y
    subst e1
    subst e2
    have q1 := f1 vs hq
    have q2 := f2 us hq'
    rw [g1] at q1
    rw [g3] at q2
    cases q1
    cases q2
    exact ok.pair hK hT (g2.up s) (g4.up s)
theorem si_zipM {elts : List Expr} {kk : Nat} (q : Cq Kf X B W n) (hg : Gl X "zip") (hm : X.mg "zip" = none) (ha : SA X B W [a, b] ts ms) (hs : starEach [a, b] X.env = (false, eval a X.env) :: starEach [b] X.env := by rfl) (hpl : (backTo pos (starEach [b] X.env)).any (·.1) = false := by rfl) :
    SI X B W (.Tuple elts kk tpos) (.Call (.Name "zip" p) [a, b] [] pos) (iZipM Kf ts) (bnd ms fun ds => lft (zipMD ds)) := by
  cases q.hX
  exact ⟨pi_zipM hg hm ha.pa hs hpl, by
    rw [q.hK]
    exact Sim.bnd (R' := Walk B) (k := fun ds => lft (zipMD ds)) (tk := fun vs σ H R => ∃ q1 q2 a b xs ys, vs = [V.ref a, V.ref b] ∧ SqV q1 B.K H a xs ∧ SqV q2 B.K H b ys ∧ R (ItzM q1 q2 B.K a b) H) ha.sim fun d ρ w r hr v F σ H ok rv Q post => by
      obtain ⟨ds, hd, e1⟩ := lft_some hr
      subst e1
      unfold zipMD at hd
      split at hd
      · rename_i x y
        cases hx : seqOf x with
        | none => rw [hx] at hd; cases hd
        | some xs =>
          cases hy : seqOf y with
          | none => rw [hx, hy] at hd; cases hd
          | some ys =>
            rw [hx, hy] at hd
            cases hd
            obtain ⟨u1, u2, e, r1, r2⟩ := rv.two
            subst e
            obtain ⟨k1, a1, vs1, e1, s1, g1⟩ := seqOf_at hx r1
            obtain ⟨k2, a2, vs2, e2, s2, g2⟩ := seqOf_at hy r2
            subst e1
            subst e2
            exact ⟨k1, k2, a1, a2, vs1, vs2, rfl, s1 H ok.sub, s2 H ok.sub, post _ F H (Sub.refl F) ok (walk_zm s1 g1 s2 g2)⟩
      · cases hd⟩
end
end DL
set_option Elab.async false
set_option linter.all false
set_option maxRecDepth 100000
set_option
      maxHeartbeats 4000000
/-! DLIX: index, of a tuple of texts or of a list of data. -/
namespace DL
open PySem PySem.Spec PyProof.Rows L2 RZ StX
def firstEq (z : D) : List D → Option Nat
  | [] => none
  | y :: ys => if deq y z = true then some 0 else (firstEq z ys).map (· + 1)
theorem firstEq_some {z : D} : ∀ {ys : List D} {j : Nat}, firstEq z ys = some j → (∃ y, ys[j]? = some y ∧ deq y z = true) ∧ ∀ m y, m < j → ys[m]? = some y → deq y z = false
  | [], _, h => by cases h
  | y :: ys, j, h => by
    unfold firstEq at h
    split at h
    · rename_i e
      cases h
      exact ⟨⟨y, rfl, e⟩, fun m _ hm => absurd hm (Nat.not_lt_zero m)⟩
    · rename_i e
      cases hj : firstEq z ys with
      | none => rw [hj] at h; cases h
      | some i =>
        rw [hj] at h
        cases h
        obtain ⟨h1, h2⟩ := firstEq_some hj
        refine ⟨h1, fun m y' hm hy => ?_⟩
        cases m with
        | zero =>
          cases hy
          exact Bool.eq_false_iff.mpr e
        | succ m => exact h2 m y' (Nat.lt_of_succ_lt_succ hm) hy
def lixD : D → List D → Option D
  | .lst ys, [z] => if dat 60 z && dats 59 ys then (firstEq z ys).map fun j => .int (j : Nat) else none
  | _, _ => none
def mIx (mo : M D) (ms : M (List D)) : M D := bnd mo fun d => match d with
  | .tup _ => bnd ms fun ds => lft (tixD d ds)
  | .lst _ => bnd ms fun ds => lft (lixD d ds)
  | _ => fun _ _ => none
theorem toPs_get : ∀ {ys : List D} {j : Nat} {y : D}, ys[j]? = some y → (toPs ys)[j]? = some (toP y)
  | [], _, _, h => by simp at h
  | x :: ys, 0, _, h => by cases h; simp [toPs]
  | x :: ys, j + 1, y, h => by
    simp only [toPs, List.getElem?_cons_succ]
    exact toPs_get (ys := ys) (by simpa using h)
theorem toPs_back : ∀ {ys : List D} {j : Nat} {z : PyData}, (toPs ys)[j]? = some z → ∃ y, ys[j]? = some y ∧ z = toP y
  | [], _, _, h => by simp [toPs] at h
  | x :: ys, 0, _, h => by
    simp only [toPs] at h
    cases h
    exact ⟨x, rfl, rfl⟩
  | x :: ys, j + 1, z, h => by
    simp only [toPs, List.getElem?_cons_succ] at h
    obtain ⟨y, h1, h2⟩ := toPs_back (ys := ys) h
    exact ⟨y, by simpa using h1, h2⟩
theorem dats_at : ∀ {n : Nat} {ys : List D} {j : Nat} {y : D}, dats n ys = true → ys[j]? = some y → dat n y = true
  | _, [], _, _, _, h => by simp at h
  | n, x :: ys, 0, _, g, h => by
    cases h
    simp only [dats, Bool.and_eq_true] at g
    exact g.1
  | n, x :: ys, j + 1, y, g, h => by
    simp only [dats, Bool.and_eq_true] at g
    exact dats_at (ys := ys) (j := j) g.2 (by simpa using h)
section
variable {X : Cx} {Kf : PySem.W.Frag} {B : Bs} {W : WX} {n : Nat} {e : Expr} {es : List Expr} {p pos apos : Pos} {ts : TA} {ms : M (List D)} {x : Str}
theorem pe_or {t u : TE} (h : PE X e t) (g : PE X e u) : PE X e (fun σ H Q => t σ H Q ∨ u σ H Q) :=
  ⟨fun pins s σ H Q I z => z.elim (fun z => h.run pins s σ H Q I z) fun z => g.run pins s σ H Q I z⟩
def tIxA (K : PySem.W.Frag) (to : TE) (ts : TA) : TE := fun σ H Q => tTM K (rTix K) to ts σ H Q ∨ tBM K "list" (rIndexD K) to ts σ H Q
theorem sim_ix {to : TE} {mo : M D} (ho : Sim B W (RV B) to mo) (hs : Sim B W (RA B) ts ms) : Sim B W (RV B) (tIxA B.K to ts) (mIx mo ms) := by
  intro ρ w res hres F σ H ok Q q
  unfold mIx bnd at hres
  cases hm : mo ρ w with
  | none => rw [hm] at hres; cases hres
  | some r1 =>
    rw [hm] at hres
    cases r1 with
    | exc z ρ1 w1 =>
      cases hres
      exact .inl (ho ρ w _ hm F σ H ok _ q)
    | ok d ρ1 w1 =>
      dsimp only at hres
      cases d with
      | tup ds =>
        refine .inl (sim_tix ho hs ρ w res ?_ F σ H ok Q q)
        unfold mTM bnd
        rw [hm]
        exact hres
      | lst ds =>
        refine .inr (ho ρ w _ hm F σ H ok _ fun v F1 H1 s1 ok1 rv => ?_)
        cases rv with
        | lst h1 r1 =>
          refine ⟨.inl ⟨rfl, _, SqL.of (ok1.sub _ _ h1)⟩, ?_⟩
          dsimp only at hres
          cases hm2 : ms ρ1 w1 with
          | none => rw [hm2] at hres; cases hres
          | some r2 =>
            rw [hm2] at hres
            refine hs ρ1 w1 r2 hm2 F1 σ H1 ok1 _ ?_
            cases r2 with
            | exc z ρ2 w2 =>
              cases hres
              exact fun d F2 H2 s2 ok2 hx => q d F2 H2 (s1.trans s2) ok2 hx
            | ok es ρ2 w2 =>
              intro us F2 H2 s2 ok2 rus
              obtain ⟨zd, hz, e3⟩ := lft_some hres
              subst e3
              unfold lixD at hz
              split at hz
              · rename_i ys z ed
                cases ed
                split at hz
                · rename_i hc
                  rw [Bool.and_eq_true] at hc
                  cases hj : firstEq z ds with
                  | none => rw [hj] at hz; cases hz
                  | some j =>
                    rw [hj] at hz
                    cases hz
                    obtain ⟨u, eu, ru⟩ := rus.one
                    subst eu
                    obtain ⟨⟨y, g1, g2⟩, g3⟩ := firstEq_some hj
                    obtain ⟨p1, q1⟩ := rp_shaped ok2.sub (d := .lst ds) (by simpa [dat] using hc.2) (.lst (s2 _ _ h1) (r1.up s2))
                    obtain ⟨p2, q2⟩ := rp_shaped ok2.sub hc.1 ru
                    have dy : dat 60 y = true := datU' (dats_at hc.2 g1)
                    refine ⟨_, u, toP z, toPs ds, j, toP y, rfl, rfl, by simpa [toP] using p1, p2, by simpa [toP] using q1, q2, toPs_get g1, by rw [deq_eqv 60 y z dy hc.1]; exact g2, fun m z' hm hz' => ?_, q _ F2 H2 (s1.trans s2) ok2 (.int _)⟩
                    obtain ⟨y', k1, k2⟩ := toPs_back hz'
                    subst k2
                    rw [deq_eqv 60 y' z (datU' (dats_at hc.2 k1)) hc.1]
                    exact g3 m y' hm k1
                · cases hz
              · cases hz
      | _ => cases hres
where
  datU' {d : D} (h : dat 59 d = true) : dat 60 d = true := mem_any.dat_up 59 d h
theorem se_ixm {o : Expr} {to : TE} {mo : M D} (q : Cq Kf X B W n) (ho : SE X B W o to mo) (ha : SA X B W [e] ts ms) (hbase : attributeBase o "index" X.env (eval o X.env) = eval o X.env := by rfl)
    (hfew : ((backTo pos (starEach [e] X.env)).all (fun x => !x.1) && (backToKw pos (keywordEach [] X.env)).all (fun x => x.1.isSome) && decide ([e].length + ([] : List Keyword).length + (if ([] : List Keyword).isEmpty then 0 else 1) < 30)) = true := by rfl)
    (hline : (apos.endLine == pos.line) = true := by rfl) (hs : starEach [e] X.env = (false, eval e X.env) :: starEach [] X.env := by rfl) (hpl : (backTo pos (starEach [] X.env)).any (·.1) = false := by rfl) : SE X B W (.Call (.Attribute o "index" apos) [e] [] pos) (tIxA Kf to ts) (mIx mo ms) := by
  have u := q.u65
  cases q.hX
  exact ⟨pe_or (pe_tm PySem.F.slot_tuple_index PySem.F.type_tuple_index mt_tix ho.pe ha.pa hbase hfew hline hs hpl) (pe_bm PySem.F.plainAttrs_list PySem.F.slot_list_index PySem.F.type_list_index (mt_indexD u) ho.pe ha.pa hbase hfew hline hs hpl), by rw [q.hK]; exact sim_ix ho.sim ha.sim⟩
end
end DL
set_option Elab.async false
set_option linter.all false
set_option maxRecDepth 100000
set_option
      maxHeartbeats 4000000
namespace KX
open PySem PySem.Spec PyProof.Rows L2 RZ StX DL
def topS (i : Nat) : Stmt := PySem.Challenge.pw_tickworks_k18_standings_by_table.main.body.getD i (.Pass ⟨0, 0, 0, 0⟩)
abbrev s_count_of : Stmt := topS 1
abbrev s_place_in : Stmt := topS 2
abbrev s_truth : Stmt := topS 4
abbrev s_compared : Stmt := topS 5
abbrev s_joined_truths : Stmt := topS 6
abbrev s_op_value : Stmt := topS 7
abbrev s_table_value : Stmt := topS 8
abbrev s_value_by : Stmt := topS 9
abbrev s_parts_of : Stmt := topS 13
abbrev s_operands : Stmt := topS 14
abbrev s_operands_of : Stmt := topS 20
abbrev s_is_here : Stmt := topS 21
abbrev s_do_part : Stmt := topS 22
abbrev s_of_const : Stmt := topS 23
abbrev s_of_held : Stmt := topS 24
abbrev s_of_values : Stmt := topS 25
abbrev s_of_arg : Stmt := topS 26
abbrev s_of_when : Stmt := topS 27
abbrev s_of_choose : Stmt := topS 28
abbrev s_of_as : Stmt := topS 29
abbrev s_standing_of : Stmt := topS 31
abbrev s__law_open_cells : Stmt := topS 33
abbrev s__law_pick : Stmt := topS 34
abbrev s__law_draw_type : Stmt := topS 35
abbrev s__law_values : Stmt := topS 36
abbrev s__law_draw_value : Stmt := topS 37
abbrev s__law_draw_right : Stmt := topS 38
abbrev s__law_operands : Stmt := topS 39
abbrev s__law_draw_standing : Stmt := topS 40
abbrev s__law_is_there : Stmt := topS 41
abbrev s__law_chosen : Stmt := topS 42
abbrev s__law_op_value : Stmt := topS 43
abbrev s__law_row_number : Stmt := topS 44
abbrev s__law_standing : Stmt := topS 45
abbrev s_law : Stmt := topS 46
/-! ### the defs -/
inductive Fn where
  | f_count_of | f_place_in | f_truth | f_compared | f_joined_truths | f_op_value | f_table_value | f_value_by | f_parts_of | f_operands | f_operands_of | f_is_here | f_do_part | f_of_const | f_of_held | f_of_values | f_of_arg | f_of_when | f_of_choose | f_of_as | f_standing_of | f__law_pick | f__law_draw_type | f__law_values | f__law_draw_value | f__law_draw_right | f__law_operands | f__law_draw_standing | f__law_is_there | f__law_chosen | f__law_op_value | f__law_row_number | f__law_standing
def N_count_of : List Str := ["kind"]
def N_place_in : List Str := ["kind", "value"]
def N_truth : List Str := ["holds"]
def N_compared : List Str := ["word", "kind", "one", "other"]
def N_joined_truths : List Str := ["word", "one", "other"]
def N_op_value : List Str := ["word", "kinds", "values", "one", "other"]
def N_table_value : List Str := ["results", "kinds", "values", "place", "kind", "value"]
def N_value_by : List Str := ["right", "kinds", "values"]
def N_parts_of : List Str := ["right", "word", "shape"]
def N_operands : List Str := ["right", "found", "role", "part"]
def N_operands_of : List Str := ["right"]
def N_is_here : List Str := ["standing"]
def N_do_part : List Str := ["standings", "standing"]
def N_of_const : List Str := ["right", "kinds", "standings", "memory", "like"]
def N_of_held : List Str := ["right", "kinds", "standings", "memory", "like"]
def N_of_values : List Str := ["right", "kinds", "standings", "memory", "standing", "_", "value"]
def N_of_arg : List Str := ["right", "kinds", "standings", "memory", "own", "standing"]
def N_of_when : List Str := ["right", "kinds", "standings", "memory", "stream", "cond"]
def N_of_choose : List Str := ["right", "kinds", "standings", "memory", "cond", "branches", "place", "chosen", "others", "standing"]
def N_of_as : List Str := ["right", "kinds", "standings", "memory"]
def N_standing_of : List Str := ["right", "kinds", "standings", "memory", "rule"]
def N__law_pick : List Str := ["_law_source", "_law_most", "_law_cells", "_law_left", "_law_turn", "_law_mixed"]
def N__law_draw_type : List Str := ["_law_source", "_law_some"]
def N__law_values : List Str := ["_law_type_here", "_law_found", "_law_others", "_law_v", "_law_u"]
def N__law_draw_value : List Str := ["_law_source", "_law_type_here", "_law_some"]
def N__law_draw_right : List Str := ["_law_source", "_law_yes_no", "_law_wide", "_law_one", "_law_other", "_law_both", "_law_road", "_law_rows", "_law_word", "_law_kinds", "_law_number", "_law_kind", "_law_times", "_law_results", "_law_lap"]
def N__law_operands : List Str := ["_law_right"]
def N__law_draw_standing : List Str := ["_law_source", "_law_type_here", "_law_road"]
def N__law_is_there : List Str := ["_law_one"]
def N__law_chosen : List Str := ["_law_some", "_law_words", "_law_cond", "_law_branches", "_law_place", "_law_others", "_law_is_odd", "_law_one"]
def N__law_op_value : List Str := ["_law_word", "_law_kinds", "_law_some", "_law_one", "_law_other", "_law_is_so"]
def N__law_row_number : List Str := ["_law_some_values", "_law_types", "_law_number", "_law_v", "_law_type_here", "_law_some"]
def N__law_standing : List Str := ["_law_right", "_law_some", "_law_memory", "_law_types", "_law_known", "_law_is_op", "_law_one"]
def N_law : List Str := ["_law_script", "_law_source", "_law_turn", "_law_right", "_law_kinds", "_law_names", "_law_some", "_law_memory", "_law_before", "_law_due", "_law_kind"]
def N__law_open_cells : List Str := ["_law_script", "_law_mixed", "_law_cell", "_law_cells"]
/-! ### constants -/
def c_ABSENT : D := .tup [.str "absent"]
def c_ADDED_SHAPES : List (Str × Option D) := [("input", some (.tup [.str "kind"])), ("arg", some (.tup [.str "streams", .str "place"])), ("as", some (.tup [.str "stream"])), ("const", none), ("held", none), ("op", none), ("table", none), ("when", none), ("choose", none), ("call", none)]
def c_CLASH : D := .tup [.str "clash"]
def c_RULES : List (Str × Option D) := [("const", some (.fn "of_const")), ("held", some (.fn "of_held")), ("op", some (.fn "of_values")), ("table", some (.fn "of_values")), ("arg", some (.fn "of_arg")), ("when", some (.fn "of_when")), ("choose", some (.fn "of_choose")), ("as", some (.fn "of_as")), ("input", none), ("call", none)]
def c_SHAPES : List (Str × Option D) := [("const", some (.tup [.str "kind", .str "value", .str "stream"])), ("op", some (.tup [.str "op", .str "streams"])), ("table", some (.tup [.str "kind", .str "results", .str "streams"])), ("held", some (.tup [.str "kind", .str "value", .str "stream", .str "stream"])), ("when", some (.tup [.str "stream", .str "stream", .str "word"])), ("choose", some (.tup [.str "stream", .str "streams"])), ("call", some (.tup [.str "word", .str "streams", .str "again"])), ("input", none), ("arg", none), ("as", none)]
def c_THERE : D := .tup [.str "there"]
def c_UNKNOWN : D := .tup [.str "unknown"]
/-! ### terms -/
abbrev tb_ (G : Fn → Fn1) : Tb := [("of_const", 4, G .f_of_const), ("of_held", 4, G .f_of_held), ("of_values", 4, G .f_of_values), ("of_arg", 4, G .f_of_arg), ("of_when", 4, G .f_of_when), ("of_choose", 4, G .f_of_choose), ("of_as", 4, G .f_of_as)]
def m_count_of (G : Fn → Fn1) : M Fl := (mSeq (mIte (mBinT eqD (mBin ixD (getS 0) (ret (.int 0))) (ret (.str "pair"))) (mRet (mBin mulD (mCall 1 (G .f_count_of) (mCons (mBin ixD (getS 0) (ret (.int 1))) mNil)) (mCall 1 (G .f_count_of) (mCons (mBin ixD (getS 0) (ret (.int 2))) mNil)))) (ret .nx)) (mSeq (mIte (mBinT eqD (mBin ixD (getS 0) (ret (.int 0))) (ret (.str "lot"))) (mRet (bnd (mCons (mBin ixD (getS 0) (ret (.int 1))) mNil) fun ds => lft (lenD ds))) (ret .nx)) (mRet (mBin ixD (getS 0) (ret (.int 1))))))
def m_place_in (G : Fn → Fn1) : M Fl := (mSeq (mIte (mBinT eqD (mBin ixD (getS 0) (ret (.int 0))) (ret (.str "pair"))) (mRet (mBin addD (mBin mulD (mCall 2 (G .f_place_in) (mCons (mBin ixD (getS 0) (ret (.int 1))) (mCons (mBin ixD (getS 1) (ret (.int 0))) mNil))) (mCall 1 (G .f_count_of) (mCons (mBin ixD (getS 0) (ret (.int 2))) mNil))) (mCall 2 (G .f_place_in) (mCons (mBin ixD (getS 0) (ret (.int 2))) (mCons (mBin ixD (getS 1) (ret (.int 1))) mNil))))) (ret .nx)) (mSeq (mIte (mBinT eqD (mBin ixD (getS 0) (ret (.int 0))) (ret (.str "lot"))) (mRet (mIx (mBin ixD (getS 0) (ret (.int 1))) (mCons (getS 1) mNil))) (ret .nx)) (mRet (getS 1))))
def m_truth (G : Fn → Fn1) : M Fl := (mRet (mIte (mVal (getS 0)) (ret (.str "yes")) (ret (.str "no"))))
def m_compared (G : Fn → Fn1) : M Fl := (mSeq (mIte (mBinT eqD (getS 0) (ret (.str "same"))) (mRet (mCall 1 (G .f_truth) (mCons (mBin eqD (getS 2) (getS 3)) mNil))) (ret .nx)) (mRet (mCall 1 (G .f_truth) (mCons (mBin ltD (mCall 2 (G .f_place_in) (mCons (getS 1) (mCons (getS 2) mNil))) (mCall 2 (G .f_place_in) (mCons (getS 1) (mCons (getS 3) mNil)))) mNil))))
def m_joined_truths (G : Fn → Fn1) : M Fl := (mSeq (mIte (mBinT eqD (getS 0) (ret (.str "and"))) (mRet (mCall 1 (G .f_truth) (mCons (mAndV (mBin eqD (getS 1) (ret (.str "yes"))) (mBin eqD (getS 2) (ret (.str "yes")))) mNil))) (ret .nx)) (mRet (mCall 1 (G .f_truth) (mCons (mOrV (mBin eqD (getS 1) (ret (.str "yes"))) (mBin eqD (getS 2) (ret (.str "yes")))) mNil))))
def m_op_value (G : Fn → Fn1) : M Fl := (mSeq (mIte (mBinT eqD (getS 0) (ret (.str "not"))) (mRet (mCall 1 (G .f_truth) (mCons (mBin eqD (mBin ixD (getS 2) (ret (.int 0))) (ret (.str "no"))) mNil))) (ret .nx)) (mSeq (mIte (mBinT eqD (getS 0) (ret (.str "first"))) (mRet (mBin ixD (mBin ixD (getS 2) (ret (.int 0))) (ret (.int 0)))) (ret .nx)) (mSeq (mIte (mBinT eqD (getS 0) (ret (.str "second"))) (mRet (mBin ixD (mBin ixD (getS 2) (ret (.int 0))) (ret (.int 1)))) (ret .nx)) (mSeq (mAsg (getS 2) (bTup 2 (bCons (bName 3) (bCons (bName 4) bNil)))) (mSeq (mIte (mBinT eqD (getS 0) (ret (.str "pair"))) (mRet (mTup (mCons (getS 3) (mCons (getS 4) mNil)))) (ret .nx)) (mSeq (mIte (mBinT eqD (getS 0) (ret (.str "plus"))) (mRet (mBin modD (mBin addD (getS 3) (getS 4)) (mBin ixD (mBin ixD (getS 1) (ret (.int 0))) (ret (.int 1))))) (ret .nx)) (mSeq (mIte (mBinT inD (getS 0) (mTup (mCons (ret (.str "and")) (mCons (ret (.str "or")) mNil)))) (mRet (mCall 3 (G .f_joined_truths) (mCons (getS 0) (mCons (getS 3) (mCons (getS 4) mNil))))) (ret .nx)) (mRet (mCall 4 (G .f_compared) (mCons (getS 0) (mCons (mBin ixD (getS 1) (ret (.int 0))) (mCons (getS 3) (mCons (getS 4) mNil)))))))))))))
def m_table_value (G : Fn → Fn1) : M Fl := (mSeq (mSet 3 (ret (.int 0))) (mSeq (mFor (bnd (mCons (getS 1) (mCons (getS 2) mNil)) fun ds => lft (zipMD ds)) (bTup 2 (bCons (bName 4) (bCons (bName 5) bNil))) (mSet 3 (mBin addD (mBin mulD (getS 3) (mCall 1 (G .f_count_of) (mCons (getS 4) mNil))) (mCall 2 (G .f_place_in) (mCons (getS 4) (mCons (getS 5) mNil)))))) (mRet (mBin ixD (getS 0) (getS 3)))))
def m_value_by (G : Fn → Fn1) : M Fl := (mSeq (mIte (mBinT eqD (mBin ixD (getS 0) (ret (.int 0))) (ret (.str "op"))) (mRet (mCall 3 (G .f_op_value) (mCons (mBin ixD (getS 0) (ret (.int 1))) (mCons (getS 1) (mCons (getS 2) mNil))))) (ret .nx)) (mRet (mCall 3 (G .f_table_value) (mCons (mBin ixD (getS 0) (ret (.int 2))) (mCons (getS 1) (mCons (getS 2) mNil))))))
def m_parts_of (G : Fn → Fn1) : M Fl := (mSeq (mSet 1 (mBin ixD (getS 0) (ret (.int 0)))) (mSeq (mSet 2 (mIte (bnd (getS 1) fun d => lft (kdIn false c_SHAPES d)) (bnd (getS 1) fun d => lft (kdGet c_SHAPES d)) (bnd (getS 1) fun d => lft (kdGet c_ADDED_SHAPES d)))) (mRet (mLZip (mCons (getS 2) (mCons (mSl (getS 0) (bnd (ret (.int 1)) (kInt fun i => ret (some i))) (ret none)) mNil))))))
def m_operands (G : Fn → Fn1) : M Fl := (mSeq (bnd (nLst mNil) fun ds => setN 1 ds) (mSeq (mFor (bnd (mCall 1 (G .f_parts_of) (mCons (getS 0) mNil)) fun d => lft (itemsD d)) (bTup 2 (bCons (bName 2) (bCons (bName 3) bNil))) (mIte (mBinT eqD (getS 2) (ret (.str "stream"))) (mDrop (mMeth 1 (mCons (getS 3) mNil) appendD)) (mIte (mBinT eqD (getS 2) (ret (.str "streams"))) (mDrop (mMeth 1 (mCons (getS 3) mNil) extendD)) (mIte (mAnd (mBinT eqD (getS 2) (ret (.str "again"))) (mBinT (isN true) (getS 3) (ret .non))) (mDrop (mMeth 1 (mCons (mBin ixD (getS 3) (ret (.int 0))) mNil) appendD)) (ret .nx))))) (mRet (getS 1))))
def m_operands_of (G : Fn → Fn1) : M Fl := (mRet (bnd (mCons (mCall 1 (G .f_operands) (mCons (getS 0) mNil)) mNil) fun ds => lft (tupleD ds)))
def m_is_here (G : Fn → Fn1) : M Fl := (mRet (mOrV (mBin eqD (getS 0) (ret (c_THERE))) (mBin eqD (mBin ixD (getS 0) (ret (.int 0))) (ret (.str "value")))))
def m_do_part (G : Fn → Fn1) : M Fl := (mRet (mAndV (mBin inD (ret (c_ABSENT)) (getS 0)) (bnd (mCons (mLc [1] (bnd (getS 0) fun d => lft (itemsD d)) (bName 1) (ret true) (mCall 1 (G .f_is_here) (mCons (getS 1) mNil))) mNil) fun ds => lft (anyD ds))))
def m_of_const (G : Fn → Fn1) : M Fl := (mSeq (mSet 4 (mBin ixD (getS 2) (ret (.int 0)))) (mRet (mIte (mVal (mCall 1 (G .f_is_here) (mCons (getS 4) mNil))) (mTup (mCons (ret (.str "value")) (mCons (mBin ixD (getS 0) (ret (.int 2))) mNil))) (getS 4))))
def m_of_held (G : Fn → Fn1) : M Fl := (mSeq (mSet 4 (mBin ixD (getS 2) (ret (.int 1)))) (mSeq (mIte (mVal (mCall 1 (G .f_do_part) (mCons (getS 2) mNil))) (mRet (ret (c_CLASH))) (ret .nx)) (mRet (mIte (mVal (mCall 1 (G .f_is_here) (mCons (getS 4) mNil))) (mTup (mCons (ret (.str "value")) (mCons (getS 3) mNil))) (getS 4)))))
def m_of_values (G : Fn → Fn1) : M Fl := (mSeq (mIte (mVal (mCall 1 (G .f_do_part) (mCons (getS 2) mNil))) (mRet (ret (c_CLASH))) (ret .nx)) (mSeq (mIte (mBinT inD (ret (c_ABSENT)) (getS 2)) (mRet (ret (c_ABSENT))) (ret .nx)) (mSeq (mIte (mVal (bnd (mCons (mLc [4] (bnd (getS 2) fun d => lft (itemsD d)) (bName 4) (ret true) (mBin eqD (mBin ixD (getS 4) (ret (.int 0))) (ret (.str "value")))) mNil) fun ds => lft (allD ds))) (mRet (mTup (mCons (ret (.str "value")) (mCons (mCall 3 (G .f_value_by) (mCons (getS 0) (mCons (getS 1) (mCons (mLc [5, 6] (bnd (getS 2) fun d => lft (itemsD d)) (bTup 2 (bCons (bName 5) (bCons (bName 6) bNil))) (ret true) (getS 6)) mNil)))) mNil)))) (ret .nx)) (mSeq (mIte (mVal (bnd (mCons (mLc [4] (bnd (getS 2) fun d => lft (itemsD d)) (bName 4) (ret true) (mCall 1 (G .f_is_here) (mCons (getS 4) mNil))) mNil) fun ds => lft (anyD ds))) (mRet (ret (c_THERE))) (ret .nx)) (mRet (ret (c_UNKNOWN)))))))
def m_of_arg (G : Fn → Fn1) : M Fl := (mSeq (mSet 4 (mBin ixD (getS 2) (mBin ixD (getS 0) (ret (.int 2))))) (mSeq (mIte (mVal (mCall 1 (G .f_do_part) (mCons (getS 2) mNil))) (mRet (ret (c_CLASH))) (ret .nx)) (mSeq (mIte (mBinT inD (ret (c_ABSENT)) (getS 2)) (mRet (ret (c_ABSENT))) (ret .nx)) (mSeq (mIte (mBinT eqD (mBin ixD (getS 4) (ret (.int 0))) (ret (.str "value"))) (mRet (getS 4)) (ret .nx)) (mSeq (mIte (mVal (bnd (mCons (mLc [5] (bnd (getS 2) fun d => lft (itemsD d)) (bName 5) (ret true) (mCall 1 (G .f_is_here) (mCons (getS 5) mNil))) mNil) fun ds => lft (anyD ds))) (mRet (ret (c_THERE))) (ret .nx)) (mRet (ret (c_UNKNOWN))))))))
def m_of_when (G : Fn → Fn1) : M Fl := (mSeq (mAsg (getS 2) (bTup 2 (bCons (bName 4) (bCons (bName 5) bNil)))) (mSeq (mIte (mVal (mCall 1 (G .f_do_part) (mCons (getS 2) mNil))) (mRet (ret (c_CLASH))) (ret .nx)) (mSeq (mIte (mBinT inD (ret (c_ABSENT)) (getS 2)) (mRet (ret (c_ABSENT))) (ret .nx)) (mSeq (mIte (mBinT neD (mBin ixD (getS 5) (ret (.int 0))) (ret (.str "value"))) (mRet (ret (c_UNKNOWN))) (ret .nx)) (mRet (mIte (mBinT eqD (mBin ixD (getS 5) (ret (.int 1))) (mBin ixD (getS 0) (ret (.int 3)))) (getS 4) (ret (c_ABSENT))))))))
def m_of_choose (G : Fn → Fn1) : M Fl := (mSeq (mPar 4 5 (mCons (mBin ixD (getS 2) (ret (.int 0))) (mCons (mSl (getS 2) (bnd (ret (.int 1)) (kInt fun i => ret (some i))) (ret none)) mNil))) (mSeq (mIte (mBinT eqD (getS 4) (ret (c_ABSENT))) (mRet (mIte (mVal (mCall 1 (G .f_do_part) (mCons (getS 2) mNil))) (ret (c_CLASH)) (ret (c_ABSENT)))) (ret .nx)) (mSeq (mIte (mBinT neD (mBin ixD (getS 4) (ret (.int 0))) (ret (.str "value"))) (mRet (getS 4)) (ret .nx)) (mSeq (mSet 6 (mIx (mBin ixD (mBin ixD (getS 1) (ret (.int 0))) (ret (.int 1))) (mCons (mBin ixD (getS 4) (ret (.int 1))) mNil))) (mSeq (mSet 7 (mBin ixD (getS 5) (getS 6))) (mSeq (mSet 8 (mLst (mStar (mSl (getS 5) (ret none) (bnd (getS 6) (kInt fun i => ret (some i)))) (mStar (mSl (getS 5) (bnd (mBin addD (getS 6) (ret (.int 1))) (kInt fun i => ret (some i))) (ret none)) mNil)))) (mSeq (mIte (mOr (mBinT eqD (getS 7) (ret (c_ABSENT))) (mVal (bnd (mCons (mLc [9] (bnd (getS 8) fun d => lft (itemsD d)) (bName 9) (ret true) (mCall 1 (G .f_is_here) (mCons (getS 9) mNil))) mNil) fun ds => lft (anyD ds)))) (mRet (ret (c_CLASH))) (ret .nx)) (mRet (mIte (mBinT eqD (mBin ixD (getS 7) (ret (.int 0))) (ret (.str "value"))) (getS 7) (ret (c_THERE)))))))))))
def m_of_as (G : Fn → Fn1) : M Fl := (mRet (mBin ixD (getS 2) (ret (.int 0))))
def m_standing_of (G : Fn → Fn1) : M Fl := (mSeq (mIte (mBinT inD (ret (c_CLASH)) (getS 2)) (mRet (ret (c_CLASH))) (ret .nx)) (mSeq (mSet 4 (bnd (mBin ixD (getS 0) (ret (.int 0))) fun d => lft (kdGet c_RULES d))) (mRet (mCallV 4 (tb_ G) (mCons (getS 0) (mCons (getS 1) (mCons (getS 2) (mCons (getS 3) mNil))))))))
def m__law_pick (G : Fn → Fn1) : M Fl := (mSeq (mIte (mBinT ltD (getS 1) (ret (.int 2))) (mRet (ret (.int 0))) (ret .nx)) (mSeq (mSet 2 (mSrc 0 .cells)) (mSeq (whileL (mAnd (mBinT ltD (mSrc 0 .left) (ret (.int 2))) (mBinT gtD (mClen 2) (ret (.int 0)))) (mPut 0 .left (mCpop 2)) 100) (mSeq (mSet 3 (mSrc 0 .left)) (mSeq (mIte (mBinT gtD (getS 3) (ret (.int 1))) (mSeq (mPut 0 .left (mBin fdivD (getS 3) (getS 1))) (mRet (mBin modD (bnd (mCons (getS 3) mNil) fun ds => lft (int1D ds)) (getS 1)))) (ret .nx)) (mSeq (mPut 0 .turn (mBin addD (mSrc 0 .turn) (ret (.int 1)))) (mSeq (mSet 4 (mSrc 0 .turn)) (mSeq (mSet 5 (mBin modD (bnd (mCons (mBin addD (mSrc 0 .mixed) (mBin mulD (getS 4) (ret (.int 104729)))) mNil) fun ds => lft (int1D ds)) (ret (.int 998244353)))) (mSeq (mSet 5 (mBin modD (bnd (mCons (mBin addD (mBin mulD (getS 5) (getS 5)) (mBin mulD (getS 4) (ret (.int 17)))) mNil) fun ds => lft (int1D ds)) (ret (.int 2147483647)))) (mRet (mBin modD (bnd (mCons (mBin fdivD (getS 5) (ret (.int 16))) mNil) fun ds => lft (int1D ds)) (getS 1))))))))))))
def m__law_draw_type (G : Fn → Fn1) : M Fl := (mSeq (mSet 1 (mLst (mCons (mTup (mCons (ret (.str "lot")) (mCons (mTup (mCons (ret (.str "no")) (mCons (ret (.str "yes")) mNil))) mNil))) (mCons (mTup (mCons (ret (.str "lot")) (mCons (mTup (mCons (ret (.str "no")) (mCons (ret (.str "yes")) mNil))) mNil))) (mCons (mTup (mCons (ret (.str "count")) (mCons (ret (.int 2)) mNil))) (mCons (mTup (mCons (ret (.str "count")) (mCons (ret (.int 3)) mNil))) (mCons (mTup (mCons (ret (.str "lot")) (mCons (mTup (mCons (ret (.str "b")) (mCons (ret (.str "a")) mNil))) mNil))) mNil))))))) (mRet (mBin ixD (mBin addD (getS 1) (mLst (mCons (mTup (mCons (ret (.str "lot")) (mCons (mTup (mCons (ret (.str "z")) (mCons (ret (.str "x")) (mCons (ret (.str "y")) mNil)))) mNil))) mNil))) (mCall 2 (G .f__law_pick) (mCons (getS 0) (mCons (ret (.int 6)) mNil))))))
def m__law_values (G : Fn → Fn1) : M Fl := (mSeq (mIte (mBinT eqD (mBin ixD (getS 0) (ret (.int 0))) (ret (.str "lot"))) (mRet (bnd (mCons (mBin ixD (getS 0) (ret (.int 1))) mNil) fun ds => lft (listD ds))) (ret .nx)) (mSeq (mIte (mBinT eqD (mBin ixD (getS 0) (ret (.int 0))) (ret (.str "count"))) (mRet (mLRange1 (mBin ixD (getS 0) (ret (.int 1))))) (ret .nx)) (mSeq (mPar 1 2 (mCons (mLst mNil) (mCons (mCall 1 (G .f__law_values) (mCons (mBin ixD (getS 0) (ret (.int 2))) mNil)) mNil))) (mSeq (mFor (bnd (mCall 1 (G .f__law_values) (mCons (mBin ixD (getS 0) (ret (.int 1))) mNil)) fun d => lft (itemsD d)) (bName 3) (mSet 1 (mBin addD (getS 1) (mLc [4] (bnd (getS 2) fun d => lft (itemsD d)) (bName 4) (ret true) (mTup (mCons (getS 3) (mCons (getS 4) mNil))))))) (mRet (getS 1))))))
def m__law_draw_value (G : Fn → Fn1) : M Fl := (mSeq (mSet 2 (mCall 1 (G .f__law_values) (mCons (getS 1) mNil))) (mRet (mBin ixD (getS 2) (mCall 2 (G .f__law_pick) (mCons (getS 0) (mCons (bnd (mCons (getS 2) mNil) fun ds => lft (lenD ds)) mNil))))))
def m__law_draw_right (G : Fn → Fn1) : M Fl := (mSeq (mAsg (mTup (mCons (mTup (mCons (ret (.str "lot")) (mCons (mTup (mCons (ret (.str "no")) (mCons (ret (.str "yes")) mNil))) mNil))) (mCons (mTup (mCons (ret (.str "lot")) (mCons (mTup (mCons (ret (.str "c")) (mCons (ret (.str "a")) (mCons (ret (.str "b")) mNil)))) mNil))) mNil))) (bTup 2 (bCons (bName 1) (bCons (bName 2) bNil)))) (mSeq (mPar 3 4 (mCons (mCall 1 (G .f__law_draw_type) (mCons (getS 0) mNil)) (mCons (mCall 1 (G .f__law_draw_type) (mCons (getS 0) mNil)) mNil))) (mSeq (mAsg (mTup (mCons (mTup (mCons (ret (.str "pair")) (mCons (getS 3) (mCons (getS 4) mNil)))) (mCons (mCall 2 (G .f__law_pick) (mCons (getS 0) (mCons (ret (.int 16)) mNil))) mNil))) (bTup 2 (bCons (bName 5) (bCons (bName 6) bNil)))) (mSeq (mIte (mBinT ltD (getS 6) (ret (.int 6))) (mSeq (mSet 7 (mLst (mCons (mTup (mCons (ret (.str "not")) (mCons (mLst (mCons (getS 1) mNil)) mNil))) (mCons (mTup (mCons (ret (.str "and")) (mCons (mBin mulD (mLst (mCons (getS 1) mNil)) (ret (.int 2))) mNil))) (mCons (mTup (mCons (ret (.str "or")) (mCons (mBin mulD (mLst (mCons (getS 1) mNil)) (ret (.int 2))) mNil))) (mCons (mTup (mCons (ret (.str "first")) (mCons (mLst (mCons (getS 5) mNil)) mNil))) (mCons (mTup (mCons (ret (.str "second")) (mCons (mLst (mCons (getS 5) mNil)) mNil))) mNil))))))) (mSeq (mAsg (mBin ixD (mBin addD (getS 7) (mLst (mCons (mTup (mCons (ret (.str "pair")) (mCons (mLst (mCons (getS 3) (mCons (getS 4) mNil))) mNil))) mNil))) (getS 6)) (bTup 2 (bCons (bName 8) (bCons (bName 9) bNil)))) (mRet (mTup (mCons (mTup (mCons (ret (.str "op")) (mCons (getS 8) (mCons (mSl (mTup (mCons (ret (.str "x")) (mCons (ret (.str "y")) mNil))) (ret none) (bnd (bnd (mCons (getS 9) mNil) fun ds => lft (lenD ds)) (kInt fun i => ret (some i)))) mNil)))) (mCons (getS 9) mNil)))))) (ret .nx)) (mSeq (mIte (mBinT ltD (getS 6) (ret (.int 9))) (mSeq (mSet 10 (mTup (mCons (ret (.str "count")) (mCons (mBin addD (ret (.int 2)) (mCall 2 (G .f__law_pick) (mCons (getS 0) (mCons (ret (.int 5)) mNil)))) mNil)))) (mSeq (mSet 11 (mBin ixD (mLst (mCons (getS 3) (mCons (mBin ixD (mLst (mCons (getS 3) (mCons (getS 2) (mCons (getS 5) mNil)))) (mCall 2 (G .f__law_pick) (mCons (getS 0) (mCons (ret (.int 3)) mNil)))) (mCons (getS 10) mNil)))) (mBin subD (getS 6) (ret (.int 6))))) (mRet (mTup (mCons (mTup (mCons (ret (.str "op")) (mCons (mBin ixD (mLst (mCons (ret (.str "same")) (mCons (ret (.str "less")) (mCons (ret (.str "plus")) mNil)))) (mBin subD (getS 6) (ret (.int 6)))) (mCons (mTup (mCons (ret (.str "x")) (mCons (ret (.str "y")) mNil))) mNil)))) (mCons (mLst (mCons (getS 11) (mCons (getS 11) mNil))) mNil)))))) (ret .nx)) (mSeq (mIte (mBinT eqD (getS 6) (ret (.int 9))) (mSeq (mSet 9 (mSl (mLst (mCons (getS 2) (mCons (getS 3) (mCons (getS 4) mNil)))) (ret none) (bnd (mBin addD (ret (.int 1)) (mCall 2 (G .f__law_pick) (mCons (getS 0) (mCons (ret (.int 3)) mNil)))) (kInt fun i => ret (some i))))) (mSeq (mSet 12 (ret (.int 1))) (mSeq (mFor (bnd (getS 9) fun d => lft (itemsD d)) (bName 11) (mSet 12 (mBin mulD (getS 12) (bnd (mCons (mCall 1 (G .f__law_values) (mCons (getS 11) mNil)) mNil) fun ds => lft (lenD ds))))) (mSeq (mSet 13 (bnd (mCons (mLc [14] (bnd (mCons (getS 12) mNil) fun ds => lft (rng1 ds)) (bName 14) (ret true) (mCall 2 (G .f__law_draw_value) (mCons (getS 0) (mCons (getS 5) mNil)))) mNil) fun ds => lft (tupleD ds))) (mRet (mTup (mCons (mTup (mCons (ret (.str "table")) (mCons (getS 5) (mCons (getS 13) (mCons (mSl (mTup (mCons (ret (.str "x")) (mCons (ret (.str "y")) (mCons (ret (.str "z")) mNil)))) (ret none) (bnd (bnd (mCons (getS 9) mNil) fun ds => lft (lenD ds)) (kInt fun i => ret (some i)))) mNil))))) (mCons (getS 9) mNil)))))))) (ret .nx)) (mSeq (mIte (mBinT eqD (getS 6) (ret (.int 10))) (mRet (mTup (mCons (mTup (mCons (ret (.str "const")) (mCons (getS 3) (mCons (mCall 2 (G .f__law_draw_value) (mCons (getS 0) (mCons (getS 3) mNil))) (mCons (ret (.str "x")) mNil))))) (mCons (mLst (mCons (getS 4) mNil)) mNil)))) (ret .nx)) (mSeq (mIte (mBinT eqD (getS 6) (ret (.int 11))) (mRet (mTup (mCons (mTup (mCons (ret (.str "held")) (mCons (getS 3) (mCons (mCall 2 (G .f__law_draw_value) (mCons (getS 0) (mCons (getS 3) mNil))) (mCons (ret (.str "x")) (mCons (ret (.str "y")) (mCons (mTup (mCons (mTup (mCons (ret (.str "z")) (mCons (ret (.str "yes")) mNil))) mNil)) mNil))))))) (mCons (mLst (mCons (getS 3) (mCons (getS 4) mNil))) mNil)))) (ret .nx)) (mSeq (mIte (mBinT eqD (getS 6) (ret (.int 12))) (mRet (mTup (mCons (mTup (mCons (ret (.str "when")) (mCons (ret (.str "x")) (mCons (ret (.str "y")) (mCons (mBin ixD (mLst (mCons (ret (.str "c")) (mCons (ret (.str "a")) (mCons (ret (.str "b")) mNil)))) (mCall 2 (G .f__law_pick) (mCons (getS 0) (mCons (ret (.int 3)) mNil)))) mNil))))) (mCons (mLst (mCons (getS 3) (mCons (getS 2) mNil))) mNil)))) (ret .nx)) (mSeq (mIte (mBinT eqD (getS 6) (ret (.int 13))) (mRet (mTup (mCons (mTup (mCons (ret (.str "choose")) (mCons (ret (.str "x")) (mCons (mTup (mCons (ret (.str "y")) (mCons (ret (.str "z")) (mCons (ret (.str "w")) mNil)))) mNil)))) (mCons (mLst (mCons (getS 2) (mCons (getS 3) (mCons (getS 3) (mCons (getS 3) mNil))))) mNil)))) (ret .nx)) (mSeq (mIte (mBinT eqD (getS 6) (ret (.int 14))) (mRet (mTup (mCons (mTup (mCons (ret (.str "as")) (mCons (ret (.str "x.y")) mNil))) (mCons (mLst (mCons (getS 3) mNil)) mNil)))) (ret .nx)) (mRet (mTup (mCons (mTup (mCons (ret (.str "arg")) (mCons (mSl (mTup (mCons (ret (.str "x")) (mCons (ret (.str "y")) (mCons (ret (.str "z")) mNil)))) (ret none) (bnd (mBin addD (ret (.int 2)) (mCall 2 (G .f__law_pick) (mCons (getS 0) (mCons (ret (.int 2)) mNil)))) (kInt fun i => ret (some i)))) (mCons (mCall 2 (G .f__law_pick) (mCons (getS 0) (mCons (ret (.int 2)) mNil))) mNil)))) (mCons (mLst (mCons (getS 3) (mCons (getS 4) (mCons (getS 2) mNil)))) mNil)))))))))))))))
def m__law_operands (G : Fn → Fn1) : M Fl := (mSeq (mIte (mBinT inD (mBin ixD (getS 0) (ret (.int 0))) (mTup (mCons (ret (.str "const")) (mCons (ret (.str "held")) (mCons (ret (.str "when")) mNil))))) (mRet (mDget ["const", "held", "when"] (mCons (mSl (getS 0) (bnd (ret (.int 3)) (kInt fun i => ret (some i))) (ret none)) (mCons (mSl (getS 0) (bnd (ret (.int 3)) (kInt fun i => ret (some i))) (bnd (ret (.int 5)) (kInt fun i => ret (some i)))) (mCons (mSl (getS 0) (bnd (ret (.int 1)) (kInt fun i => ret (some i))) (bnd (ret (.int 3)) (kInt fun i => ret (some i)))) mNil))) (mBin ixD (getS 0) (ret (.int 0))))) (ret .nx)) (mSeq (mIte (mBinT inD (mBin ixD (getS 0) (ret (.int 0))) (mTup (mCons (ret (.str "as")) (mCons (ret (.str "choose")) mNil)))) (mRet (mBin addD (mSl (getS 0) (bnd (ret (.int 1)) (kInt fun i => ret (some i))) (bnd (ret (.int 2)) (kInt fun i => ret (some i)))) (mIte (mBinT eqD (mBin ixD (getS 0) (ret (.int 0))) (ret (.str "choose"))) (mBin ixD (getS 0) (ret (.int 2))) (mTup mNil)))) (ret .nx)) (mRet (mIte (mBinT eqD (mBin ixD (getS 0) (ret (.int 0))) (ret (.str "input"))) (mTup mNil) (mIte (mBinT eqD (mBin ixD (getS 0) (ret (.int 0))) (ret (.str "arg"))) (mBin ixD (getS 0) (ret (.int 1))) (mBin ixD (getS 0) (mNeg (ret (.int 1)))))))))
def m__law_draw_standing (G : Fn → Fn1) : M Fl := (mSeq (mSet 2 (mCall 2 (G .f__law_pick) (mCons (getS 0) (mCons (ret (.int 9)) mNil)))) (mSeq (mIte (mBinT gtD (getS 2) (ret (.int 3))) (mRet (mTup (mCons (ret (.str "value")) (mCons (mCall 2 (G .f__law_draw_value) (mCons (getS 0) (mCons (getS 1) mNil))) mNil)))) (ret .nx)) (mRet (mBin ixD (mLst (mCons (mTup (mCons (ret (.str "unknown")) mNil)) (mCons (mTup (mCons (ret (.str "absent")) mNil)) (mCons (mTup (mCons (ret (.str "there")) mNil)) (mCons (mIte (mBinT eqD (mCall 2 (G .f__law_pick) (mCons (getS 0) (mCons (ret (.int 3)) mNil))) (ret (.int 0))) (mTup (mCons (ret (.str "clash")) mNil)) (mTup (mCons (ret (.str "there")) mNil))) mNil))))) (getS 2)))))
def m__law_is_there (G : Fn → Fn1) : M Fl := (mRet (mBin inD (mBin ixD (getS 0) (ret (.int 0))) (mTup (mCons (ret (.str "there")) (mCons (ret (.str "value")) mNil)))))
def m__law_chosen (G : Fn → Fn1) : M Fl := (mSeq (mPar 2 3 (mCons (mBin ixD (getS 0) (ret (.int 0))) (mCons (mSl (getS 0) (bnd (ret (.int 1)) (kInt fun i => ret (some i))) (ret none)) mNil))) (mSeq (mIte (mBinT inD (mBin ixD (getS 2) (ret (.int 0))) (mTup (mCons (ret (.str "absent")) (mCons (ret (.str "unknown")) mNil)))) (mSeq (mSet 6 (mAndV (mBin eqD (mBin ixD (getS 2) (ret (.int 0))) (ret (.str "absent"))) (bnd (mCons (mLc [7] (bnd (getS 3) fun d => lft (itemsD d)) (bName 7) (ret true) (mCall 1 (G .f__law_is_there) (mCons (getS 7) mNil))) mNil) fun ds => lft (anyD ds)))) (mRet (mIte (mVal (getS 6)) (mTup (mCons (ret (.str "clash")) mNil)) (getS 2)))) (ret .nx)) (mSeq (mIte (mBinT eqD (mBin ixD (getS 2) (ret (.int 0))) (ret (.str "there"))) (mRet (getS 2)) (ret .nx)) (mSeq (mSet 4 (mIx (bnd (mCons (getS 1) mNil) fun ds => lft (listD ds)) (mCons (mBin ixD (getS 2) (ret (.int 1))) mNil))) (mSeq (mSet 5 (mBin addD (mSl (getS 3) (ret none) (bnd (getS 4) (kInt fun i => ret (some i)))) (mSl (getS 3) (bnd (mBin addD (getS 4) (ret (.int 1))) (kInt fun i => ret (some i))) (ret none)))) (mSeq (mIte (mOr (mBinT eqD (mBin ixD (getS 3) (getS 4)) (mTup (mCons (ret (.str "absent")) mNil))) (mVal (bnd (mCons (mLc [7] (bnd (getS 5) fun d => lft (itemsD d)) (bName 7) (ret true) (mCall 1 (G .f__law_is_there) (mCons (getS 7) mNil))) mNil) fun ds => lft (anyD ds)))) (mRet (mTup (mCons (ret (.str "clash")) mNil))) (ret .nx)) (mRet (mIte (mBinT eqD (mBin ixD (mBin ixD (getS 3) (getS 4)) (ret (.int 0))) (ret (.str "value"))) (mBin ixD (getS 3) (getS 4)) (mTup (mCons (ret (.str "there")) mNil))))))))))
def m__law_op_value (G : Fn → Fn1) : M Fl := (mSeq (mPar 3 4 (mCons (mBin ixD (getS 2) (ret (.int 0))) (mCons (mBin ixD (getS 2) (mNeg (ret (.int 1)))) mNil))) (mSeq (mIte (mBinT eqD (getS 0) (ret (.str "plus"))) (mRet (mBin modD (mBin addD (getS 3) (getS 4)) (mBin ixD (mBin ixD (getS 1) (ret (.int 0))) (ret (.int 1))))) (ret .nx)) (mSeq (mIte (mBinT eqD (getS 0) (ret (.str "pair"))) (mRet (mTup (mCons (getS 3) (mCons (getS 4) mNil)))) (ret .nx)) (mSeq (mIte (mBinT inD (getS 0) (mTup (mCons (ret (.str "first")) (mCons (ret (.str "second")) mNil)))) (mRet (mBin ixD (getS 3) (bnd (mCons (mBin eqD (getS 0) (ret (.str "second"))) mNil) fun ds => lft (int1D ds)))) (ret .nx)) (mSeq (mIte (mBinT eqD (getS 0) (ret (.str "less"))) (mSet 5 (mBin ltD (mIx (mCall 1 (G .f__law_values) (mCons (mBin ixD (getS 1) (ret (.int 0))) mNil)) (mCons (getS 3) mNil)) (mIx (mCall 1 (G .f__law_values) (mCons (mBin ixD (getS 1) (ret (.int 0))) mNil)) (mCons (getS 4) mNil)))) (mSet 5 (mDget ["not", "and", "or", "same"] (mCons (mBin eqD (getS 3) (ret (.str "no"))) (mCons (mBin niD (ret (.str "no")) (getS 2)) (mCons (mBin inD (ret (.str "yes")) (getS 2)) (mCons (mBin eqD (getS 3) (getS 4)) mNil)))) (getS 0)))) (mRet (mIte (mVal (getS 5)) (ret (.str "yes")) (ret (.str "no")))))))))
def m__law_row_number (G : Fn → Fn1) : M Fl := (mSeq (mSet 2 (ret (.int 0))) (mSeq (mFor (bnd (mCons (getS 0) (mCons (getS 1) mNil)) fun ds => lft (zipMD ds)) (bTup 2 (bCons (bName 3) (bCons (bName 4) bNil))) (mSeq (mSet 5 (mCall 1 (G .f__law_values) (mCons (getS 4) mNil))) (mSet 2 (mBin addD (mBin mulD (getS 2) (bnd (mCons (getS 5) mNil) fun ds => lft (lenD ds))) (mIx (getS 5) (mCons (getS 3) mNil)))))) (mRet (getS 2))))
def m__law_standing (G : Fn → Fn1) : M Fl := (mSeq (mIte (mBinT inD (mTup (mCons (ret (.str "clash")) mNil)) (getS 1)) (mRet (mTup (mCons (ret (.str "clash")) mNil))) (ret .nx)) (mSeq (mIte (mBinT eqD (mBin ixD (getS 0) (ret (.int 0))) (ret (.str "as"))) (mRet (mBin ixD (getS 1) (ret (.int 0)))) (ret .nx)) (mSeq (mIte (mBinT eqD (mBin ixD (getS 0) (ret (.int 0))) (ret (.str "const"))) (mRet (mIte (mVal (mCall 1 (G .f__law_is_there) (mCons (mBin ixD (getS 1) (ret (.int 0))) mNil))) (mTup (mCons (ret (.str "value")) (mCons (mBin ixD (getS 0) (ret (.int 2))) mNil))) (mBin ixD (getS 1) (ret (.int 0))))) (ret .nx)) (mSeq (mIte (mBinT eqD (mBin ixD (getS 0) (ret (.int 0))) (ret (.str "choose"))) (mRet (mCall 2 (G .f__law_chosen) (mCons (getS 1) (mCons (mBin ixD (mBin ixD (getS 3) (ret (.int 0))) (ret (.int 1))) mNil)))) (ret .nx)) (mSeq (mIte (mAnd (mBinT inD (mTup (mCons (ret (.str "absent")) mNil)) (getS 1)) (mVal (bnd (mCons (mLc [6] (bnd (getS 1) fun d => lft (itemsD d)) (bName 6) (ret true) (mCall 1 (G .f__law_is_there) (mCons (getS 6) mNil))) mNil) fun ds => lft (anyD ds)))) (mRet (mTup (mCons (ret (.str "clash")) mNil))) (ret .nx)) (mSeq (mIte (mBinT eqD (mBin ixD (getS 0) (ret (.int 0))) (ret (.str "held"))) (mRet (mIte (mVal (mCall 1 (G .f__law_is_there) (mCons (mBin ixD (getS 1) (ret (.int 1))) mNil))) (mTup (mCons (ret (.str "value")) (mCons (getS 2) mNil))) (mBin ixD (getS 1) (ret (.int 1))))) (ret .nx)) (mSeq (mIte (mBinT inD (mTup (mCons (ret (.str "absent")) mNil)) (getS 1)) (mRet (mTup (mCons (ret (.str "absent")) mNil))) (ret .nx)) (mSeq (mIte (mBinT eqD (mBin ixD (getS 0) (ret (.int 0))) (ret (.str "when"))) (mSeq (mIte (mBinT neD (mBin ixD (mBin ixD (getS 1) (ret (.int 1))) (ret (.int 0))) (ret (.str "value"))) (mRet (mTup (mCons (ret (.str "unknown")) mNil))) (ret .nx)) (mRet (mIte (mBinT eqD (mBin ixD (mBin ixD (getS 1) (ret (.int 1))) (ret (.int 1))) (mBin ixD (getS 0) (ret (.int 3)))) (mBin ixD (getS 1) (ret (.int 0))) (mTup (mCons (ret (.str "absent")) mNil))))) (ret .nx)) (mSeq (mIte (mAnd (mBinT eqD (mBin ixD (getS 0) (ret (.int 0))) (ret (.str "arg"))) (mBinT eqD (mBin ixD (mBin ixD (getS 1) (mBin ixD (getS 0) (ret (.int 2)))) (ret (.int 0))) (ret (.str "value")))) (mRet (mBin ixD (getS 1) (mBin ixD (getS 0) (ret (.int 2))))) (ret .nx)) (mSeq (mIte (mAnd (mBinT inD (mBin ixD (getS 0) (ret (.int 0))) (mTup (mCons (ret (.str "op")) (mCons (ret (.str "table")) mNil)))) (mVal (bnd (mCons (mLc [6] (bnd (getS 1) fun d => lft (itemsD d)) (bName 6) (ret true) (mBin eqD (mBin ixD (getS 6) (ret (.int 0))) (ret (.str "value")))) mNil) fun ds => lft (allD ds)))) (mSeq (mSet 4 (mLc [6] (bnd (getS 1) fun d => lft (itemsD d)) (bName 6) (ret true) (mBin ixD (getS 6) (ret (.int 1))))) (mSeq (mSet 5 (mBin eqD (mBin ixD (getS 0) (ret (.int 0))) (ret (.str "op")))) (mRet (mTup (mCons (ret (.str "value")) (mCons (mIte (mVal (getS 5)) (mCall 3 (G .f__law_op_value) (mCons (mBin ixD (getS 0) (ret (.int 1))) (mCons (getS 3) (mCons (getS 4) mNil)))) (mBin ixD (mBin ixD (getS 0) (ret (.int 2))) (mCall 2 (G .f__law_row_number) (mCons (getS 4) (mCons (getS 3) mNil))))) mNil)))))) (ret .nx)) (mRet (mIte (mVal (bnd (mCons (mLc [6] (bnd (getS 1) fun d => lft (itemsD d)) (bName 6) (ret true) (mCall 1 (G .f__law_is_there) (mCons (getS 6) mNil))) mNil) fun ds => lft (anyD ds))) (mTup (mCons (ret (.str "there")) mNil)) (mTup (mCons (ret (.str "unknown")) mNil))))))))))))))
def m_law (G : Fn → Fn1) : M Fl := (mSeq (mFor (bnd (mCons (ret (.int 30)) mNil) fun ds => lft (rng1 ds)) (bName 2) (mSeq (mAsg (mCall 1 (G .f__law_draw_right) (mCons (getS 1) mNil)) (bTup 2 (bCons (bName 3) (bCons (bName 4) bNil)))) (mSeq (mSet 5 (mCall 1 (G .f_operands_of) (mCons (getS 3) mNil))) (mSeq (mIte (mOr (mBinT neD (getS 5) (mCall 1 (G .f__law_operands) (mCons (getS 3) mNil))) (mNot (mVal (bnd (mCons (getS 5) (mCons (ret (.raw (.ty "tuple"))) mNil)) fun ds => lft (isiD ds))))) (mRet (ret (.bl false))) (ret .nx)) (mSeq (mSet 4 (mSl (getS 4) (ret none) (bnd (bnd (mCons (getS 5) mNil) fun ds => lft (lenD ds)) (kInt fun i => ret (some i))))) (mSeq (mSet 6 (mLc [10] (bnd (getS 4) fun d => lft (itemsD d)) (bName 10) (ret true) (mCall 2 (G .f__law_draw_standing) (mCons (getS 1) (mCons (getS 10) mNil))))) (mSeq (mPar 7 8 (mCons (mCall 2 (G .f__law_draw_value) (mCons (getS 1) (mCons (mBin ixD (getS 4) (ret (.int 0))) mNil))) (mCons (bnd (mCons (getS 6) mNil) fun ds => lft (reprD ds)) mNil))) (mSeq (mSet 9 (mCall 4 (G .f__law_standing) (mCons (getS 3) (mCons (getS 6) (mCons (getS 7) (mCons (getS 4) mNil)))))) (mSeq (mIte (mOr (mBinT neD (mCall 4 (G .f_standing_of) (mCons (getS 3) (mCons (getS 4) (mCons (getS 6) (mCons (getS 7) mNil))))) (getS 9)) (mBinT neD (bnd (mCons (getS 6) mNil) fun ds => lft (reprD ds)) (getS 8))) (mRet (ret (.bl false))) (ret .nx)) (mIte (mBinT neD (mCall 4 (G .f_standing_of) (mCons (getS 3) (mCons (bnd (mCons (getS 4) mNil) fun ds => lft (tupleD ds)) (mCons (bnd (mCons (getS 6) mNil) fun ds => lft (tupleD ds)) (mCons (getS 7) mNil))))) (getS 9)) (mRet (ret (.bl false))) (ret .nx))))))))))) (mRet (mBin eqD (mCall 1 (G .f_operands_of) (mCons (mTup (mCons (ret (.str "input")) (mCons (mTup (mCons (ret (.str "count")) (mCons (ret (.int 2)) mNil))) mNil))) mNil)) (mTup mNil))))
def G : Nat → Fn → Fn1
  | 0, _ => fun _ _ => none
  | n + 1, .f_count_of => gOf 1 1 (m_count_of (G n))
  | n + 1, .f_place_in => gOf 2 2 (m_place_in (G n))
  | n + 1, .f_truth => gOf 1 1 (m_truth (G n))
  | n + 1, .f_compared => gOf 4 4 (m_compared (G n))
  | n + 1, .f_joined_truths => gOf 3 3 (m_joined_truths (G n))
  | n + 1, .f_op_value => gOf 3 5 (m_op_value (G n))
  | n + 1, .f_table_value => gOf 3 6 (m_table_value (G n))
  | n + 1, .f_value_by => gOf 3 3 (m_value_by (G n))
  | n + 1, .f_parts_of => gOf 1 3 (m_parts_of (G n))
  | n + 1, .f_operands => gOf 1 4 (m_operands (G n))
  | n + 1, .f_operands_of => gOf 1 1 (m_operands_of (G n))
  | n + 1, .f_is_here => gOf 1 1 (m_is_here (G n))
  | n + 1, .f_do_part => gOf 1 2 (m_do_part (G n))
  | n + 1, .f_of_const => gOf 4 5 (m_of_const (G n))
  | n + 1, .f_of_held => gOf 4 5 (m_of_held (G n))
  | n + 1, .f_of_values => gOf 4 7 (m_of_values (G n))
  | n + 1, .f_of_arg => gOf 4 6 (m_of_arg (G n))
  | n + 1, .f_of_when => gOf 4 6 (m_of_when (G n))
  | n + 1, .f_of_choose => gOf 4 10 (m_of_choose (G n))
  | n + 1, .f_of_as => gOf 4 4 (m_of_as (G n))
  | n + 1, .f_standing_of => gOf 4 5 (m_standing_of (G n))
  | n + 1, .f__law_pick => gOf 2 6 (m__law_pick (G n))
  | n + 1, .f__law_draw_type => gOf 1 2 (m__law_draw_type (G n))
  | n + 1, .f__law_values => gOf 1 5 (m__law_values (G n))
  | n + 1, .f__law_draw_value => gOf 2 3 (m__law_draw_value (G n))
  | n + 1, .f__law_draw_right => gOf 1 15 (m__law_draw_right (G n))
  | n + 1, .f__law_operands => gOf 1 1 (m__law_operands (G n))
  | n + 1, .f__law_draw_standing => gOf 2 3 (m__law_draw_standing (G n))
  | n + 1, .f__law_is_there => gOf 1 1 (m__law_is_there (G n))
  | n + 1, .f__law_chosen => gOf 2 8 (m__law_chosen (G n))
  | n + 1, .f__law_op_value => gOf 3 6 (m__law_op_value (G n))
  | n + 1, .f__law_row_number => gOf 2 6 (m__law_row_number (G n))
  | n + 1, .f__law_standing => gOf 4 7 (m__law_standing (G n))
def nm : Fn → Str
  | .f_count_of => "count_of"
  | .f_place_in => "place_in"
  | .f_truth => "truth"
  | .f_compared => "compared"
  | .f_joined_truths => "joined_truths"
  | .f_op_value => "op_value"
  | .f_table_value => "table_value"
  | .f_value_by => "value_by"
  | .f_parts_of => "parts_of"
  | .f_operands => "operands"
  | .f_operands_of => "operands_of"
  | .f_is_here => "is_here"
  | .f_do_part => "do_part"
  | .f_of_const => "of_const"
  | .f_of_held => "of_held"
  | .f_of_values => "of_values"
  | .f_of_arg => "of_arg"
  | .f_of_when => "of_when"
  | .f_of_choose => "of_choose"
  | .f_of_as => "of_as"
  | .f_standing_of => "standing_of"
  | .f__law_pick => "_law_pick"
  | .f__law_draw_type => "_law_draw_type"
  | .f__law_values => "_law_values"
  | .f__law_draw_value => "_law_draw_value"
  | .f__law_draw_right => "_law_draw_right"
  | .f__law_operands => "_law_operands"
  | .f__law_draw_standing => "_law_draw_standing"
  | .f__law_is_there => "_law_is_there"
  | .f__law_chosen => "_law_chosen"
  | .f__law_op_value => "_law_op_value"
  | .f__law_row_number => "_law_row_number"
  | .f__law_standing => "_law_standing"
def ar : Fn → Nat
  | .f_count_of => 1
  | .f_place_in => 2
  | .f_truth => 1
  | .f_compared => 4
  | .f_joined_truths => 3
  | .f_op_value => 3
  | .f_table_value => 3
  | .f_value_by => 3
  | .f_parts_of => 1
  | .f_operands => 1
  | .f_operands_of => 1
  | .f_is_here => 1
  | .f_do_part => 1
  | .f_of_const => 4
  | .f_of_held => 4
  | .f_of_values => 4
  | .f_of_arg => 4
  | .f_of_when => 4
  | .f_of_choose => 4
  | .f_of_as => 4
  | .f_standing_of => 4
  | .f__law_pick => 2
  | .f__law_draw_type => 1
  | .f__law_values => 1
  | .f__law_draw_value => 2
  | .f__law_draw_right => 1
  | .f__law_operands => 1
  | .f__law_draw_standing => 2
  | .f__law_is_there => 1
  | .f__law_chosen => 2
  | .f__law_op_value => 3
  | .f__law_row_number => 2
  | .f__law_standing => 4
/-! ### what the top has left -/
structure Cn (wd : World) (K : PySem.W.Frag) (mg : Str → Option Value) : Prop where
  z_abs : mg "abs" = none
  z_all : mg "all" = none
  z_any : mg "any" = none
  z_int : mg "int" = none
  z_isinstance : mg "isinstance" = none
  z_len : mg "len" = none
  z_list : mg "list" = none
  z_range : mg "range" = none
  z_repr : mg "repr" = none
  z_tuple : mg "tuple" = none
  z_zip : mg "zip" = none
  g_ABSENT : ∃ v u, mg "ABSENT" = some u ∧ RelV v u ∧ ∀ F, Rp K F v c_ABSENT
  g_ADDED_SHAPES : ∃ A, mg "ADDED_SHAPES" = some (.ref A) ∧ KD K wd A c_ADDED_SHAPES
  g_CLASH : ∃ v u, mg "CLASH" = some u ∧ RelV v u ∧ ∀ F, Rp K F v c_CLASH
  g_RULES : ∃ A, mg "RULES" = some (.ref A) ∧ KD K wd A c_RULES
  g_SHAPES : ∃ A, mg "SHAPES" = some (.ref A) ∧ KD K wd A c_SHAPES
  g_THERE : ∃ v u, mg "THERE" = some u ∧ RelV v u ∧ ∀ F, Rp K F v c_THERE
  g_UNKNOWN : ∃ v u, mg "UNKNOWN" = some u ∧ RelV v u ∧ ∀ F, Rp K F v c_UNKNOWN
  d_count_of : Df K mg "count_of" s_count_of ["kind"]
  d_place_in : Df K mg "place_in" s_place_in ["kind", "value"]
  d_truth : Df K mg "truth" s_truth ["holds"]
  d_compared : Df K mg "compared" s_compared ["word", "kind", "one", "other"]
  d_joined_truths : Df K mg "joined_truths" s_joined_truths ["word", "one", "other"]
  d_op_value : Df K mg "op_value" s_op_value ["word", "kinds", "values"]
  d_table_value : Df K mg "table_value" s_table_value ["results", "kinds", "values"]
  d_value_by : Df K mg "value_by" s_value_by ["right", "kinds", "values"]
  d_parts_of : Df K mg "parts_of" s_parts_of ["right"]
  d_operands : Df K mg "operands" s_operands ["right"]
  d_operands_of : Df K mg "operands_of" s_operands_of ["right"]
  d_is_here : Df K mg "is_here" s_is_here ["standing"]
  d_do_part : Df K mg "do_part" s_do_part ["standings"]
  d_of_const : Df K mg "of_const" s_of_const ["right", "kinds", "standings", "memory"]
  d_of_held : Df K mg "of_held" s_of_held ["right", "kinds", "standings", "memory"]
  d_of_values : Df K mg "of_values" s_of_values ["right", "kinds", "standings", "memory"]
  d_of_arg : Df K mg "of_arg" s_of_arg ["right", "kinds", "standings", "memory"]
  d_of_when : Df K mg "of_when" s_of_when ["right", "kinds", "standings", "memory"]
  d_of_choose : Df K mg "of_choose" s_of_choose ["right", "kinds", "standings", "memory"]
  d_of_as : Df K mg "of_as" s_of_as ["right", "kinds", "standings", "memory"]
  d_standing_of : Df K mg "standing_of" s_standing_of ["right", "kinds", "standings", "memory"]
  d__law_pick : Df K mg "_law_pick" s__law_pick ["_law_source", "_law_most"]
  d__law_draw_type : Df K mg "_law_draw_type" s__law_draw_type ["_law_source"]
  d__law_values : Df K mg "_law_values" s__law_values ["_law_type_here"]
  d__law_draw_value : Df K mg "_law_draw_value" s__law_draw_value ["_law_source", "_law_type_here"]
  d__law_draw_right : Df K mg "_law_draw_right" s__law_draw_right ["_law_source"]
  d__law_operands : Df K mg "_law_operands" s__law_operands ["_law_right"]
  d__law_draw_standing : Df K mg "_law_draw_standing" s__law_draw_standing ["_law_source", "_law_type_here"]
  d__law_is_there : Df K mg "_law_is_there" s__law_is_there ["_law_one"]
  d__law_chosen : Df K mg "_law_chosen" s__law_chosen ["_law_some", "_law_words"]
  d__law_op_value : Df K mg "_law_op_value" s__law_op_value ["_law_word", "_law_kinds", "_law_some"]
  d__law_row_number : Df K mg "_law_row_number" s__law_row_number ["_law_some_values", "_law_types"]
  d__law_standing : Df K mg "_law_standing" s__law_standing ["_law_right", "_law_some", "_law_memory", "_law_types"]
  d_law : Df K mg "law" s_law ["_law_script"]
  d__law_open_cells : Df K mg "_law_open_cells" s__law_open_cells ["_law_script"]
  hmg : ∀ y f, PySem.W.nsIn K mainGlobals y = some (some (.ref f)) → mg y = some (.ref f)
/-! ### the bodies -/
section
variable {P : Program} {wd : World} {K : PySem.W.Frag} {mg : Str → Option Value} {base : Heap} {n : Nat}
theorem tb_ok (IH : ∀ f, Fnc P wd K mg base n (nm f) (ar f) (G n f)) : ∀ y k g, (tb_ (G n)).lookup y = some (k, g) → Fnc P wd K mg base n y k g := tb_all (by
  intro e he
  simp only [tb_, List.mem_cons, List.not_mem_nil, or_false] at he
  rcases he with h | h | h | h | h | h | h
  · subst h; exact IH .f_of_const
  · subst h; exact IH .f_of_held
  · subst h; exact IH .f_of_values
  · subst h; exact IH .f_of_arg
  · subst h; exact IH .f_of_when
  · subst h; exact IH .f_of_choose
  · subst h; exact IH .f_of_as)
theorem S_count_of : FnScope N_count_of ["kind"] (defScope s_count_of) := ⟨rfl, rfl, rfl, by decide +kernel, rfl, by decide +kernel, by decide +kernel⟩
theorem b_count_of (C : Cn wd K mg) (IH : ∀ f, Fnc P wd K mg base n (nm f) (ar f) (G n f)) : Fnc P wd K mg base (n + 1) "count_of" 1 (G (n + 1) .f_count_of) := by
  obtain ⟨fa, fd, F, hm, hb⟩ := C.d_count_of.ex
  exact fnc_of (N := N_count_of) (m := m_count_of (G n)) F S_count_of hm hb fun cdv A outer s H E => ⟨_, fun B q0 => have q := q0.q
    (sb_cons (ss_if (st_eq q (se_ix q (se_var 0) se_int) se_str) (sb_one (ss_ret (se_mul (se_call q (IH .f_count_of) (by rfl) (sa_cons (se_ix q (se_var 0) se_int) sa_nil)) (se_call q (IH .f_count_of) (by rfl) (sa_cons (se_ix q (se_var 0) se_int) sa_nil))))) sb_nil)
    (sb_cons (ss_if (st_eq q (se_ix q (se_var 0) se_int) se_str) (sb_one (ss_ret (se_len q (by rfl) C.z_len (sa_cons (se_ix q (se_var 0) se_int) sa_nil)))) sb_nil)
    (sb_one (ss_ret (se_ix q (se_var 0) se_int)))))⟩
theorem S_place_in : FnScope N_place_in ["kind", "value"] (defScope s_place_in) := ⟨rfl, rfl, rfl, by decide +kernel, rfl, by decide +kernel, by decide +kernel⟩
theorem b_place_in (C : Cn wd K mg) (IH : ∀ f, Fnc P wd K mg base n (nm f) (ar f) (G n f)) : Fnc P wd K mg base (n + 1) "place_in" 2 (G (n + 1) .f_place_in) := by
  obtain ⟨fa, fd, F, hm, hb⟩ := C.d_place_in.ex
  exact fnc_of (N := N_place_in) (m := m_place_in (G n)) F S_place_in hm hb fun cdv A outer s H E => ⟨_, fun B q0 => have q := q0.q
    (sb_cons (ss_if (st_eq q (se_ix q (se_var 0) se_int) se_str) (sb_one (ss_ret (se_add q (se_mul (se_call q (IH .f_place_in) (by rfl) (sa_cons (se_ix q (se_var 0) se_int) (sa_cons (se_ix q (se_var 1) se_int) sa_nil))) (se_call q (IH .f_count_of) (by rfl) (sa_cons (se_ix q (se_var 0) se_int) sa_nil))) (se_call q (IH .f_place_in) (by rfl) (sa_cons (se_ix q (se_var 0) se_int) (sa_cons (se_ix q (se_var 1) se_int) sa_nil)))))) sb_nil)
    (sb_cons (ss_if (st_eq q (se_ix q (se_var 0) se_int) se_str) (sb_one (ss_ret (se_ixm q (se_ix q (se_var 0) se_int) (sa_cons (se_var 1) sa_nil)))) sb_nil)
    (sb_one (ss_ret (se_var 1)))))⟩
theorem S_truth : FnScope N_truth ["holds"] (defScope s_truth) := ⟨rfl, rfl, rfl, by decide +kernel, rfl, by decide +kernel, by decide +kernel⟩
theorem b_truth (C : Cn wd K mg) (IH : ∀ f, Fnc P wd K mg base n (nm f) (ar f) (G n f)) : Fnc P wd K mg base (n + 1) "truth" 1 (G (n + 1) .f_truth) := by
  obtain ⟨fa, fd, F, hm, hb⟩ := C.d_truth.ex
  exact fnc_of (N := N_truth) (m := m_truth (G n)) F S_truth hm hb fun cdv A outer s H E => ⟨_, fun B q0 => have q := q0.q
    (sb_one (ss_ret (se_if (st_val (se_var 0)) se_str se_str)))⟩
theorem S_compared : FnScope N_compared ["word", "kind", "one", "other"] (defScope s_compared) := ⟨rfl, rfl, rfl, by decide +kernel, rfl, by decide +kernel, by decide +kernel⟩
theorem b_compared (C : Cn wd K mg) (IH : ∀ f, Fnc P wd K mg base n (nm f) (ar f) (G n f)) : Fnc P wd K mg base (n + 1) "compared" 4 (G (n + 1) .f_compared) := by
  obtain ⟨fa, fd, F, hm, hb⟩ := C.d_compared.ex
  exact fnc_of (N := N_compared) (m := m_compared (G n)) F S_compared hm hb fun cdv A outer s H E => ⟨_, fun B q0 => have q := q0.q
    (sb_cons (ss_if (st_eq q (se_var 0) se_str) (sb_one (ss_ret (se_call q (IH .f_truth) (by rfl) (sa_cons (se_eq q (se_var 2) (se_var 3)) sa_nil)))) sb_nil)
    (sb_one (ss_ret (se_call q (IH .f_truth) (by rfl) (sa_cons (se_lt (se_call q (IH .f_place_in) (by rfl) (sa_cons (se_var 1) (sa_cons (se_var 2) sa_nil))) (se_call q (IH .f_place_in) (by rfl) (sa_cons (se_var 1) (sa_cons (se_var 3) sa_nil)))) sa_nil)))))⟩
theorem S_joined_truths : FnScope N_joined_truths ["word", "one", "other"] (defScope s_joined_truths) := ⟨rfl, rfl, rfl, by decide +kernel, rfl, by decide +kernel, by decide +kernel⟩
theorem b_joined_truths (C : Cn wd K mg) (IH : ∀ f, Fnc P wd K mg base n (nm f) (ar f) (G n f)) : Fnc P wd K mg base (n + 1) "joined_truths" 3 (G (n + 1) .f_joined_truths) := by
  obtain ⟨fa, fd, F, hm, hb⟩ := C.d_joined_truths.ex
  exact fnc_of (N := N_joined_truths) (m := m_joined_truths (G n)) F S_joined_truths hm hb fun cdv A outer s H E => ⟨_, fun B q0 => have q := q0.q
    (sb_cons (ss_if (st_eq q (se_var 0) se_str) (sb_one (ss_ret (se_call q (IH .f_truth) (by rfl) (sa_cons (se_and (se_eq q (se_var 1) se_str) (se_one (se_eq q (se_var 2) se_str))) sa_nil)))) sb_nil)
    (sb_one (ss_ret (se_call q (IH .f_truth) (by rfl) (sa_cons (se_or (se_eq q (se_var 1) se_str) (se_one (se_eq q (se_var 2) se_str))) sa_nil)))))⟩
theorem S_op_value : FnScope N_op_value ["word", "kinds", "values"] (defScope s_op_value) := ⟨rfl, rfl, rfl, by decide +kernel, rfl, by decide +kernel, by decide +kernel⟩
theorem b_op_value (C : Cn wd K mg) (IH : ∀ f, Fnc P wd K mg base n (nm f) (ar f) (G n f)) : Fnc P wd K mg base (n + 1) "op_value" 3 (G (n + 1) .f_op_value) := by
  obtain ⟨fa, fd, F, hm, hb⟩ := C.d_op_value.ex
  exact fnc_of (N := N_op_value) (m := m_op_value (G n)) F S_op_value hm hb fun cdv A outer s H E => ⟨_, fun B q0 => have q := q0.q
    (sb_cons (ss_if (st_eq q (se_var 0) se_str) (sb_one (ss_ret (se_call q (IH .f_truth) (by rfl) (sa_cons (se_eq q (se_ix q (se_var 2) se_int) se_str) sa_nil)))) sb_nil)
    (sb_cons (ss_if (st_eq q (se_var 0) se_str) (sb_one (ss_ret (se_ix q (se_ix q (se_var 2) se_int) se_int))) sb_nil)
    (sb_cons (ss_if (st_eq q (se_var 0) se_str) (sb_one (ss_ret (se_ix q (se_ix q (se_var 2) se_int) se_int))) sb_nil)
    (sb_cons (ss_asg (se_var 2) (sg_tup q.hX q.hK q.calm (sgs_cons (sg_name 3 q.nd) (sgs_cons (sg_name 4 q.nd) sgs_nil))))
    (sb_cons (ss_if (st_eq q (se_var 0) se_str) (sb_one (ss_ret (se_tup (sa_cons (se_var 3) (sa_cons (se_var 4) sa_nil))))) sb_nil)
    (sb_cons (ss_if (st_eq q (se_var 0) se_str) (sb_one (ss_ret (se_mod (se_add q (se_var 3) (se_var 4)) (se_ix q (se_ix q (se_var 1) se_int) se_int)))) sb_nil)
    (sb_cons (ss_if (st_in q (se_var 0) (se_tup (sa_cons se_str (sa_cons se_str sa_nil)))) (sb_one (ss_ret (se_call q (IH .f_joined_truths) (by rfl) (sa_cons (se_var 0) (sa_cons (se_var 3) (sa_cons (se_var 4) sa_nil)))))) sb_nil)
    (sb_one (ss_ret (se_call q (IH .f_compared) (by rfl) (sa_cons (se_var 0) (sa_cons (se_ix q (se_var 1) se_int) (sa_cons (se_var 3) (sa_cons (se_var 4) sa_nil))))))))))))))⟩
theorem S_table_value : FnScope N_table_value ["results", "kinds", "values"] (defScope s_table_value) := ⟨rfl, rfl, rfl, by decide +kernel, rfl, by decide +kernel, by decide +kernel⟩
theorem b_table_value (C : Cn wd K mg) (IH : ∀ f, Fnc P wd K mg base n (nm f) (ar f) (G n f)) : Fnc P wd K mg base (n + 1) "table_value" 3 (G (n + 1) .f_table_value) := by
  obtain ⟨fa, fd, F, hm, hb⟩ := C.d_table_value.ex
  exact fnc_of (N := N_table_value) (m := m_table_value (G n)) F S_table_value hm hb fun cdv A outer s H E => ⟨_, fun B q0 => have q := q0.q
    (sb_cons (ss_set q se_int)
    (sb_cons (ss_for q q0.pw (si_zipM q (by rfl) C.z_zip (sa_cons (se_var 1) (sa_cons (se_var 2) sa_nil))) (sg_tup q.hX q.hK q.calm (sgs_cons (sg_name 4 q.nd) (sgs_cons (sg_name 5 q.nd) sgs_nil))) (sb_one (ss_set q (se_add q (se_mul (se_var 3) (se_call q (IH .f_count_of) (by rfl) (sa_cons (se_var 4) sa_nil))) (se_call q (IH .f_place_in) (by rfl) (sa_cons (se_var 4) (sa_cons (se_var 5) sa_nil)))))))
    (sb_one (ss_ret (se_ix q (se_var 0) (se_var 3))))))⟩
theorem S_value_by : FnScope N_value_by ["right", "kinds", "values"] (defScope s_value_by) := ⟨rfl, rfl, rfl, by decide +kernel, rfl, by decide +kernel, by decide +kernel⟩
theorem b_value_by (C : Cn wd K mg) (IH : ∀ f, Fnc P wd K mg base n (nm f) (ar f) (G n f)) : Fnc P wd K mg base (n + 1) "value_by" 3 (G (n + 1) .f_value_by) := by
  obtain ⟨fa, fd, F, hm, hb⟩ := C.d_value_by.ex
  exact fnc_of (N := N_value_by) (m := m_value_by (G n)) F S_value_by hm hb fun cdv A outer s H E => ⟨_, fun B q0 => have q := q0.q
    (sb_cons (ss_if (st_eq q (se_ix q (se_var 0) se_int) se_str) (sb_one (ss_ret (se_call q (IH .f_op_value) (by rfl) (sa_cons (se_ix q (se_var 0) se_int) (sa_cons (se_var 1) (sa_cons (se_var 2) sa_nil)))))) sb_nil)
    (sb_one (ss_ret (se_call q (IH .f_table_value) (by rfl) (sa_cons (se_ix q (se_var 0) se_int) (sa_cons (se_var 1) (sa_cons (se_var 2) sa_nil)))))))⟩
theorem S_parts_of : FnScope N_parts_of ["right"] (defScope s_parts_of) := ⟨rfl, rfl, rfl, by decide +kernel, rfl, by decide +kernel, by decide +kernel⟩
theorem b_parts_of (C : Cn wd K mg) (IH : ∀ f, Fnc P wd K mg base n (nm f) (ar f) (G n f)) : Fnc P wd K mg base (n + 1) "parts_of" 1 (G (n + 1) .f_parts_of) := by
  obtain ⟨a_ADDED_SHAPES, e_ADDED_SHAPES, k_ADDED_SHAPES⟩ := C.g_ADDED_SHAPES
  obtain ⟨a_SHAPES, e_SHAPES, k_SHAPES⟩ := C.g_SHAPES
  obtain ⟨fa, fd, F, hm, hb⟩ := C.d_parts_of.ex
  exact fnc_of (N := N_parts_of) (m := m_parts_of (G n)) F S_parts_of hm hb fun cdv A outer s H E => ⟨_, fun B q0 => have q := q0.q
    (sb_cons (ss_set q (se_ix q (se_var 0) se_int))
    (sb_cons (ss_set q (se_if (st_kin q (by rfl) e_SHAPES k_SHAPES (se_var 1)) (se_kget q (by rfl) e_SHAPES k_SHAPES (se_var 1) (fun _ _ => rfl)) (se_kget q (by rfl) e_ADDED_SHAPES k_ADDED_SHAPES (se_var 1) (fun _ _ => rfl))))
    (sb_one (ss_ret (se_lzip q (by rfl) C.z_list (by rfl) C.z_zip (sa_cons (se_var 2) (sa_cons (se_sl q (se_var 0) (so_some se_int) so_none) sa_nil)))))))⟩
theorem S_operands : FnScope N_operands ["right"] (defScope s_operands) := ⟨rfl, rfl, rfl, by decide +kernel, rfl, by decide +kernel, by decide +kernel⟩
theorem b_operands (C : Cn wd K mg) (IH : ∀ f, Fnc P wd K mg base n (nm f) (ar f) (G n f)) : Fnc P wd K mg base (n + 1) "operands" 1 (G (n + 1) .f_operands) := by
  obtain ⟨fa, fd, F, hm, hb⟩ := C.d_operands.ex
  exact fnc_of (N := N_operands) (m := m_operands (G n)) F S_operands hm hb fun cdv A outer s H E => ⟨_, fun B q0 => have q := q0.q
    (sb_cons (ss_setN q (sn_lst sa_nil))
    (sb_cons (ss_for q q0.pw (si_seq q (se_call q (IH .f_parts_of) (by rfl) (sa_cons (se_var 0) sa_nil))) (sg_tup q.hX q.hK q.calm (sgs_cons (sg_name 2 q.nd) (sgs_cons (sg_name 3 q.nd) sgs_nil))) (sb_one (ss_if (st_eq q (se_var 2) se_str) (sb_one (ss_expr (se_append q (sa_cons (se_var 3) sa_nil)))) (sb_one (ss_if (st_eq q (se_var 2) se_str) (sb_one (ss_expr (se_extend q (sa_cons (se_var 3) sa_nil)))) (sb_one (ss_if (st_w (sw_and (st_eq q (se_var 2) se_str) (sw_and1 (st_isnot (se_var 3) se_non)))) (sb_one (ss_expr (se_append q (sa_cons (se_ix q (se_var 3) se_int) sa_nil)))) sb_nil)))))))
    (sb_one (ss_ret (se_var 1)))))⟩
theorem S_operands_of : FnScope N_operands_of ["right"] (defScope s_operands_of) := ⟨rfl, rfl, rfl, by decide +kernel, rfl, by decide +kernel, by decide +kernel⟩
theorem b_operands_of (C : Cn wd K mg) (IH : ∀ f, Fnc P wd K mg base n (nm f) (ar f) (G n f)) : Fnc P wd K mg base (n + 1) "operands_of" 1 (G (n + 1) .f_operands_of) := by
  obtain ⟨fa, fd, F, hm, hb⟩ := C.d_operands_of.ex
  exact fnc_of (N := N_operands_of) (m := m_operands_of (G n)) F S_operands_of hm hb fun cdv A outer s H E => ⟨_, fun B q0 => have q := q0.q
    (sb_one (ss_ret (se_tuple q (by rfl) C.z_tuple (sa_cons (se_call q (IH .f_operands) (by rfl) (sa_cons (se_var 0) sa_nil)) sa_nil))))⟩
theorem S_is_here : FnScope N_is_here ["standing"] (defScope s_is_here) := ⟨rfl, rfl, rfl, by decide +kernel, rfl, by decide +kernel, by decide +kernel⟩
theorem b_is_here (C : Cn wd K mg) (IH : ∀ f, Fnc P wd K mg base n (nm f) (ar f) (G n f)) : Fnc P wd K mg base (n + 1) "is_here" 1 (G (n + 1) .f_is_here) := by
  obtain ⟨v_THERE, u_THERE, e_THERE, w_THERE, r_THERE⟩ := C.g_THERE
  obtain ⟨fa, fd, F, hm, hb⟩ := C.d_is_here.ex
  exact fnc_of (N := N_is_here) (m := m_is_here (G n)) F S_is_here hm hb fun cdv A outer s H E => ⟨_, fun B q0 => have q := q0.q
    (sb_one (ss_ret (se_or (se_eq q (se_var 0) (se_globQ q (by rfl) e_THERE w_THERE r_THERE)) (se_one (se_eq q (se_ix q (se_var 0) se_int) se_str)))))⟩
theorem S_do_part : FnScope N_do_part ["standings"] (defScope s_do_part) := ⟨rfl, rfl, rfl, by decide +kernel, rfl, by decide +kernel, by decide +kernel⟩
theorem b_do_part (C : Cn wd K mg) (IH : ∀ f, Fnc P wd K mg base n (nm f) (ar f) (G n f)) : Fnc P wd K mg base (n + 1) "do_part" 1 (G (n + 1) .f_do_part) := by
  obtain ⟨v_ABSENT, u_ABSENT, e_ABSENT, w_ABSENT, r_ABSENT⟩ := C.g_ABSENT
  obtain ⟨fa, fd, F, hm, hb⟩ := C.d_do_part.ex
  exact fnc_of (N := N_do_part) (m := m_do_part (G n)) F S_do_part hm hb fun cdv A outer s H E => ⟨_, fun B q0 => have q := q0.q
    (sb_one (ss_ret (se_and (se_in q (se_globQ q (by rfl) e_ABSENT w_ABSENT r_ABSENT) (se_var 0)) (se_one (se_any q (by rfl) C.z_any (sa_cons (se_lc (own := [("standing", 1)]) q (si_seq q (se_var 0)) (blkOk_by (N := N_do_part) (sc := defScope s_do_part) (by decide +kernel)) (fun _ _ _ _ _ B2 HK => (sg_name 1 q.nd)) (fun _ _ _ _ _ B2 HK q => sf_nil) (fun _ _ _ _ _ B2 HK q => (se_call q (IH .f_is_here) (by rfl) (sa_cons (se_var 1) sa_nil)))) sa_nil))))))⟩
theorem S_of_const : FnScope N_of_const ["right", "kinds", "standings", "memory"] (defScope s_of_const) := ⟨rfl, rfl, rfl, by decide +kernel, rfl, by decide +kernel, by decide +kernel⟩
theorem b_of_const (C : Cn wd K mg) (IH : ∀ f, Fnc P wd K mg base n (nm f) (ar f) (G n f)) : Fnc P wd K mg base (n + 1) "of_const" 4 (G (n + 1) .f_of_const) := by
  obtain ⟨fa, fd, F, hm, hb⟩ := C.d_of_const.ex
  exact fnc_of (N := N_of_const) (m := m_of_const (G n)) F S_of_const hm hb fun cdv A outer s H E => ⟨_, fun B q0 => have q := q0.q
    (sb_cons (ss_set q (se_ix q (se_var 2) se_int))
    (sb_one (ss_ret (se_if (st_val (se_call q (IH .f_is_here) (by rfl) (sa_cons (se_var 4) sa_nil))) (se_tup (sa_cons se_str (sa_cons (se_ix q (se_var 0) se_int) sa_nil))) (se_var 4)))))⟩
theorem S_of_held : FnScope N_of_held ["right", "kinds", "standings", "memory"] (defScope s_of_held) := ⟨rfl, rfl, rfl, by decide +kernel, rfl, by decide +kernel, by decide +kernel⟩
theorem b_of_held (C : Cn wd K mg) (IH : ∀ f, Fnc P wd K mg base n (nm f) (ar f) (G n f)) : Fnc P wd K mg base (n + 1) "of_held" 4 (G (n + 1) .f_of_held) := by
  obtain ⟨v_CLASH, u_CLASH, e_CLASH, w_CLASH, r_CLASH⟩ := C.g_CLASH
  obtain ⟨fa, fd, F, hm, hb⟩ := C.d_of_held.ex
  exact fnc_of (N := N_of_held) (m := m_of_held (G n)) F S_of_held hm hb fun cdv A outer s H E => ⟨_, fun B q0 => have q := q0.q
    (sb_cons (ss_set q (se_ix q (se_var 2) se_int))
    (sb_cons (ss_if (st_val (se_call q (IH .f_do_part) (by rfl) (sa_cons (se_var 2) sa_nil))) (sb_one (ss_ret (se_globQ q (by rfl) e_CLASH w_CLASH r_CLASH))) sb_nil)
    (sb_one (ss_ret (se_if (st_val (se_call q (IH .f_is_here) (by rfl) (sa_cons (se_var 4) sa_nil))) (se_tup (sa_cons se_str (sa_cons (se_var 3) sa_nil))) (se_var 4))))))⟩
theorem S_of_values : FnScope N_of_values ["right", "kinds", "standings", "memory"] (defScope s_of_values) := ⟨rfl, rfl, rfl, by decide +kernel, rfl, by decide +kernel, by decide +kernel⟩
theorem b_of_values (C : Cn wd K mg) (IH : ∀ f, Fnc P wd K mg base n (nm f) (ar f) (G n f)) : Fnc P wd K mg base (n + 1) "of_values" 4 (G (n + 1) .f_of_values) := by
  obtain ⟨v_ABSENT, u_ABSENT, e_ABSENT, w_ABSENT, r_ABSENT⟩ := C.g_ABSENT
  obtain ⟨v_CLASH, u_CLASH, e_CLASH, w_CLASH, r_CLASH⟩ := C.g_CLASH
  obtain ⟨v_THERE, u_THERE, e_THERE, w_THERE, r_THERE⟩ := C.g_THERE
  obtain ⟨v_UNKNOWN, u_UNKNOWN, e_UNKNOWN, w_UNKNOWN, r_UNKNOWN⟩ := C.g_UNKNOWN
  obtain ⟨fa, fd, F, hm, hb⟩ := C.d_of_values.ex
  exact fnc_of (N := N_of_values) (m := m_of_values (G n)) F S_of_values hm hb fun cdv A outer s H E => ⟨_, fun B q0 => have q := q0.q
    (sb_cons (ss_if (st_val (se_call q (IH .f_do_part) (by rfl) (sa_cons (se_var 2) sa_nil))) (sb_one (ss_ret (se_globQ q (by rfl) e_CLASH w_CLASH r_CLASH))) sb_nil)
    (sb_cons (ss_if (st_in q (se_globQ q (by rfl) e_ABSENT w_ABSENT r_ABSENT) (se_var 2)) (sb_one (ss_ret (se_globQ q (by rfl) e_ABSENT w_ABSENT r_ABSENT))) sb_nil)
    (sb_cons (ss_if (st_val (se_all q (by rfl) C.z_all (sa_cons (se_lc (own := [("standing", 4)]) q (si_seq q (se_var 2)) (blkOk_by (N := N_of_values) (sc := defScope s_of_values) (by decide +kernel)) (fun _ _ _ _ _ B2 HK => (sg_name 4 q.nd)) (fun _ _ _ _ _ B2 HK q => sf_nil) (fun _ _ _ _ _ B2 HK q => (se_eq q (se_ix q (se_var 4) se_int) se_str))) sa_nil))) (sb_one (ss_ret (se_tup (sa_cons se_str (sa_cons (se_call q (IH .f_value_by) (by rfl) (sa_cons (se_var 0) (sa_cons (se_var 1) (sa_cons (se_lc (own := [("_", 5), ("value", 6)]) q (si_seq q (se_var 2)) (blkOk_by (N := N_of_values) (sc := defScope s_of_values) (by decide +kernel)) (fun _ _ _ _ _ B2 HK => (sg_tup q.hX HK q.calm (sgs_cons (sg_name 5 q.nd) (sgs_cons (sg_name 6 q.nd) sgs_nil)))) (fun _ _ _ _ _ B2 HK q => sf_nil) (fun _ _ _ _ _ B2 HK q => (se_var 6))) sa_nil)))) sa_nil))))) sb_nil)
    (sb_cons (ss_if (st_val (se_any q (by rfl) C.z_any (sa_cons (se_lc (own := [("standing", 4)]) q (si_seq q (se_var 2)) (blkOk_by (N := N_of_values) (sc := defScope s_of_values) (by decide +kernel)) (fun _ _ _ _ _ B2 HK => (sg_name 4 q.nd)) (fun _ _ _ _ _ B2 HK q => sf_nil) (fun _ _ _ _ _ B2 HK q => (se_call q (IH .f_is_here) (by rfl) (sa_cons (se_var 4) sa_nil)))) sa_nil))) (sb_one (ss_ret (se_globQ q (by rfl) e_THERE w_THERE r_THERE))) sb_nil)
    (sb_one (ss_ret (se_globQ q (by rfl) e_UNKNOWN w_UNKNOWN r_UNKNOWN)))))))⟩
theorem S_of_arg : FnScope N_of_arg ["right", "kinds", "standings", "memory"] (defScope s_of_arg) := ⟨rfl, rfl, rfl, by decide +kernel, rfl, by decide +kernel, by decide +kernel⟩
theorem b_of_arg (C : Cn wd K mg) (IH : ∀ f, Fnc P wd K mg base n (nm f) (ar f) (G n f)) : Fnc P wd K mg base (n + 1) "of_arg" 4 (G (n + 1) .f_of_arg) := by
  obtain ⟨v_ABSENT, u_ABSENT, e_ABSENT, w_ABSENT, r_ABSENT⟩ := C.g_ABSENT
  obtain ⟨v_CLASH, u_CLASH, e_CLASH, w_CLASH, r_CLASH⟩ := C.g_CLASH
  obtain ⟨v_THERE, u_THERE, e_THERE, w_THERE, r_THERE⟩ := C.g_THERE
  obtain ⟨v_UNKNOWN, u_UNKNOWN, e_UNKNOWN, w_UNKNOWN, r_UNKNOWN⟩ := C.g_UNKNOWN
  obtain ⟨fa, fd, F, hm, hb⟩ := C.d_of_arg.ex
  exact fnc_of (N := N_of_arg) (m := m_of_arg (G n)) F S_of_arg hm hb fun cdv A outer s H E => ⟨_, fun B q0 => have q := q0.q
    (sb_cons (ss_set q (se_ix q (se_var 2) (se_ix q (se_var 0) se_int)))
    (sb_cons (ss_if (st_val (se_call q (IH .f_do_part) (by rfl) (sa_cons (se_var 2) sa_nil))) (sb_one (ss_ret (se_globQ q (by rfl) e_CLASH w_CLASH r_CLASH))) sb_nil)
    (sb_cons (ss_if (st_in q (se_globQ q (by rfl) e_ABSENT w_ABSENT r_ABSENT) (se_var 2)) (sb_one (ss_ret (se_globQ q (by rfl) e_ABSENT w_ABSENT r_ABSENT))) sb_nil)
    (sb_cons (ss_if (st_eq q (se_ix q (se_var 4) se_int) se_str) (sb_one (ss_ret (se_var 4))) sb_nil)
    (sb_cons (ss_if (st_val (se_any q (by rfl) C.z_any (sa_cons (se_lc (own := [("standing", 5)]) q (si_seq q (se_var 2)) (blkOk_by (N := N_of_arg) (sc := defScope s_of_arg) (by decide +kernel)) (fun _ _ _ _ _ B2 HK => (sg_name 5 q.nd)) (fun _ _ _ _ _ B2 HK q => sf_nil) (fun _ _ _ _ _ B2 HK q => (se_call q (IH .f_is_here) (by rfl) (sa_cons (se_var 5) sa_nil)))) sa_nil))) (sb_one (ss_ret (se_globQ q (by rfl) e_THERE w_THERE r_THERE))) sb_nil)
    (sb_one (ss_ret (se_globQ q (by rfl) e_UNKNOWN w_UNKNOWN r_UNKNOWN))))))))⟩
theorem S_of_when : FnScope N_of_when ["right", "kinds", "standings", "memory"] (defScope s_of_when) := ⟨rfl, rfl, rfl, by decide +kernel, rfl, by decide +kernel, by decide +kernel⟩
theorem b_of_when (C : Cn wd K mg) (IH : ∀ f, Fnc P wd K mg base n (nm f) (ar f) (G n f)) : Fnc P wd K mg base (n + 1) "of_when" 4 (G (n + 1) .f_of_when) := by
  obtain ⟨v_ABSENT, u_ABSENT, e_ABSENT, w_ABSENT, r_ABSENT⟩ := C.g_ABSENT
  obtain ⟨v_CLASH, u_CLASH, e_CLASH, w_CLASH, r_CLASH⟩ := C.g_CLASH
  obtain ⟨v_UNKNOWN, u_UNKNOWN, e_UNKNOWN, w_UNKNOWN, r_UNKNOWN⟩ := C.g_UNKNOWN
  obtain ⟨fa, fd, F, hm, hb⟩ := C.d_of_when.ex
  exact fnc_of (N := N_of_when) (m := m_of_when (G n)) F S_of_when hm hb fun cdv A outer s H E => ⟨_, fun B q0 => have q := q0.q
    (sb_cons (ss_asg (se_var 2) (sg_tup q.hX q.hK q.calm (sgs_cons (sg_name 4 q.nd) (sgs_cons (sg_name 5 q.nd) sgs_nil))))
    (sb_cons (ss_if (st_val (se_call q (IH .f_do_part) (by rfl) (sa_cons (se_var 2) sa_nil))) (sb_one (ss_ret (se_globQ q (by rfl) e_CLASH w_CLASH r_CLASH))) sb_nil)
    (sb_cons (ss_if (st_in q (se_globQ q (by rfl) e_ABSENT w_ABSENT r_ABSENT) (se_var 2)) (sb_one (ss_ret (se_globQ q (by rfl) e_ABSENT w_ABSENT r_ABSENT))) sb_nil)
    (sb_cons (ss_if (st_ne q (se_ix q (se_var 5) se_int) se_str) (sb_one (ss_ret (se_globQ q (by rfl) e_UNKNOWN w_UNKNOWN r_UNKNOWN))) sb_nil)
    (sb_one (ss_ret (se_if (st_eq q (se_ix q (se_var 5) se_int) (se_ix q (se_var 0) se_int)) (se_var 4) (se_globQ q (by rfl) e_ABSENT w_ABSENT r_ABSENT))))))))⟩
theorem S_of_choose : FnScope N_of_choose ["right", "kinds", "standings", "memory"] (defScope s_of_choose) := ⟨rfl, rfl, rfl, by decide +kernel, rfl, by decide +kernel, by decide +kernel⟩
theorem b_of_choose (C : Cn wd K mg) (IH : ∀ f, Fnc P wd K mg base n (nm f) (ar f) (G n f)) : Fnc P wd K mg base (n + 1) "of_choose" 4 (G (n + 1) .f_of_choose) := by
  obtain ⟨v_ABSENT, u_ABSENT, e_ABSENT, w_ABSENT, r_ABSENT⟩ := C.g_ABSENT
  obtain ⟨v_CLASH, u_CLASH, e_CLASH, w_CLASH, r_CLASH⟩ := C.g_CLASH
  obtain ⟨v_THERE, u_THERE, e_THERE, w_THERE, r_THERE⟩ := C.g_THERE
  obtain ⟨fa, fd, F, hm, hb⟩ := C.d_of_choose.ex
  exact fnc_of (N := N_of_choose) (m := m_of_choose (G n)) F S_of_choose hm hb fun cdv A outer s H E => ⟨_, fun B q0 => have q := q0.q
    (sb_cons (ss_par q (sa_cons (se_ix q (se_var 2) se_int) (sa_cons (se_sl q (se_var 2) (so_some se_int) so_none) sa_nil)))
    (sb_cons (ss_if (st_eq q (se_var 4) (se_globQ q (by rfl) e_ABSENT w_ABSENT r_ABSENT)) (sb_one (ss_ret (se_if (st_val (se_call q (IH .f_do_part) (by rfl) (sa_cons (se_var 2) sa_nil))) (se_globQ q (by rfl) e_CLASH w_CLASH r_CLASH) (se_globQ q (by rfl) e_ABSENT w_ABSENT r_ABSENT)))) sb_nil)
    (sb_cons (ss_if (st_ne q (se_ix q (se_var 4) se_int) se_str) (sb_one (ss_ret (se_var 4))) sb_nil)
    (sb_cons (ss_set q (se_ixm q (se_ix q (se_ix q (se_var 1) se_int) se_int) (sa_cons (se_ix q (se_var 4) se_int) sa_nil)))
    (sb_cons (ss_set q (se_ix q (se_var 5) (se_var 6)))
    (sb_cons (ss_set q (se_lst (sa_star q (se_sl q (se_var 5) so_none (so_some (se_var 6))) (sa_star q (se_sl q (se_var 5) (so_some (se_add q (se_var 6) se_int)) so_none) sa_nil))))
    (sb_cons (ss_if (st_w (sw_or (st_eq q (se_var 7) (se_globQ q (by rfl) e_ABSENT w_ABSENT r_ABSENT)) (sw_or1 (st_val (se_any q (by rfl) C.z_any (sa_cons (se_lc (own := [("standing", 9)]) q (si_seq q (se_var 8)) (blkOk_by (N := N_of_choose) (sc := defScope s_of_choose) (by decide +kernel)) (fun _ _ _ _ _ B2 HK => (sg_name 9 q.nd)) (fun _ _ _ _ _ B2 HK q => sf_nil) (fun _ _ _ _ _ B2 HK q => (se_call q (IH .f_is_here) (by rfl) (sa_cons (se_var 9) sa_nil)))) sa_nil)))))) (sb_one (ss_ret (se_globQ q (by rfl) e_CLASH w_CLASH r_CLASH))) sb_nil)
    (sb_one (ss_ret (se_if (st_eq q (se_ix q (se_var 7) se_int) se_str) (se_var 7) (se_globQ q (by rfl) e_THERE w_THERE r_THERE)))))))))))⟩
theorem S_of_as : FnScope N_of_as ["right", "kinds", "standings", "memory"] (defScope s_of_as) := ⟨rfl, rfl, rfl, by decide +kernel, rfl, by decide +kernel, by decide +kernel⟩
theorem b_of_as (C : Cn wd K mg) (IH : ∀ f, Fnc P wd K mg base n (nm f) (ar f) (G n f)) : Fnc P wd K mg base (n + 1) "of_as" 4 (G (n + 1) .f_of_as) := by
  obtain ⟨fa, fd, F, hm, hb⟩ := C.d_of_as.ex
  exact fnc_of (N := N_of_as) (m := m_of_as (G n)) F S_of_as hm hb fun cdv A outer s H E => ⟨_, fun B q0 => have q := q0.q
    (sb_one (ss_ret (se_ix q (se_var 2) se_int)))⟩
theorem S_standing_of : FnScope N_standing_of ["right", "kinds", "standings", "memory"] (defScope s_standing_of) := ⟨rfl, rfl, rfl, by decide +kernel, rfl, by decide +kernel, by decide +kernel⟩
theorem b_standing_of (C : Cn wd K mg) (IH : ∀ f, Fnc P wd K mg base n (nm f) (ar f) (G n f)) : Fnc P wd K mg base (n + 1) "standing_of" 4 (G (n + 1) .f_standing_of) := by
  obtain ⟨v_CLASH, u_CLASH, e_CLASH, w_CLASH, r_CLASH⟩ := C.g_CLASH
  obtain ⟨a_RULES, e_RULES, k_RULES⟩ := C.g_RULES
  obtain ⟨fa, fd, F, hm, hb⟩ := C.d_standing_of.ex
  exact fnc_of (N := N_standing_of) (m := m_standing_of (G n)) F S_standing_of hm hb fun cdv A outer s H E => ⟨_, fun B q0 => have q := q0.q
    (sb_cons (ss_if (st_in q (se_globQ q (by rfl) e_CLASH w_CLASH r_CLASH) (se_var 2)) (sb_one (ss_ret (se_globQ q (by rfl) e_CLASH w_CLASH r_CLASH))) sb_nil)
    (sb_cons (ss_set q (se_kget q (by rfl) e_RULES k_RULES (se_ix q (se_var 0) se_int) (fun _ _ => rfl)))
    (sb_one (ss_ret (se_callV (tb := tb_ (G n)) q C.hmg (tb_ok IH) (sa_cons (se_var 0) (sa_cons (se_var 1) (sa_cons (se_var 2) (sa_cons (se_var 3) sa_nil)))))))))⟩
theorem S__law_pick : FnScope N__law_pick ["_law_source", "_law_most"] (defScope s__law_pick) := ⟨rfl, rfl, rfl, by decide +kernel, rfl, by decide +kernel, by decide +kernel⟩
theorem b__law_pick (C : Cn wd K mg) (IH : ∀ f, Fnc P wd K mg base n (nm f) (ar f) (G n f)) : Fnc P wd K mg base (n + 1) "_law_pick" 2 (G (n + 1) .f__law_pick) := by
  obtain ⟨fa, fd, F, hm, hb⟩ := C.d__law_pick.ex
  exact fnc_of (N := N__law_pick) (m := m__law_pick (G n)) F S__law_pick hm hb fun cdv A outer s H E => ⟨_, fun B q0 => have q := q0.q
    (sb_cons (ss_if (st_lt (se_var 1) se_int) (sb_one (ss_ret se_int)) sb_nil)
    (sb_cons (ss_set q (se_src q .cells rfl))
    (sb_cons (ss_while 100 q0.pw (st_w (sw_and (st_lt (se_src q .left rfl) se_int) (sw_and1 (st_gt (se_clen q (by rfl) C.z_len) se_int)))) (sb_one (ss_put q .left (se_cpop q) rfl)))
    (sb_cons (ss_set q (se_src q .left rfl))
    (sb_cons (ss_if (st_gt (se_var 3) se_int) (sb_cons (ss_put q .left (se_fdiv (se_var 3) (se_var 1)) rfl)
    (sb_one (ss_ret (se_mod (se_int1 (by rfl) C.z_int (sa_cons (se_var 3) sa_nil)) (se_var 1))))) sb_nil)
    (sb_cons (ss_put q .turn (se_add q (se_src q .turn rfl) se_int) rfl)
    (sb_cons (ss_set q (se_src q .turn rfl))
    (sb_cons (ss_set q (se_mod (se_int1 (by rfl) C.z_int (sa_cons (se_add q (se_src q .mixed rfl) (se_mul (se_var 4) se_int)) sa_nil)) se_int))
    (sb_cons (ss_set q (se_mod (se_int1 (by rfl) C.z_int (sa_cons (se_add q (se_mul (se_var 5) (se_var 5)) (se_mul (se_var 4) se_int)) sa_nil)) se_int))
    (sb_one (ss_ret (se_mod (se_int1 (by rfl) C.z_int (sa_cons (se_fdiv (se_var 5) se_int) sa_nil)) (se_var 1)))))))))))))⟩
theorem S__law_draw_type : FnScope N__law_draw_type ["_law_source"] (defScope s__law_draw_type) := ⟨rfl, rfl, rfl, by decide +kernel, rfl, by decide +kernel, by decide +kernel⟩
theorem b__law_draw_type (C : Cn wd K mg) (IH : ∀ f, Fnc P wd K mg base n (nm f) (ar f) (G n f)) : Fnc P wd K mg base (n + 1) "_law_draw_type" 1 (G (n + 1) .f__law_draw_type) := by
  obtain ⟨fa, fd, F, hm, hb⟩ := C.d__law_draw_type.ex
  exact fnc_of (N := N__law_draw_type) (m := m__law_draw_type (G n)) F S__law_draw_type hm hb fun cdv A outer s H E => ⟨_, fun B q0 => have q := q0.q
    (sb_cons (ss_set q (se_lst (sa_cons (se_tup (sa_cons se_str (sa_cons (se_tup (sa_cons se_str (sa_cons se_str sa_nil))) sa_nil))) (sa_cons (se_tup (sa_cons se_str (sa_cons (se_tup (sa_cons se_str (sa_cons se_str sa_nil))) sa_nil))) (sa_cons (se_tup (sa_cons se_str (sa_cons se_int sa_nil))) (sa_cons (se_tup (sa_cons se_str (sa_cons se_int sa_nil))) (sa_cons (se_tup (sa_cons se_str (sa_cons (se_tup (sa_cons se_str (sa_cons se_str sa_nil))) sa_nil))) sa_nil)))))))
    (sb_one (ss_ret (se_ix q (se_add q (se_var 1) (se_lst (sa_cons (se_tup (sa_cons se_str (sa_cons (se_tup (sa_cons se_str (sa_cons se_str (sa_cons se_str sa_nil)))) sa_nil))) sa_nil))) (se_call q (IH .f__law_pick) (by rfl) (sa_cons (se_var 0) (sa_cons se_int sa_nil)))))))⟩
theorem S__law_values : FnScope N__law_values ["_law_type_here"] (defScope s__law_values) := ⟨rfl, rfl, rfl, by decide +kernel, rfl, by decide +kernel, by decide +kernel⟩
theorem b__law_values (C : Cn wd K mg) (IH : ∀ f, Fnc P wd K mg base n (nm f) (ar f) (G n f)) : Fnc P wd K mg base (n + 1) "_law_values" 1 (G (n + 1) .f__law_values) := by
  obtain ⟨fa, fd, F, hm, hb⟩ := C.d__law_values.ex
  exact fnc_of (N := N__law_values) (m := m__law_values (G n)) F S__law_values hm hb fun cdv A outer s H E => ⟨_, fun B q0 => have q := q0.q
    (sb_cons (ss_if (st_eq q (se_ix q (se_var 0) se_int) se_str) (sb_one (ss_ret (se_list q (by rfl) C.z_list (sa_cons (se_ix q (se_var 0) se_int) sa_nil)))) sb_nil)
    (sb_cons (ss_if (st_eq q (se_ix q (se_var 0) se_int) se_str) (sb_one (ss_ret (se_lrange1 q (by rfl) C.z_list (by rfl) C.z_range (se_ix q (se_var 0) se_int)))) sb_nil)
    (sb_cons (ss_par q (sa_cons (se_lst sa_nil) (sa_cons (se_call q (IH .f__law_values) (by rfl) (sa_cons (se_ix q (se_var 0) se_int) sa_nil)) sa_nil)))
    (sb_cons (ss_for q q0.pw (si_seq q (se_call q (IH .f__law_values) (by rfl) (sa_cons (se_ix q (se_var 0) se_int) sa_nil))) (sg_name 3 q.nd) (sb_one (ss_set q (se_add q (se_var 1) (se_lc (own := [("_law_u", 4)]) q (si_seq q (se_var 2)) (blkOk_by (N := N__law_values) (sc := defScope s__law_values) (by decide +kernel)) (fun _ _ _ _ _ B2 HK => (sg_name 4 q.nd)) (fun _ _ _ _ _ B2 HK q => sf_nil) (fun _ _ _ _ _ B2 HK q => (se_tup (sa_cons (se_var 3) (sa_cons (se_var 4) sa_nil)))))))))
    (sb_one (ss_ret (se_var 1)))))))⟩
theorem S__law_draw_value : FnScope N__law_draw_value ["_law_source", "_law_type_here"] (defScope s__law_draw_value) := ⟨rfl, rfl, rfl, by decide +kernel, rfl, by decide +kernel, by decide +kernel⟩
theorem b__law_draw_value (C : Cn wd K mg) (IH : ∀ f, Fnc P wd K mg base n (nm f) (ar f) (G n f)) : Fnc P wd K mg base (n + 1) "_law_draw_value" 2 (G (n + 1) .f__law_draw_value) := by
  obtain ⟨fa, fd, F, hm, hb⟩ := C.d__law_draw_value.ex
  exact fnc_of (N := N__law_draw_value) (m := m__law_draw_value (G n)) F S__law_draw_value hm hb fun cdv A outer s H E => ⟨_, fun B q0 => have q := q0.q
    (sb_cons (ss_set q (se_call q (IH .f__law_values) (by rfl) (sa_cons (se_var 1) sa_nil)))
    (sb_one (ss_ret (se_ix q (se_var 2) (se_call q (IH .f__law_pick) (by rfl) (sa_cons (se_var 0) (sa_cons (se_len q (by rfl) C.z_len (sa_cons (se_var 2) sa_nil)) sa_nil)))))))⟩
theorem S__law_draw_right : FnScope N__law_draw_right ["_law_source"] (defScope s__law_draw_right) := ⟨rfl, rfl, rfl, by decide +kernel, rfl, by decide +kernel, by decide +kernel⟩
theorem b__law_draw_right (C : Cn wd K mg) (IH : ∀ f, Fnc P wd K mg base n (nm f) (ar f) (G n f)) : Fnc P wd K mg base (n + 1) "_law_draw_right" 1 (G (n + 1) .f__law_draw_right) := by
  obtain ⟨fa, fd, F, hm, hb⟩ := C.d__law_draw_right.ex
  exact fnc_of (N := N__law_draw_right) (m := m__law_draw_right (G n)) F S__law_draw_right hm hb fun cdv A outer s H E => ⟨_, fun B q0 => have q := q0.q
    (sb_cons (ss_asg (se_tup (sa_cons (se_tup (sa_cons se_str (sa_cons (se_tup (sa_cons se_str (sa_cons se_str sa_nil))) sa_nil))) (sa_cons (se_tup (sa_cons se_str (sa_cons (se_tup (sa_cons se_str (sa_cons se_str (sa_cons se_str sa_nil)))) sa_nil))) sa_nil))) (sg_tup q.hX q.hK q.calm (sgs_cons (sg_name 1 q.nd) (sgs_cons (sg_name 2 q.nd) sgs_nil))))
    (sb_cons (ss_par q (sa_cons (se_call q (IH .f__law_draw_type) (by rfl) (sa_cons (se_var 0) sa_nil)) (sa_cons (se_call q (IH .f__law_draw_type) (by rfl) (sa_cons (se_var 0) sa_nil)) sa_nil)))
    (sb_cons (ss_asg (se_tup (sa_cons (se_tup (sa_cons se_str (sa_cons (se_var 3) (sa_cons (se_var 4) sa_nil)))) (sa_cons (se_call q (IH .f__law_pick) (by rfl) (sa_cons (se_var 0) (sa_cons se_int sa_nil))) sa_nil))) (sg_tup q.hX q.hK q.calm (sgs_cons (sg_name 5 q.nd) (sgs_cons (sg_name 6 q.nd) sgs_nil))))
    (sb_cons (ss_if (st_lt (se_var 6) se_int) (sb_cons (ss_set q (se_lst (sa_cons (se_tup (sa_cons se_str (sa_cons (se_lst (sa_cons (se_var 1) sa_nil)) sa_nil))) (sa_cons (se_tup (sa_cons se_str (sa_cons (se_mul (se_lst (sa_cons (se_var 1) sa_nil)) se_int) sa_nil))) (sa_cons (se_tup (sa_cons se_str (sa_cons (se_mul (se_lst (sa_cons (se_var 1) sa_nil)) se_int) sa_nil))) (sa_cons (se_tup (sa_cons se_str (sa_cons (se_lst (sa_cons (se_var 5) sa_nil)) sa_nil))) (sa_cons (se_tup (sa_cons se_str (sa_cons (se_lst (sa_cons (se_var 5) sa_nil)) sa_nil))) sa_nil)))))))
    (sb_cons (ss_asg (se_ix q (se_add q (se_var 7) (se_lst (sa_cons (se_tup (sa_cons se_str (sa_cons (se_lst (sa_cons (se_var 3) (sa_cons (se_var 4) sa_nil))) sa_nil))) sa_nil))) (se_var 6)) (sg_tup q.hX q.hK q.calm (sgs_cons (sg_name 8 q.nd) (sgs_cons (sg_name 9 q.nd) sgs_nil))))
    (sb_one (ss_ret (se_tup (sa_cons (se_tup (sa_cons se_str (sa_cons (se_var 8) (sa_cons (se_sl q (se_tup (sa_cons se_str (sa_cons se_str sa_nil))) so_none (so_some (se_len q (by rfl) C.z_len (sa_cons (se_var 9) sa_nil)))) sa_nil)))) (sa_cons (se_var 9) sa_nil))))))) sb_nil)
    (sb_cons (ss_if (st_lt (se_var 6) se_int) (sb_cons (ss_set q (se_tup (sa_cons se_str (sa_cons (se_add q se_int (se_call q (IH .f__law_pick) (by rfl) (sa_cons (se_var 0) (sa_cons se_int sa_nil)))) sa_nil))))
    (sb_cons (ss_set q (se_ix q (se_lst (sa_cons (se_var 3) (sa_cons (se_ix q (se_lst (sa_cons (se_var 3) (sa_cons (se_var 2) (sa_cons (se_var 5) sa_nil)))) (se_call q (IH .f__law_pick) (by rfl) (sa_cons (se_var 0) (sa_cons se_int sa_nil)))) (sa_cons (se_var 10) sa_nil)))) (se_sub (se_var 6) se_int)))
    (sb_one (ss_ret (se_tup (sa_cons (se_tup (sa_cons se_str (sa_cons (se_ix q (se_lst (sa_cons se_str (sa_cons se_str (sa_cons se_str sa_nil)))) (se_sub (se_var 6) se_int)) (sa_cons (se_tup (sa_cons se_str (sa_cons se_str sa_nil))) sa_nil)))) (sa_cons (se_lst (sa_cons (se_var 11) (sa_cons (se_var 11) sa_nil))) sa_nil))))))) sb_nil)
    (sb_cons (ss_if (st_eq q (se_var 6) se_int) (sb_cons (ss_set q (se_sl q (se_lst (sa_cons (se_var 2) (sa_cons (se_var 3) (sa_cons (se_var 4) sa_nil)))) so_none (so_some (se_add q se_int (se_call q (IH .f__law_pick) (by rfl) (sa_cons (se_var 0) (sa_cons se_int sa_nil)))))))
    (sb_cons (ss_set q se_int)
    (sb_cons (ss_for q q0.pw (si_seq q (se_var 9)) (sg_name 11 q.nd) (sb_one (ss_set q (se_mul (se_var 12) (se_len q (by rfl) C.z_len (sa_cons (se_call q (IH .f__law_values) (by rfl) (sa_cons (se_var 11) sa_nil)) sa_nil))))))
    (sb_cons (ss_set q (se_tuple q (by rfl) C.z_tuple (sa_cons (se_lc (own := [("_law_lap", 14)]) q (si_range1 (by rfl) C.z_range (sa_cons (se_var 12) sa_nil)) (blkOk_by (N := N__law_draw_right) (sc := defScope s__law_draw_right) (by decide +kernel)) (fun _ _ _ _ _ B2 HK => (sg_name 14 q.nd)) (fun _ _ _ _ _ B2 HK q => sf_nil) (fun _ _ _ _ _ B2 HK q => (se_call q (IH .f__law_draw_value) (by rfl) (sa_cons (se_var 0) (sa_cons (se_var 5) sa_nil))))) sa_nil)))
    (sb_one (ss_ret (se_tup (sa_cons (se_tup (sa_cons se_str (sa_cons (se_var 5) (sa_cons (se_var 13) (sa_cons (se_sl q (se_tup (sa_cons se_str (sa_cons se_str (sa_cons se_str sa_nil)))) so_none (so_some (se_len q (by rfl) C.z_len (sa_cons (se_var 9) sa_nil)))) sa_nil))))) (sa_cons (se_var 9) sa_nil))))))))) sb_nil)
    (sb_cons (ss_if (st_eq q (se_var 6) se_int) (sb_one (ss_ret (se_tup (sa_cons (se_tup (sa_cons se_str (sa_cons (se_var 3) (sa_cons (se_call q (IH .f__law_draw_value) (by rfl) (sa_cons (se_var 0) (sa_cons (se_var 3) sa_nil))) (sa_cons se_str sa_nil))))) (sa_cons (se_lst (sa_cons (se_var 4) sa_nil)) sa_nil))))) sb_nil)
    (sb_cons (ss_if (st_eq q (se_var 6) se_int) (sb_one (ss_ret (se_tup (sa_cons (se_tup (sa_cons se_str (sa_cons (se_var 3) (sa_cons (se_call q (IH .f__law_draw_value) (by rfl) (sa_cons (se_var 0) (sa_cons (se_var 3) sa_nil))) (sa_cons se_str (sa_cons se_str (sa_cons (se_tup (sa_cons (se_tup (sa_cons se_str (sa_cons se_str sa_nil))) sa_nil)) sa_nil))))))) (sa_cons (se_lst (sa_cons (se_var 3) (sa_cons (se_var 4) sa_nil))) sa_nil))))) sb_nil)
    (sb_cons (ss_if (st_eq q (se_var 6) se_int) (sb_one (ss_ret (se_tup (sa_cons (se_tup (sa_cons se_str (sa_cons se_str (sa_cons se_str (sa_cons (se_ix q (se_lst (sa_cons se_str (sa_cons se_str (sa_cons se_str sa_nil)))) (se_call q (IH .f__law_pick) (by rfl) (sa_cons (se_var 0) (sa_cons se_int sa_nil)))) sa_nil))))) (sa_cons (se_lst (sa_cons (se_var 3) (sa_cons (se_var 2) sa_nil))) sa_nil))))) sb_nil)
    (sb_cons (ss_if (st_eq q (se_var 6) se_int) (sb_one (ss_ret (se_tup (sa_cons (se_tup (sa_cons se_str (sa_cons se_str (sa_cons (se_tup (sa_cons se_str (sa_cons se_str (sa_cons se_str sa_nil)))) sa_nil)))) (sa_cons (se_lst (sa_cons (se_var 2) (sa_cons (se_var 3) (sa_cons (se_var 3) (sa_cons (se_var 3) sa_nil))))) sa_nil))))) sb_nil)
    (sb_cons (ss_if (st_eq q (se_var 6) se_int) (sb_one (ss_ret (se_tup (sa_cons (se_tup (sa_cons se_str (sa_cons se_str sa_nil))) (sa_cons (se_lst (sa_cons (se_var 3) sa_nil)) sa_nil))))) sb_nil)
    (sb_one (ss_ret (se_tup (sa_cons (se_tup (sa_cons se_str (sa_cons (se_sl q (se_tup (sa_cons se_str (sa_cons se_str (sa_cons se_str sa_nil)))) so_none (so_some (se_add q se_int (se_call q (IH .f__law_pick) (by rfl) (sa_cons (se_var 0) (sa_cons se_int sa_nil)))))) (sa_cons (se_call q (IH .f__law_pick) (by rfl) (sa_cons (se_var 0) (sa_cons se_int sa_nil))) sa_nil)))) (sa_cons (se_lst (sa_cons (se_var 3) (sa_cons (se_var 4) (sa_cons (se_var 2) sa_nil)))) sa_nil))))))))))))))))⟩
theorem S__law_operands : FnScope N__law_operands ["_law_right"] (defScope s__law_operands) := ⟨rfl, rfl, rfl, by decide +kernel, rfl, by decide +kernel, by decide +kernel⟩
theorem b__law_operands (C : Cn wd K mg) (IH : ∀ f, Fnc P wd K mg base n (nm f) (ar f) (G n f)) : Fnc P wd K mg base (n + 1) "_law_operands" 1 (G (n + 1) .f__law_operands) := by
  obtain ⟨fa, fd, F, hm, hb⟩ := C.d__law_operands.ex
  exact fnc_of (N := N__law_operands) (m := m__law_operands (G n)) F S__law_operands hm hb fun cdv A outer s H E => ⟨_, fun B q0 => have q := q0.q
    (sb_cons (ss_if (st_in q (se_ix q (se_var 0) se_int) (se_tup (sa_cons se_str (sa_cons se_str (sa_cons se_str sa_nil))))) (sb_one (ss_ret (se_dispget q (fun B2 HK q => (sps_cons (by decide +kernel) (se_sl q (se_var 0) (so_some se_int) so_none) (sps_cons (by decide +kernel) (se_sl q (se_var 0) (so_some se_int) (so_some se_int)) (sps_cons (by decide +kernel) (se_sl q (se_var 0) (so_some se_int) (so_some se_int)) sps_nil)))) (fun B2 HK q => (se_ix q (se_var 0) se_int)) (by decide +kernel) (by decide)))) sb_nil)
    (sb_cons (ss_if (st_in q (se_ix q (se_var 0) se_int) (se_tup (sa_cons se_str (sa_cons se_str sa_nil)))) (sb_one (ss_ret (se_add q (se_sl q (se_var 0) (so_some se_int) (so_some se_int)) (se_if (st_eq q (se_ix q (se_var 0) se_int) se_str) (se_ix q (se_var 0) se_int) (se_tup sa_nil))))) sb_nil)
    (sb_one (ss_ret (se_if (st_eq q (se_ix q (se_var 0) se_int) se_str) (se_tup sa_nil) (se_if (st_eq q (se_ix q (se_var 0) se_int) se_str) (se_ix q (se_var 0) se_int) (se_ix q (se_var 0) (se_neg (se_int)))))))))⟩
theorem S__law_draw_standing : FnScope N__law_draw_standing ["_law_source", "_law_type_here"] (defScope s__law_draw_standing) := ⟨rfl, rfl, rfl, by decide +kernel, rfl, by decide +kernel, by decide +kernel⟩
theorem b__law_draw_standing (C : Cn wd K mg) (IH : ∀ f, Fnc P wd K mg base n (nm f) (ar f) (G n f)) : Fnc P wd K mg base (n + 1) "_law_draw_standing" 2 (G (n + 1) .f__law_draw_standing) := by
  obtain ⟨fa, fd, F, hm, hb⟩ := C.d__law_draw_standing.ex
  exact fnc_of (N := N__law_draw_standing) (m := m__law_draw_standing (G n)) F S__law_draw_standing hm hb fun cdv A outer s H E => ⟨_, fun B q0 => have q := q0.q
    (sb_cons (ss_set q (se_call q (IH .f__law_pick) (by rfl) (sa_cons (se_var 0) (sa_cons se_int sa_nil))))
    (sb_cons (ss_if (st_gt (se_var 2) se_int) (sb_one (ss_ret (se_tup (sa_cons se_str (sa_cons (se_call q (IH .f__law_draw_value) (by rfl) (sa_cons (se_var 0) (sa_cons (se_var 1) sa_nil))) sa_nil))))) sb_nil)
    (sb_one (ss_ret (se_ix q (se_lst (sa_cons (se_tup (sa_cons se_str sa_nil)) (sa_cons (se_tup (sa_cons se_str sa_nil)) (sa_cons (se_tup (sa_cons se_str sa_nil)) (sa_cons (se_if (st_eq q (se_call q (IH .f__law_pick) (by rfl) (sa_cons (se_var 0) (sa_cons se_int sa_nil))) se_int) (se_tup (sa_cons se_str sa_nil)) (se_tup (sa_cons se_str sa_nil))) sa_nil))))) (se_var 2))))))⟩
theorem S__law_is_there : FnScope N__law_is_there ["_law_one"] (defScope s__law_is_there) := ⟨rfl, rfl, rfl, by decide +kernel, rfl, by decide +kernel, by decide +kernel⟩
theorem b__law_is_there (C : Cn wd K mg) (IH : ∀ f, Fnc P wd K mg base n (nm f) (ar f) (G n f)) : Fnc P wd K mg base (n + 1) "_law_is_there" 1 (G (n + 1) .f__law_is_there) := by
  obtain ⟨fa, fd, F, hm, hb⟩ := C.d__law_is_there.ex
  exact fnc_of (N := N__law_is_there) (m := m__law_is_there (G n)) F S__law_is_there hm hb fun cdv A outer s H E => ⟨_, fun B q0 => have q := q0.q
    (sb_one (ss_ret (se_in q (se_ix q (se_var 0) se_int) (se_tup (sa_cons se_str (sa_cons se_str sa_nil))))))⟩
theorem S__law_chosen : FnScope N__law_chosen ["_law_some", "_law_words"] (defScope s__law_chosen) := ⟨rfl, rfl, rfl, by decide +kernel, rfl, by decide +kernel, by decide +kernel⟩
theorem b__law_chosen (C : Cn wd K mg) (IH : ∀ f, Fnc P wd K mg base n (nm f) (ar f) (G n f)) : Fnc P wd K mg base (n + 1) "_law_chosen" 2 (G (n + 1) .f__law_chosen) := by
  obtain ⟨fa, fd, F, hm, hb⟩ := C.d__law_chosen.ex
  exact fnc_of (N := N__law_chosen) (m := m__law_chosen (G n)) F S__law_chosen hm hb fun cdv A outer s H E => ⟨_, fun B q0 => have q := q0.q
    (sb_cons (ss_par q (sa_cons (se_ix q (se_var 0) se_int) (sa_cons (se_sl q (se_var 0) (so_some se_int) so_none) sa_nil)))
    (sb_cons (ss_if (st_in q (se_ix q (se_var 2) se_int) (se_tup (sa_cons se_str (sa_cons se_str sa_nil)))) (sb_cons (ss_set q (se_and (se_eq q (se_ix q (se_var 2) se_int) se_str) (se_one (se_any q (by rfl) C.z_any (sa_cons (se_lc (own := [("_law_one", 7)]) q (si_seq q (se_var 3)) (blkOk_by (N := N__law_chosen) (sc := defScope s__law_chosen) (by decide +kernel)) (fun _ _ _ _ _ B2 HK => (sg_name 7 q.nd)) (fun _ _ _ _ _ B2 HK q => sf_nil) (fun _ _ _ _ _ B2 HK q => (se_call q (IH .f__law_is_there) (by rfl) (sa_cons (se_var 7) sa_nil)))) sa_nil)))))
    (sb_one (ss_ret (se_if (st_val (se_var 6)) (se_tup (sa_cons se_str sa_nil)) (se_var 2))))) sb_nil)
    (sb_cons (ss_if (st_eq q (se_ix q (se_var 2) se_int) se_str) (sb_one (ss_ret (se_var 2))) sb_nil)
    (sb_cons (ss_set q (se_ixm q (se_list q (by rfl) C.z_list (sa_cons (se_var 1) sa_nil)) (sa_cons (se_ix q (se_var 2) se_int) sa_nil)))
    (sb_cons (ss_set q (se_add q (se_sl q (se_var 3) so_none (so_some (se_var 4))) (se_sl q (se_var 3) (so_some (se_add q (se_var 4) se_int)) so_none)))
    (sb_cons (ss_if (st_w (sw_or (st_eq q (se_ix q (se_var 3) (se_var 4)) (se_tup (sa_cons se_str sa_nil))) (sw_or1 (st_val (se_any q (by rfl) C.z_any (sa_cons (se_lc (own := [("_law_one", 7)]) q (si_seq q (se_var 5)) (blkOk_by (N := N__law_chosen) (sc := defScope s__law_chosen) (by decide +kernel)) (fun _ _ _ _ _ B2 HK => (sg_name 7 q.nd)) (fun _ _ _ _ _ B2 HK q => sf_nil) (fun _ _ _ _ _ B2 HK q => (se_call q (IH .f__law_is_there) (by rfl) (sa_cons (se_var 7) sa_nil)))) sa_nil)))))) (sb_one (ss_ret (se_tup (sa_cons se_str sa_nil)))) sb_nil)
    (sb_one (ss_ret (se_if (st_eq q (se_ix q (se_ix q (se_var 3) (se_var 4)) se_int) se_str) (se_ix q (se_var 3) (se_var 4)) (se_tup (sa_cons se_str sa_nil)))))))))))⟩
theorem S__law_op_value : FnScope N__law_op_value ["_law_word", "_law_kinds", "_law_some"] (defScope s__law_op_value) := ⟨rfl, rfl, rfl, by decide +kernel, rfl, by decide +kernel, by decide +kernel⟩
theorem b__law_op_value (C : Cn wd K mg) (IH : ∀ f, Fnc P wd K mg base n (nm f) (ar f) (G n f)) : Fnc P wd K mg base (n + 1) "_law_op_value" 3 (G (n + 1) .f__law_op_value) := by
  obtain ⟨fa, fd, F, hm, hb⟩ := C.d__law_op_value.ex
  exact fnc_of (N := N__law_op_value) (m := m__law_op_value (G n)) F S__law_op_value hm hb fun cdv A outer s H E => ⟨_, fun B q0 => have q := q0.q
    (sb_cons (ss_par q (sa_cons (se_ix q (se_var 2) se_int) (sa_cons (se_ix q (se_var 2) (se_neg (se_int))) sa_nil)))
    (sb_cons (ss_if (st_eq q (se_var 0) se_str) (sb_one (ss_ret (se_mod (se_add q (se_var 3) (se_var 4)) (se_ix q (se_ix q (se_var 1) se_int) se_int)))) sb_nil)
    (sb_cons (ss_if (st_eq q (se_var 0) se_str) (sb_one (ss_ret (se_tup (sa_cons (se_var 3) (sa_cons (se_var 4) sa_nil))))) sb_nil)
    (sb_cons (ss_if (st_in q (se_var 0) (se_tup (sa_cons se_str (sa_cons se_str sa_nil)))) (sb_one (ss_ret (se_ix q (se_var 3) (se_int1 (by rfl) C.z_int (sa_cons (se_eq q (se_var 0) se_str) sa_nil))))) sb_nil)
    (sb_cons (ss_if (st_eq q (se_var 0) se_str) (sb_one (ss_set q (se_lt (se_ixm q (se_call q (IH .f__law_values) (by rfl) (sa_cons (se_ix q (se_var 1) se_int) sa_nil)) (sa_cons (se_var 3) sa_nil)) (se_ixm q (se_call q (IH .f__law_values) (by rfl) (sa_cons (se_ix q (se_var 1) se_int) sa_nil)) (sa_cons (se_var 4) sa_nil))))) (sb_one (ss_set q (se_dispget q (fun B2 HK q => (sps_cons (by decide +kernel) (se_eq q (se_var 3) se_str) (sps_cons (by decide +kernel) (se_ni q se_str (se_var 2)) (sps_cons (by decide +kernel) (se_in q se_str (se_var 2)) (sps_cons (by decide +kernel) (se_eq q (se_var 3) (se_var 4)) sps_nil))))) (fun B2 HK q => (se_var 0)) (by decide +kernel) (by decide)))))
    (sb_one (ss_ret (se_if (st_val (se_var 5)) se_str se_str))))))))⟩
theorem S__law_row_number : FnScope N__law_row_number ["_law_some_values", "_law_types"] (defScope s__law_row_number) := ⟨rfl, rfl, rfl, by decide +kernel, rfl, by decide +kernel, by decide +kernel⟩
theorem b__law_row_number (C : Cn wd K mg) (IH : ∀ f, Fnc P wd K mg base n (nm f) (ar f) (G n f)) : Fnc P wd K mg base (n + 1) "_law_row_number" 2 (G (n + 1) .f__law_row_number) := by
  obtain ⟨fa, fd, F, hm, hb⟩ := C.d__law_row_number.ex
  exact fnc_of (N := N__law_row_number) (m := m__law_row_number (G n)) F S__law_row_number hm hb fun cdv A outer s H E => ⟨_, fun B q0 => have q := q0.q
    (sb_cons (ss_set q se_int)
    (sb_cons (ss_for q q0.pw (si_zipM q (by rfl) C.z_zip (sa_cons (se_var 0) (sa_cons (se_var 1) sa_nil))) (sg_tup q.hX q.hK q.calm (sgs_cons (sg_name 3 q.nd) (sgs_cons (sg_name 4 q.nd) sgs_nil))) (sb_cons (ss_set q (se_call q (IH .f__law_values) (by rfl) (sa_cons (se_var 4) sa_nil)))
    (sb_one (ss_set q (se_add q (se_mul (se_var 2) (se_len q (by rfl) C.z_len (sa_cons (se_var 5) sa_nil))) (se_ixm q (se_var 5) (sa_cons (se_var 3) sa_nil)))))))
    (sb_one (ss_ret (se_var 2)))))⟩
theorem S__law_standing : FnScope N__law_standing ["_law_right", "_law_some", "_law_memory", "_law_types"] (defScope s__law_standing) := ⟨rfl, rfl, rfl, by decide +kernel, rfl, by decide +kernel, by decide +kernel⟩
theorem b__law_standing (C : Cn wd K mg) (IH : ∀ f, Fnc P wd K mg base n (nm f) (ar f) (G n f)) : Fnc P wd K mg base (n + 1) "_law_standing" 4 (G (n + 1) .f__law_standing) := by
  obtain ⟨fa, fd, F, hm, hb⟩ := C.d__law_standing.ex
  exact fnc_of (N := N__law_standing) (m := m__law_standing (G n)) F S__law_standing hm hb fun cdv A outer s H E => ⟨_, fun B q0 => have q := q0.q
    (sb_cons (ss_if (st_in q (se_tup (sa_cons se_str sa_nil)) (se_var 1)) (sb_one (ss_ret (se_tup (sa_cons se_str sa_nil)))) sb_nil)
    (sb_cons (ss_if (st_eq q (se_ix q (se_var 0) se_int) se_str) (sb_one (ss_ret (se_ix q (se_var 1) se_int))) sb_nil)
    (sb_cons (ss_if (st_eq q (se_ix q (se_var 0) se_int) se_str) (sb_one (ss_ret (se_if (st_val (se_call q (IH .f__law_is_there) (by rfl) (sa_cons (se_ix q (se_var 1) se_int) sa_nil))) (se_tup (sa_cons se_str (sa_cons (se_ix q (se_var 0) se_int) sa_nil))) (se_ix q (se_var 1) se_int)))) sb_nil)
    (sb_cons (ss_if (st_eq q (se_ix q (se_var 0) se_int) se_str) (sb_one (ss_ret (se_call q (IH .f__law_chosen) (by rfl) (sa_cons (se_var 1) (sa_cons (se_ix q (se_ix q (se_var 3) se_int) se_int) sa_nil))))) sb_nil)
    (sb_cons (ss_if (st_w (sw_and (st_in q (se_tup (sa_cons se_str sa_nil)) (se_var 1)) (sw_and1 (st_val (se_any q (by rfl) C.z_any (sa_cons (se_lc (own := [("_law_one", 6)]) q (si_seq q (se_var 1)) (blkOk_by (N := N__law_standing) (sc := defScope s__law_standing) (by decide +kernel)) (fun _ _ _ _ _ B2 HK => (sg_name 6 q.nd)) (fun _ _ _ _ _ B2 HK q => sf_nil) (fun _ _ _ _ _ B2 HK q => (se_call q (IH .f__law_is_there) (by rfl) (sa_cons (se_var 6) sa_nil)))) sa_nil)))))) (sb_one (ss_ret (se_tup (sa_cons se_str sa_nil)))) sb_nil)
    (sb_cons (ss_if (st_eq q (se_ix q (se_var 0) se_int) se_str) (sb_one (ss_ret (se_if (st_val (se_call q (IH .f__law_is_there) (by rfl) (sa_cons (se_ix q (se_var 1) se_int) sa_nil))) (se_tup (sa_cons se_str (sa_cons (se_var 2) sa_nil))) (se_ix q (se_var 1) se_int)))) sb_nil)
    (sb_cons (ss_if (st_in q (se_tup (sa_cons se_str sa_nil)) (se_var 1)) (sb_one (ss_ret (se_tup (sa_cons se_str sa_nil)))) sb_nil)
    (sb_cons (ss_if (st_eq q (se_ix q (se_var 0) se_int) se_str) (sb_cons (ss_if (st_ne q (se_ix q (se_ix q (se_var 1) se_int) se_int) se_str) (sb_one (ss_ret (se_tup (sa_cons se_str sa_nil)))) sb_nil)
    (sb_one (ss_ret (se_if (st_eq q (se_ix q (se_ix q (se_var 1) se_int) se_int) (se_ix q (se_var 0) se_int)) (se_ix q (se_var 1) se_int) (se_tup (sa_cons se_str sa_nil)))))) sb_nil)
    (sb_cons (ss_if (st_w (sw_and (st_eq q (se_ix q (se_var 0) se_int) se_str) (sw_and1 (st_eq q (se_ix q (se_ix q (se_var 1) (se_ix q (se_var 0) se_int)) se_int) se_str)))) (sb_one (ss_ret (se_ix q (se_var 1) (se_ix q (se_var 0) se_int)))) sb_nil)
    (sb_cons (ss_if (st_w (sw_and (st_in q (se_ix q (se_var 0) se_int) (se_tup (sa_cons se_str (sa_cons se_str sa_nil)))) (sw_and1 (st_val (se_all q (by rfl) C.z_all (sa_cons (se_lc (own := [("_law_one", 6)]) q (si_seq q (se_var 1)) (blkOk_by (N := N__law_standing) (sc := defScope s__law_standing) (by decide +kernel)) (fun _ _ _ _ _ B2 HK => (sg_name 6 q.nd)) (fun _ _ _ _ _ B2 HK q => sf_nil) (fun _ _ _ _ _ B2 HK q => (se_eq q (se_ix q (se_var 6) se_int) se_str))) sa_nil)))))) (sb_cons (ss_setLc (hsw := sw_true rfl rfl rfl (by decide +kernel)) (own := [("_law_one", 6)]) q (si_seq q (se_var 1)) (blkOk_by (N := N__law_standing) (sc := defScope s__law_standing) (by decide +kernel)) (fun _ _ _ _ _ B2 HK => (sg_name 6 q.nd)) (fun _ _ _ _ _ B2 HK q => sf_nil) (fun _ _ _ _ _ B2 HK q => (se_ix q (se_var 6) se_int)))
    (sb_cons (ss_set q (se_eq q (se_ix q (se_var 0) se_int) se_str))
    (sb_one (ss_ret (se_tup (sa_cons se_str (sa_cons (se_if (st_val (se_var 5)) (se_call q (IH .f__law_op_value) (by rfl) (sa_cons (se_ix q (se_var 0) se_int) (sa_cons (se_var 3) (sa_cons (se_var 4) sa_nil)))) (se_ix q (se_ix q (se_var 0) se_int) (se_call q (IH .f__law_row_number) (by rfl) (sa_cons (se_var 4) (sa_cons (se_var 3) sa_nil))))) sa_nil))))))) sb_nil)
    (sb_one (ss_ret (se_if (st_val (se_any q (by rfl) C.z_any (sa_cons (se_lc (own := [("_law_one", 6)]) q (si_seq q (se_var 1)) (blkOk_by (N := N__law_standing) (sc := defScope s__law_standing) (by decide +kernel)) (fun _ _ _ _ _ B2 HK => (sg_name 6 q.nd)) (fun _ _ _ _ _ B2 HK q => sf_nil) (fun _ _ _ _ _ B2 HK q => (se_call q (IH .f__law_is_there) (by rfl) (sa_cons (se_var 6) sa_nil)))) sa_nil))) (se_tup (sa_cons se_str sa_nil)) (se_tup (sa_cons se_str sa_nil)))))))))))))))⟩
theorem all_fnc (C : Cn wd K mg) : ∀ (n : Nat) (f : Fn), Fnc P wd K mg base n (nm f) (ar f) (G n f)
  | 0, f => by
    cases f with
    | f_count_of => exact z_of C.d_count_of
    | f_place_in => exact z_of C.d_place_in
    | f_truth => exact z_of C.d_truth
    | f_compared => exact z_of C.d_compared
    | f_joined_truths => exact z_of C.d_joined_truths
    | f_op_value => exact z_of C.d_op_value
    | f_table_value => exact z_of C.d_table_value
    | f_value_by => exact z_of C.d_value_by
    | f_parts_of => exact z_of C.d_parts_of
    | f_operands => exact z_of C.d_operands
    | f_operands_of => exact z_of C.d_operands_of
    | f_is_here => exact z_of C.d_is_here
    | f_do_part => exact z_of C.d_do_part
    | f_of_const => exact z_of C.d_of_const
    | f_of_held => exact z_of C.d_of_held
    | f_of_values => exact z_of C.d_of_values
    | f_of_arg => exact z_of C.d_of_arg
    | f_of_when => exact z_of C.d_of_when
    | f_of_choose => exact z_of C.d_of_choose
    | f_of_as => exact z_of C.d_of_as
    | f_standing_of => exact z_of C.d_standing_of
    | f__law_pick => exact z_of C.d__law_pick
    | f__law_draw_type => exact z_of C.d__law_draw_type
    | f__law_values => exact z_of C.d__law_values
    | f__law_draw_value => exact z_of C.d__law_draw_value
    | f__law_draw_right => exact z_of C.d__law_draw_right
    | f__law_operands => exact z_of C.d__law_operands
    | f__law_draw_standing => exact z_of C.d__law_draw_standing
    | f__law_is_there => exact z_of C.d__law_is_there
    | f__law_chosen => exact z_of C.d__law_chosen
    | f__law_op_value => exact z_of C.d__law_op_value
    | f__law_row_number => exact z_of C.d__law_row_number
    | f__law_standing => exact z_of C.d__law_standing
  | n + 1, f => by
    have ih := all_fnc C n
    cases f with
    | f_count_of => exact b_count_of C ih
    | f_place_in => exact b_place_in C ih
    | f_truth => exact b_truth C ih
    | f_compared => exact b_compared C ih
    | f_joined_truths => exact b_joined_truths C ih
    | f_op_value => exact b_op_value C ih
    | f_table_value => exact b_table_value C ih
    | f_value_by => exact b_value_by C ih
    | f_parts_of => exact b_parts_of C ih
    | f_operands => exact b_operands C ih
    | f_operands_of => exact b_operands_of C ih
    | f_is_here => exact b_is_here C ih
    | f_do_part => exact b_do_part C ih
    | f_of_const => exact b_of_const C ih
    | f_of_held => exact b_of_held C ih
    | f_of_values => exact b_of_values C ih
    | f_of_arg => exact b_of_arg C ih
    | f_of_when => exact b_of_when C ih
    | f_of_choose => exact b_of_choose C ih
    | f_of_as => exact b_of_as C ih
    | f_standing_of => exact b_standing_of C ih
    | f__law_pick => exact b__law_pick C ih
    | f__law_draw_type => exact b__law_draw_type C ih
    | f__law_values => exact b__law_values C ih
    | f__law_draw_value => exact b__law_draw_value C ih
    | f__law_draw_right => exact b__law_draw_right C ih
    | f__law_operands => exact b__law_operands C ih
    | f__law_draw_standing => exact b__law_draw_standing C ih
    | f__law_is_there => exact b__law_is_there C ih
    | f__law_chosen => exact b__law_chosen C ih
    | f__law_op_value => exact b__law_op_value C ih
    | f__law_row_number => exact b__law_row_number C ih
    | f__law_standing => exact b__law_standing C ih
theorem S__law_open_cells : FnScope N__law_open_cells ["_law_script"] (defScope s__law_open_cells) := ⟨rfl, rfl, rfl, by decide +kernel, rfl, by decide +kernel, by decide +kernel⟩
theorem open_mk (C : Cn wd K mg) : ∃ (f : Addr) (fd : FuncData), mg "_law_open_cells" = some (.ref f) ∧ PySem.W.keepIn K (.ref f) = true ∧ Binds K fd ["_law_script"] [] ∧ FnOk P wd K mg base (L2.CX P wd) (n + 1) f fd ["_law_script"] (spOpen K) := by
  obtain ⟨fa, fd, F, hm, hb⟩ := C.d__law_open_cells.ex
  exact ⟨fa, fd, hm, F.kp, hb, open_ok (N := N__law_open_cells) F S__law_open_cells rfl rfl fun cdv A outer s H E B q0 => have q := q0.q
    ⟨⟨_, (ss_set q se_int)⟩, ⟨_, (ss_for q q0.pw (si_seq q (se_var 0)) (sg_name 2 q.nd) (sb_one (ss_set q (se_mod (se_int1 (by rfl) C.z_int (sa_cons (se_add q (se_add q (se_mul (se_var 1) se_int) (se_mul (se_var 2) se_int)) se_int) sa_nil)) se_int))))⟩, ⟨_, (ss_setLc (hsw := sw_true rfl rfl rfl (by decide +kernel)) (own := [("_law_cell", 2)]) q (si_seq q (se_var 0)) (blkOk_by (N := N__law_open_cells) (sc := defScope s__law_open_cells) (by decide +kernel)) (fun _ _ _ _ _ B2 HK => (sg_name 2 q.nd)) (fun _ _ _ _ _ B2 HK q => sf_nil) (fun _ _ _ _ _ B2 HK q => (se_abs (by rfl) C.z_abs (sa_cons (se_var 2) sa_nil))))⟩, ps_ret (pe_disp (pps_cons pe_str (pe_revL (pe_var (i := 3) rfl (Or.inl rfl))) (pps_cons pe_str pe_int (pps_cons pe_str (pe_var (i := 1) rfl (Or.inl rfl)) (pps_cons pe_str pe_int pps_nil)))) rfl rfl (fun h => nomatch h) (by decide))⟩⟩
theorem S_law : FnScope N_law ["_law_script"] (defScope s_law) := ⟨rfl, rfl, rfl, by decide +kernel, rfl, by decide +kernel, by decide +kernel⟩
theorem law_run {f : Addr} {fd : FuncData} (C : Cn wd K mg) (F : Fun K "law" "law" s_law f fd) (hbind : ∀ (s : Shared) (v : Value), BindsTo s fd ⟨[v], []⟩ [("_law_script", v)]) (hr0 : Room (n + 2) callerA) (T : Told N_law.length 1 (m_law (G (n + 1)))) (s : Shared) (H : Hp) (a : Addr) (ns : List Int) (hl : ns.length ≤ 63) (e0 : Env0 P wd K mg base callerA [] s H) (hs : SqL K H a (ns.map V.int)) : codeAny (model P wd) callerA (.call (.ref f) ⟨[.ref a], []⟩) (CR (L2.CX P wd) [] P wd H s (fun v _ => v = V.bl true) fun _ _ _ => False) s := by
  have IH := all_fnc (P := P) (base := base) C (n + 1)
  obtain ⟨fo, fdo, mo, ko, bo, Fo⟩ := open_mk (P := P) (base := base) (n := n) C
  exact law_okG (i := 1) (N := N_law) (m := m_law (G (n + 1))) F S_law Fo hbind hr0 rfl rfl (by decide) (by decide)
    (fun cdv s H hr => ps_set S_law.nd rfl (by first | exact Or.inl rfl | exact Or.inr rfl) (pe_callS Fo hr (by rfl) mo ko bo (fun σ => passAt (W := fun _ _ _ _ => False) (takes_of rfl rfl rfl rfl) σ) (pa_cons (pe_var (i := 0) rfl (Or.inl rfl)) pa_nil)) rfl (by first | exact Or.inl rfl | exact Or.inr rfl))
    (fun cdv s H => ⟨_, fun B q0 qg => have q := q0.q
    (sb_cons (ss_for q q0.pw (si_range1 (by rfl) C.z_range (sa_cons se_int sa_nil)) (sg_name 2 q.nd) (sb_cons (ss_asg (se_call q (IH .f__law_draw_right) (by rfl) (sa_cons (se_var 1) sa_nil)) (sg_tup q.hX q.hK q.calm (sgs_cons (sg_name 3 q.nd) (sgs_cons (sg_name 4 q.nd) sgs_nil))))
    (sb_cons (ss_set q (se_call q (IH .f_operands_of) (by rfl) (sa_cons (se_var 3) sa_nil)))
    (sb_cons (ss_if (st_w (sw_or (st_ne q (se_var 5) (se_call q (IH .f__law_operands) (by rfl) (sa_cons (se_var 3) sa_nil))) (sw_or1 (st_not (st_val (se_isi q (by rfl) C.z_isinstance (sa_cons (se_var 5) (sa_cons (se_ty (by rfl) C.z_tuple (by decide +kernel)) sa_nil)))))))) (sb_one (ss_ret se_bl)) sb_nil)
    (sb_cons (ss_set q (se_sl q (se_var 4) so_none (so_some (se_len q (by rfl) C.z_len (sa_cons (se_var 5) sa_nil)))))
    (sb_cons (ss_setLc (hsw := sw_true rfl rfl rfl (by decide +kernel)) (own := [("_law_kind", 10)]) q (si_seq q (se_var 4)) (blkOk_by (N := N_law) (sc := defScope s_law) (by decide +kernel)) (fun _ _ _ _ _ B2 HK => (sg_name 10 q.nd)) (fun _ _ _ _ _ B2 HK q => sf_nil) (fun _ _ _ _ _ B2 HK q => (se_call q (IH .f__law_draw_standing) (by rfl) (sa_cons (se_var 1) (sa_cons (se_var 10) sa_nil)))))
    (sb_cons (ss_par q (sa_cons (se_call q (IH .f__law_draw_value) (by rfl) (sa_cons (se_var 1) (sa_cons (se_ix q (se_var 4) se_int) sa_nil))) (sa_cons (se_repr qg q (by rfl) C.z_repr (sa_cons (se_var 6) sa_nil)) sa_nil)))
    (sb_cons (ss_set q (se_call q (IH .f__law_standing) (by rfl) (sa_cons (se_var 3) (sa_cons (se_var 6) (sa_cons (se_var 7) (sa_cons (se_var 4) sa_nil))))))
    (sb_cons (ss_if (st_w (sw_or (st_ne q (se_call q (IH .f_standing_of) (by rfl) (sa_cons (se_var 3) (sa_cons (se_var 4) (sa_cons (se_var 6) (sa_cons (se_var 7) sa_nil))))) (se_var 9)) (sw_or1 (st_ne q (se_repr qg q (by rfl) C.z_repr (sa_cons (se_var 6) sa_nil)) (se_var 8))))) (sb_one (ss_ret se_bl)) sb_nil)
    (sb_one (ss_if (st_ne q (se_call q (IH .f_standing_of) (by rfl) (sa_cons (se_var 3) (sa_cons (se_tuple q (by rfl) C.z_tuple (sa_cons (se_var 4) sa_nil)) (sa_cons (se_tuple q (by rfl) C.z_tuple (sa_cons (se_var 6) sa_nil)) (sa_cons (se_var 7) sa_nil))))) (se_var 9)) (sb_one (ss_ret se_bl)) sb_nil)))))))))))
    (sb_one (ss_ret (se_eq q (se_call q (IH .f_operands_of) (by rfl) (sa_cons (se_tup (sa_cons se_str (sa_cons (se_tup (sa_cons se_str (sa_cons se_int sa_nil))) sa_nil))) sa_nil)) (se_tup sa_nil)))))⟩) T s H a ns hl e0 hs
theorem fin {fa : Addr} (C : Cn wd K mg) (hmg : mg "law" = some (.ref fa)) (hr0 : Room (n + 2) callerA) (T : Told N_law.length 1 (m_law (G (n + 1)))) : ∀ base : Heap, K.In base → base.Ns mainGlobals mg → ∀ (s : Shared) (H : Hp) (a : Addr) (ns : List Int), ns.length ≤ 63 → Env0 P wd K mg base callerA [] s H → SqL K H a (ns.map V.int) → codeAny (model P wd) callerA (.call (.ref fa) ⟨[.ref a], []⟩) (CR (L2.CX P wd) [] P wd H s (fun v _ => v = V.bl true) fun _ _ _ => False) s := by
  obtain ⟨f, fd, F, hm, hb⟩ := C.d_law.ex
  cases hmg.symm.trans hm
  refine fun base _ _ => law_run C F ?_ hr0 T
  obtain ⟨oc, od, kV, doc, pm, an, cdv, ct, osl, e, _⟩ := F.ex
  subst e
  exact fun s v => .of_eq rfl
end
end KX
set_option Elab.async false
set_option linter.all false
set_option maxRecDepth 100000
set_option maxHeartbeats 4000001
/-! DLP: what drawing comes to. -/
namespace DL
open PySem PyProof.Rows PySem.Spec L2 RZ StX
/-- a source that stands at sa, its cells at ca -/
structure Sok (sa ca : Addr) (s : Src) : Prop where
  sa : s.sa = sa
  ca : s.ca = ca
  few : s.cells.length ≤ 63
def pickC : M Bool := mAnd (mBinT ltD (mSrc 0 .left) (ret (.int 2))) (mBinT gtD (mClen 2) (ret (.int 0)))
def pickB : M Fl := mPut 0 .left (mCpop 2)
def pickM : M Fl := (mSeq (mIte (mBinT ltD (getS 1) (ret (.int 2))) (mRet (ret (.int 0))) (ret .nx)) (mSeq (mSet 2 (mSrc 0 .cells)) (mSeq (whileL pickC pickB 100) (mSeq (mSet 3 (mSrc 0 .left)) (mSeq (mIte (mBinT gtD (getS 3) (ret (.int 1))) (mSeq (mPut 0 .left (mBin fdivD (getS 3) (getS 1))) (mRet (mBin modD (bnd (mCons (getS 3) mNil) fun ds => lft (int1D ds)) (getS 1)))) (ret .nx)) (mSeq (mPut 0 .turn (mBin addD (mSrc 0 .turn) (ret (.int 1)))) (mSeq (mSet 4 (mSrc 0 .turn)) (mSeq (mSet 5 (mBin modD (bnd (mCons (mBin addD (mSrc 0 .mixed) (mBin mulD (getS 4) (ret (.int 104729)))) mNil) fun ds => lft (int1D ds)) (ret (.int 998244353)))) (mSeq (mSet 5 (mBin modD (bnd (mCons (mBin addD (mBin mulD (getS 5) (getS 5)) (mBin mulD (getS 4) (ret (.int 17)))) mNil) fun ds => lft (int1D ds)) (ret (.int 2147483647)))) (mRet (mBin modD (bnd (mCons (mBin fdivD (getS 5) (ret (.int 16))) mNil) fun ds => lft (int1D ds)) (getS 1))))))))))))
theorem pickC_run {sa ca : Addr} {s : Src} (h1 : s.sa = sa) (h2 : s.ca = ca) (m : Int) (a b c : Slot) : pickC [.val (.raw (.ref sa)), .val (.int m), .val (.raw (.ref ca)), a, b, c] (some s) =
    some (.ok (decide (s.left < 2) && decide (0 < s.cells.length)) [.val (.raw (.ref sa)), .val (.int m), .val (.raw (.ref ca)), a, b, c] (some s)) := by
  subst h1 h2
  by_cases h : s.left < 2
  · simp [pickC, mAnd, mBinT, bnd, mSrc, isSrc, mClen, isCel, Fd.d, cmpD, asB, ret, h]
  · simp [pickC, mAnd, mBinT, bnd, mSrc, isSrc, mClen, isCel, Fd.d, cmpD, asB, ret, h]
theorem pickB_run {sa ca : Addr} {s : Src} (h1 : s.sa = sa) (h2 : s.ca = ca) (m : Int) (a b c : Slot) {x : Int} (hx : s.cells[s.cells.length - 1]? = some x) : pickB [.val (.raw (.ref sa)), .val (.int m), .val (.raw (.ref ca)), a, b, c] (some s) =
    some (.ok .nx [.val (.raw (.ref sa)), .val (.int m), .val (.raw (.ref ca)), a, b, c] (some { s with cells := s.cells.dropLast, left := x })) := by
  subst h1 h2
  simp [pickB, mPut, bnd, mCpop, isCel, isSrc, kInt, Fd.put, hx]
theorem pickW_run {sa ca : Addr} (m : Int) (a b c : Slot) : ∀ (f : Nat) (s : Src), Sok sa ca s → s.cells.length < f → ∃ s', Sok sa ca s' ∧ whileL pickC pickB f [.val (.raw (.ref sa)), .val (.int m), .val (.raw (.ref ca)), a, b, c] (some s) =
    some (.ok .nx [.val (.raw (.ref sa)), .val (.int m), .val (.raw (.ref ca)), a, b, c] (some s'))
  | 0, s, _, h => absurd h (Nat.not_lt_zero _)
  | f + 1, s, k, h => by
    unfold whileL
    rw [pickC_run k.sa k.ca]
    by_cases hb : (decide (s.left < 2) && decide (0 < s.cells.length)) = true
    · rw [hb]
      rw [Bool.and_eq_true] at hb
      have hl : 0 < s.cells.length := of_decide_eq_true hb.2
      have hx : s.cells[s.cells.length - 1]? = some s.cells[s.cells.length - 1] := List.getElem?_eq_getElem (by omega)
      obtain ⟨s', k', e⟩ := pickW_run m a b c f { s with cells := s.cells.dropLast, left := s.cells[s.cells.length - 1] } ⟨k.sa, k.ca, by show s.cells.dropLast.length ≤ 63; rw [List.length_dropLast]; have := k.few; omega⟩ (by show s.cells.dropLast.length < f; rw [List.length_dropLast]; omega)
      refine ⟨s', k', ?_⟩
      dsimp only
      rw [pickB_run k.sa k.ca m a b c hx]
      exact e
    · rw [Bool.not_eq_true] at hb
      rw [hb]
      exact ⟨s, k, rfl⟩
theorem ite_run {mc : M Bool} {m k : M Fl} {ρ ρ' : Rho} {w w' : Wo} {b : Bool} (h : mc ρ w = some (.ok b ρ' w')) : mIte mc m k ρ w = if b = true then m ρ' w' else k ρ' w' := by
  unfold mIte
  rw [bnd_ok h]
  cases b <;> rfl
theorem seq_rt {m k : M Fl} {ρ ρ' : Rho} {w w' : Wo} {d : D} (h : m ρ w = some (.ok (.rt d) ρ' w')) : mSeq m k ρ w = some (.ok (.rt d) ρ' w') := by
  unfold mSeq
  rw [bnd_ok h]
  rfl
/-- a drawn number: below most, or 0 -/
theorem pick_spec {sa ca : Addr} {s : Src} (h : Sok sa ca s) {m : Int} (hm : m < 1073741824) : ∃ (k : Nat) (s' : Src), Sok sa ca s' ∧ (k : Int) < max 1 m ∧ gOf 2 6 pickM [.raw (.ref sa), .int m] (some s) = some (.ok (.int k) (some s')) := by
  have hg : ∀ r : Option (Rs Fl), pickM [.val (.raw (.ref sa)), .val (.int m), .free, .free, .free, .free] (some s) = r → gOf 2 6 pickM [.raw (.ref sa), .int m] (some s) = (match r with
    | some (.ok .nx _ w') => some (.ok .non w')
    | some (.ok (.rt d) _ w') => some (.ok d w')
    | some (.exc x _ w') => some (.exc x w')
    | _ => none) := fun r e => by
    subst e
    rfl
  by_cases h2 : m < 2
  · refine ⟨0, s, h, by omega, ?_⟩
    have e : pickM [.val (.raw (.ref sa)), .val (.int m), .free, .free, .free, .free] (some s) = some (.ok (.rt (.int 0)) [.val (.raw (.ref sa)), .val (.int m), .free, .free, .free, .free] (some s)) := by
      unfold pickM
      refine seq_rt ((ite_run (b := true) (ρ' := [.val (.raw (.ref sa)), .val (.int m), .free, .free, .free, .free]) (w' := some s) ?_).trans rfl)
      simp [mBinT, bnd, getS, ret, cmpD, asB, h2]
    rw [hg _ e]
    rfl
  · have hs2 : mSet 2 (mSrc 0 .cells) [.val (.raw (.ref sa)), .val (.int m), .free, .free, .free, .free] (some s) = some (.ok .nx [.val (.raw (.ref sa)), .val (.int m), .val (.raw (.ref ca)), .free, .free, .free] (some s)) := by
      obtain ⟨g1, g2, _⟩ := h
      subst g1 g2
      simp [mSet, bnd, mSrc, isSrc, Fd.d, setS]
    obtain ⟨s1, k1, e1⟩ := pickW_run m .free .free .free 100 s h (by have := h.few; omega)
    have first : pickM [.val (.raw (.ref sa)), .val (.int m), .free, .free, .free, .free] (some s) = (mSeq (mSet 3 (mSrc 0 .left)) (mSeq (mIte (mBinT gtD (getS 3) (ret (.int 1))) (mSeq (mPut 0 .left (mBin fdivD (getS 3) (getS 1))) (mRet (mBin modD (bnd (mCons (getS 3) mNil) fun ds => lft (int1D ds)) (getS 1)))) (ret .nx)) (mSeq (mPut 0 .turn (mBin addD (mSrc 0 .turn) (ret (.int 1)))) (mSeq (mSet 4 (mSrc 0 .turn)) (mSeq (mSet 5 (mBin modD (bnd (mCons (mBin addD (mSrc 0 .mixed) (mBin mulD (getS 4) (ret (.int 104729)))) mNil) fun ds => lft (int1D ds)) (ret (.int 998244353)))) (mSeq (mSet 5 (mBin modD (bnd (mCons (mBin addD (mBin mulD (getS 5) (getS 5)) (mBin mulD (getS 4) (ret (.int 17)))) mNil) fun ds => lft (int1D ds)) (ret (.int 2147483647)))) (mRet (mBin modD (bnd (mCons (mBin fdivD (getS 5) (ret (.int 16))) mNil) fun ds => lft (int1D ds)) (getS 1))))))))) [.val (.raw (.ref sa)), .val (.int m), .val (.raw (.ref ca)), .free, .free, .free] (some s1) := by
      unfold pickM
      rw [seq_nx (ρ' := [.val (.raw (.ref sa)), .val (.int m), .free, .free, .free, .free]) (w' := some s) ((ite_run (b := false) (ρ' := [.val (.raw (.ref sa)), .val (.int m), .free, .free, .free, .free]) (w' := some s) (by simp [mBinT, bnd, getS, ret, cmpD, asB, h2])).trans rfl)]
      rw [seq_nx hs2, seq_nx e1]
    obtain ⟨g1, g2, g3⟩ := k1
    subst g1 g2
    have hpos : 0 < m := by omega
    by_cases hl : 1 < s1.left
    · refine ⟨(s1.left % m).toNat, { s1 with left := s1.left / m }, ⟨rfl, rfl, g3⟩, ?_, ?_⟩
      · have a1 := Int.emod_nonneg s1.left (show m ≠ 0 by omega)
        have a2 := Int.emod_lt_of_pos s1.left hpos
        omega
      · have a1 := Int.emod_nonneg s1.left (show m ≠ 0 by omega)
        rw [hg _ first]
        have e : ((s1.left % m).toNat : Int) = s1.left % m := Int.toNat_of_nonneg a1
        rw [e]
        simp [mSeq, mSet, mIte, mPut, mRet, mBin, mBinT, bnd, mSrc, isSrc, Fd.d, Fd.put, setS, getS, ret, cmpD, asB, kInt, mCons, mNil, lft, int1D, intD, hl, hpos, hm]
    · let t := s1.turn + 1
      let x := (s1.mixed + t * 104729) % 998244353
      let y := (x * x + t * 17) % 2147483647
      have x0 : 0 ≤ x := Int.emod_nonneg _ (by decide)
      have x1 : x < 998244353 := Int.emod_lt_of_pos _ (by decide)
      have ix : inB x = true := by
        unfold inB
        rw [Bool.and_eq_true,
              decide_eq_true_eq, decide_eq_true_eq]
        omega
      have i1 : inB 104729 = true := by decide
      have i2 : inB 17 = true := by decide
      have a1 := Int.emod_nonneg (y / 16) (show m ≠ 0 by omega)
      have a2 := Int.emod_lt_of_pos (y / 16) hpos
      refine ⟨(y / 16 % m).toNat, { s1 with turn := t }, ⟨rfl, rfl, g3⟩, by omega, ?_⟩
      rw [hg _ first]
      have e : ((y / 16 % m).toNat : Int) = y / 16 % m := Int.toNat_of_nonneg a1
      rw [e]
      have ix' : inB ((s1.mixed + (s1.turn + 1) * 104729) % 998244353) = true := ix
      simp [mSeq, mSet, mIte, mPut, mRet, mBin, mBinT, bnd, mSrc, isSrc, Fd.d, Fd.put, setS, getS, ret, cmpD, asB, kInt, mCons, mNil, lft, int1D, intD, addD, mulD, hl, hpos, i1, i2, ix', t, x, y]
end DL
set_option Elab.async false
set_option linter.all false
set_option maxRecDepth 100000
set_option maxHeartbeats 4000001
/-! DLQ: loops over the monad by what stays true. -/
namespace DL
open PySem PyProof.Rows PySem.Spec L2 RZ StX
inductive All2 {α β : Type} (P : α → β → Prop) : List α → List β → Prop
  | nil : All2 P [] []
  | cons {a : α} {b : β} {as : List α} {bs : List β} : P a b → All2 P as bs → All2 P (a :: as) (b :: bs)
theorem All2.length {α β : Type} {P : α → β → Prop} : ∀ {as : List α} {bs : List β}, All2 P as bs → bs.length = as.length
  | _, _, .nil => rfl
  | _, _, .cons _ t => by rw [List.length_cons, List.length_cons, All2.length t]
theorem All2.eq {α β : Type} {f : α → β} : ∀ {as : List α} {bs : List β}, All2 (fun a b => b = f a) as bs → bs = as.map f
  | _, _, .nil => rfl
  | _, _, .cons h t => by rw [List.map_cons, ← All2.eq t, ← h]
/-- the same frame but for the slot i -/
def But (i : Nat) (ρ ρ' : Rho) : Prop := ρ'.set i .free = ρ.set i .free
theorem But.refl (i : Nat) (ρ : Rho) : But i ρ ρ := rfl
theorem But.trans {i : Nat} {ρ ρ1 ρ2 : Rho} (a : But i ρ ρ1) (b : But i ρ1 ρ2) : But i ρ ρ2 := Eq.trans b a
theorem But.set {i : Nat} {ρ ρ' : Rho} (a : But i ρ ρ') (s : Slot) : But i ρ (ρ'.set i s) := by
  unfold But
  rw [List.set_set]
  exact a
/-- [me for d in ds] with one slot: each turn gives an item that suits, the world stays right -/
theorem lc_inv {i : Nat} {me : M D} {ρ : Rho} {I : Wo → Prop} {P : D → D → Prop} : ∀ (ds : List D), (∀ d ∈ ds, ∀ w, I w → ∃ y w', me ((ρ.set i .free).set i (.val d)) w = some (.ok y ((ρ.set i .free).set i (.val d)) w') ∧ P d y ∧ I w') →
    ∀ (ρ1 : Rho) (w : Wo), But i ρ ρ1 → I w → ∃ ys ρ' w', lcLoop [i] (bName i) (ret true) me ds ρ1 w = some (ys, ρ', w') ∧ All2 P ds ys ∧ I w' ∧ But i ρ ρ'
  | [], _, ρ1, w, hb, hI => ⟨[], ρ1, w, rfl, .nil, hI, hb⟩
  | d :: ds, h, ρ1, w, hb, hI => by
    obtain ⟨y, w1, e1, p1, i1⟩ := h d List.mem_cons_self w hI
    have hw : wipeR ρ1 [i] = ρ.set i .free := hb
    obtain ⟨ys, ρ', w', e2, p2, i2, b2⟩ := lc_inv ds (fun d hd => h d (List.mem_cons_of_mem _ hd)) ((ρ.set i .free).set i (.val d)) w1 (by unfold But; rw [List.set_set, List.set_set]) i1
    refine ⟨y :: ys, ρ', w', ?_, .cons p1 p2, i2, b2⟩
    unfold lcLoop
    rw [hw]
    show ((match me ((ρ.set i .free).set i (.val d)) w with
      | some (.ok y ρ2 w2) => (lcLoop [i] (bName i) (ret true) me ds ρ2 w2).map fun (z : List D × Rho × Wo) => (y :: z.1, z.2)
      | _ => none)) = _
    rw [e1]
    dsimp only
    rw [e2]
    rfl
/-- for d in ds: each turn keeps what is true -/
theorem for_inv {bd : D → Rho → Option Rho} {mb : M Fl} {I : Rho → Wo → Prop} : ∀ (ds : List D), (∀ d ∈ ds, ∀ ρ w, I ρ w → ∃ ρ0 ρ' w', bd d ρ = some ρ0 ∧ (mb ρ0 w = some (.ok .nx ρ' w') ∨ mb ρ0 w = some (.ok .ct ρ' w')) ∧ I ρ' w') →
    ∀ ρ w, I ρ w → ∃ ρ' w', forL bd mb ds ρ w = some (.ok .nx ρ' w') ∧ I ρ' w'
  | [], _, ρ, w, h => ⟨ρ, w, rfl, h⟩
  | d :: ds, g, ρ, w, h => by
    obtain ⟨ρ0, ρ1, w1, e1, e2, h1⟩ := g d List.mem_cons_self ρ w h
    obtain ⟨ρ', w', e3, h3⟩ := for_inv ds (fun d hd => g d (List.mem_cons_of_mem _ hd)) ρ1 w1 h1
    refine ⟨ρ', w', ?_, h3⟩
    unfold forL
    rw [e1]
    rcases e2 with e2 | e2
    · dsimp only
      rw [e2]
      exact e3
    · dsimp only
      rw [e2]
      exact e3
/-- a comprehension over one slot as an expression -/
theorem mLc_inv {i : Nat} {mi : M (List D)} {me : M D} {ρ : Rho} {w0 w : Wo} {ds : List D} {I : Wo → Prop} {P : D → D → Prop} (h0 : mi ρ w0 = some (.ok ds ρ w)) (hl : ds.length ≤ 100000) (hI : I w) (h : ∀ d ∈ ds, ∀ w, I w → ∃ y w', me ((ρ.set i .free).set i (.val d)) w = some (.ok y ((ρ.set i .free).set i (.val d)) w') ∧ P d y ∧ I w') :
    ∃ ys w', mLc [i] mi (bName i) (ret true) me ρ w0 = some (.ok (.lst ys) (ρ.set i .free) w') ∧ All2 P ds ys ∧ I w' := by
  obtain ⟨ys, ρ', w', e, p, hI', b⟩ := lc_inv ds h ρ w (But.refl i ρ) hI
  refine ⟨ys, w', ?_, p, hI'⟩
  have f : nLc [i] mi (bName i) (ret true) me ρ w0 = some (.ok ys (ρ.set i .free) w') := by
    unfold nLc
    rw [bnd_ok h0]
    rw [if_pos hl, e]
    show some (Rs.ok ys (wipeR ρ' [i]) w') = _
    have hb : wipeR ρ' [i] = ρ.set i .free := b
    rw [hb]
  unfold mLc
  rw [bnd_ok f]
  rfl
end DL
set_option Elab.async false
set_option linter.all false
set_option maxRecDepth 100000
set_option maxHeartbeats 4000001
/-! DLY: types, their values and places. -/
namespace DL
open PySem PyProof.Rows PySem.Spec L2 RZ StX
inductive Ty where
  | lot (ws : List Str)
  | cnt (n : Int)
  | pair (a b : Ty)
def Ty.d : Ty → D
  | .lot ws => .tup [.str "lot", .tup (ws.map .str)]
  | .cnt n => .tup [.str "count", .int n]
  | .pair a b => .tup [.str "pair", a.d, b.d]
def Ty.many : Ty → Int
  | .lot ws => ws.length
  | .cnt n => n
  | .pair a b => a.many * b.many
def Ty.deep : Ty → Nat
  | .pair a b => max a.deep b.deep + 1
  | _ => 0
/-- not too great -/
def Ty.small : Ty → Prop
  | .lot ws => 1 ≤ ws.length ∧ ws.length ≤ 1000
  | .cnt n => 1 ≤ n ∧ n ≤ 1000
  | .pair a b => a.small ∧ b.small ∧ a.many * b.many ≤ 100000
theorem Ty.many_le : ∀ (t : Ty), t.small → 1 ≤ t.many ∧ t.many ≤ 100000
  | .lot ws, h => ⟨by show (1 : Int) ≤ (ws.length : Nat); have := h.1; omega, by show ((ws.length : Nat) : Int) ≤ 100000; have := h.2; omega⟩
  | .cnt n, h => ⟨h.1, by show n ≤ 100000; have := h.2; omega⟩
  | .pair a b, h => by
    obtain ⟨ha, hb, hm⟩ := h
    have h1 := Ty.many_le a ha
    have h2 := Ty.many_le b hb
    refine ⟨?_, hm⟩
    show 1 ≤ a.many * b.many
    have := Int.mul_le_mul h1.1 h2.1 (by decide) (by omega)
    simpa using this
theorem inB_small {i : Int} (h : -1000000 ≤ i ∧ i ≤ 1000000) : inB i = true := by
  unfold inB
  rw [Bool.and_eq_true,
        decide_eq_true_eq, decide_eq_true_eq]
  omega
def countM (c : Fn1) : M Fl := (mSeq (mIte (mBinT eqD (mBin ixD (getS 0) (ret (.int 0))) (ret (.str "pair"))) (mRet (mBin mulD (mCall 1 c (mCons (mBin ixD (getS 0) (ret (.int 1))) mNil)) (mCall 1 c (mCons (mBin ixD (getS 0) (ret (.int 2))) mNil)))) (ret .nx)) (mSeq (mIte (mBinT eqD (mBin ixD (getS 0) (ret (.int 0))) (ret (.str "lot"))) (mRet (bnd (mCons (mBin ixD (getS 0) (ret (.int 1))) mNil) fun ds => lft (lenD ds))) (ret .nx)) (mRet (mBin ixD (getS 0) (ret (.int 1))))))
theorem at0 (a : D) (r : List D) : atI (a :: r) 0 = some a := atI_nat (j := 0) rfl
theorem at1 (a b : D) (r : List D) : atI (a :: b :: r) 1 = some b := atI_nat (j := 1) rfl
theorem at2 (a b c : D) (r : List D) : atI (a :: b :: c :: r) 2 = some c := atI_nat (j := 2) rfl
theorem eq_str (x y : Str) : eqD (.str x) (.str y) = some (.bl (x == y)) := by
  simp [eqD, dat, deq]
theorem s1 : ((Str.ofString "lot") == (Str.ofString "pair")) = false := by decide +kernel
theorem s2 : ((Str.ofString "count") == (Str.ofString "pair")) = false := by decide +kernel
theorem s3 : ((Str.ofString "count") == (Str.ofString "lot")) = false := by decide +kernel
theorem s4 : ((Str.ofString "pair") == (Str.ofString "pair")) = true := by decide +kernel
theorem s5 : ((Str.ofString "lot") == (Str.ofString "lot")) = true := by decide +kernel
theorem count_spec {c : Nat → Fn1} (hc : ∀ n, c (n + 1) = gOf 1 1 (countM (c n))) (w : Wo) : ∀ (t : Ty), t.small → ∀ n, t.deep < n → c n [t.d] w = some (.ok (.int t.many) w)
  | _, _, 0, h => absurd h (Nat.not_lt_zero _)
  | .lot ws, hs, n + 1, h => by
    rw [hc]
    simp [gOf, countM, mSeq, mIte, mRet, mBinT, mBin, bnd, getS, ret, ixD, lft, Ty.d, Ty.many, at0, at1, eq_str, asB, mCons, mNil, lenD, s1, s5]
  | .cnt k, hs, n + 1, h => by
    rw [hc]
    simp [gOf, countM, mSeq, mIte, mRet, mBinT, mBin, bnd, getS, ret, ixD, lft, Ty.d, Ty.many, at0, at1, eq_str, asB, mCons, mNil, lenD, s2, s3]
  | .pair a b, hs, n + 1, h => by
    have hd : max a.deep b.deep + 1 < n + 1 := h
    have ea := count_spec hc w a hs.1 n (by omega)
    have eb := count_spec hc w b hs.2.1 n (by omega)
    have ib : inB a.many = true := inB_small (by have := a.many_le hs.1; omega)
    rw [hc]
    simp [gOf, countM, mSeq, mIte, mRet, mBinT, mBin, bnd, getS, ret, ixD, lft, Ty.d, Ty.many, at0, at1, at2, eq_str, asB, mCons, mNil, mCall, s4, ea, eb, mulD, ib]
/-! ### all values of a type -/
def Ty.vals : Ty → List D
  | .lot ws => ws.map .str
  | .cnt n => rgs 0 n.toNat
  | .pair a b => a.vals.flatMap fun x => b.vals.map fun y => .tup [x, y]
theorem Ty.vals_len : ∀ (t : Ty), t.small → (t.vals.length : Int) = t.many
  | .lot ws, _ => by simp [Ty.vals, Ty.many]
  | .cnt n, h => by
    have := h.1
    simp [Ty.vals, Ty.many, rgs]
    omega
  | .pair a b, h => by
    have ha := a.vals_len h.1
    have hb := b.vals_len h.2.1
    show (((a.vals.flatMap fun x => b.vals.map fun y => D.tup [x, y]).length : Nat) : Int) = a.many * b.many
    rw [← ha, ← hb]
    have e : ∀ l : List D, (l.flatMap fun x => b.vals.map fun y => D.tup [x, y]).length = l.length * b.vals.length := fun l => by
      induction l with
      | nil => simp
      | cons x l ih => rw [List.flatMap_cons, List.length_append, ih, List.length_map, List.length_cons, Nat.succ_mul, Nat.add_comm]
    rw [e]
    exact Int.natCast_mul _ _
def valuesM (c : Fn1) : M Fl := (mSeq (mIte (mBinT eqD (mBin ixD (getS 0) (ret (.int 0))) (ret (.str "lot"))) (mRet (bnd (mCons (mBin ixD (getS 0) (ret (.int 1))) mNil) fun ds => lft (listD ds))) (ret .nx)) (mSeq (mIte (mBinT eqD (mBin ixD (getS 0) (ret (.int 0))) (ret (.str "count"))) (mRet (mLRange1 (mBin ixD (getS 0) (ret (.int 1))))) (ret .nx)) (mSeq (mPar 1 2 (mCons (mLst mNil) (mCons (mCall 1 c (mCons (mBin ixD (getS 0) (ret (.int 2))) mNil)) mNil))) (mSeq (mFor (bnd (mCall 1 c (mCons (mBin ixD (getS 0) (ret (.int 1))) mNil)) fun d => lft (itemsD d)) (bName 3) (mSet 1 (mBin addD (getS 1) (mLc [4] (bnd (getS 2) fun d => lft (itemsD d)) (bName 4) (ret true) (mTup (mCons (getS 3) (mCons (getS 4) mNil))))))) (mRet (getS 1))))))
def valB : M Fl := mSet 1 (mBin addD (getS 1) (mLc [4] (bnd (getS 2) fun d => lft (itemsD d)) (bName 4) (ret true) (mTup (mCons (getS 3) (mCons (getS 4) mNil)))))
theorem valB_run (T u : Slot) (acc ys : List D) (x : D) (w : Wo) (h : acc.length + ys.length ≤ 100000) : valB [T, .val (.lst acc), .val (.lst ys), .val x, u] w = some (.ok .nx [T, .val (.lst (acc ++ ys.map fun y => .tup [x, y])), .val (.lst ys), .val x, .free] w) := by
  obtain ⟨zs, w', e, p, ew⟩ := mLc_inv (i := 4) (mi := bnd (getS 2) fun d => lft (itemsD d)) (me := mTup (mCons (getS 3) (mCons (getS 4) mNil))) (ρ := [T, .val (.lst acc), .val (.lst ys), .val x, u]) (w0 := w) (w := w) (ds := ys) (I := fun v => v = w) (P := fun d y => y = .tup [x, d])
    (by simp [bnd, getS, lft, itemsD]) (by omega) rfl (fun d _ v hv => ⟨.tup [x, d], v, by simp [mTup, bnd, mCons, mNil, getS, ret], rfl, hv⟩)
  subst ew
  have ez := p.eq
  subst ez
  have hl : acc.length + (ys.map fun d => D.tup [x, d]).length ≤ 100000 := by rw [List.length_map]; exact h
  unfold valB mSet mBin
  have g1 : getS 1 [T, .val (.lst acc), .val (.lst ys), .val x, u] w' = some (.ok (.lst acc) [T, .val (.lst acc), .val (.lst ys), .val x, u] w') := rfl
  have e2 : bnd (getS 1) (fun a => bnd (mLc [4] (bnd (getS 2) fun d => lft (itemsD d)) (bName 4) (ret true) (mTup (mCons (getS 3) (mCons (getS 4) mNil)))) fun b => lft (addD a b)) [T, .val (.lst acc), .val (.lst ys), .val x, u] w' = some (.ok (.lst (acc ++ ys.map fun d => .tup [x, d])) [T, .val (.lst acc), .val (.lst ys), .val x, .free] w') := by
    rw [bnd_ok g1, bnd_ok e]
    simp only [lft, addD]
    rw [if_pos hl]
    rfl
  rw [bnd_ok e2]
  rfl
theorem valF_run (T : Slot) (ys : List D) (w : Wo) : ∀ (xs acc : List D) (v u : Slot), acc.length + xs.length * ys.length ≤ 100000 → ∃ v' u', forL (bName 3) valB xs [T, .val (.lst acc), .val (.lst ys), v, u] w =
    some (.ok .nx [T, .val (.lst (acc ++ xs.flatMap fun x => ys.map fun y => .tup [x, y])), .val (.lst ys), v', u'] w)
  | [], acc, v, u, _ => ⟨v, u, by simp [forL]⟩
  | x :: xs, acc, v, u, h => by
    rw [List.length_cons, Nat.succ_mul] at h
    obtain ⟨v', u', e⟩ := valF_run T ys w xs (acc ++ ys.map fun y => .tup [x, y]) (.val x) .free (by rw [List.length_append, List.length_map]; omega)
    refine ⟨v', u', ?_⟩
    unfold forL
    show (match valB [T, .val (.lst acc), .val (.lst ys), .val x, u] w with
      | some (.ok .nx ρ1 w1) => forL (bName 3) valB xs ρ1 w1
      | some (.ok .ct ρ1 w1) => forL (bName 3) valB xs ρ1 w1
      | some (.ok .br ρ1 w1) => some (.ok .nx ρ1 w1)
      | some (.ok (.rt d') ρ1 w1) => some (.ok (.rt d') ρ1 w1)
      | some (.exc x ρ1 w1) => some (.exc x ρ1 w1)
      | none => none) = _
    rw [valB_run T u acc ys x w (by omega)]
    dsimp only
    rw [e, List.flatMap_cons, List.append_assoc]
theorem s6 : ((Str.ofString "count") == (Str.ofString "count")) = true := by decide +kernel
theorem s7 : ((Str.ofString "pair") == (Str.ofString "lot")) = false := by decide +kernel
theorem s8 : ((Str.ofString "pair") == (Str.ofString "count")) = false := by decide +kernel
theorem values_spec {c : Nat → Fn1} (hc : ∀ n, c (n + 1) = gOf 1 5 (valuesM (c n))) (w : Wo) : ∀ (t : Ty), t.small → ∀ n, t.deep < n → c n [t.d] w = some (.ok (.lst t.vals) w)
  | _, _, 0, h => absurd h (Nat.not_lt_zero _)
  | .lot ws, hs, n + 1, h => by
    rw [hc]
    simp [gOf, valuesM, mSeq, mIte, mRet, mBinT, mBin, bnd, getS, ret, ixD, lft, Ty.d, Ty.vals, at0, at1, eq_str, asB, mCons, mNil, listD, s5]
  | .cnt k, hs, n + 1, h => by
    have hk := hs
    unfold Ty.small at hk
    have hb : 0 ≤ k ∧ k ≤ 100000 := by omega
    have e0 : (-100000 : Int) ≤ 0 ∧ (0 : Int) ≤ 100000 ∧ -100000 ≤ k ∧ k ≤ 100000 := by omega
    rw [hc]
    simp [gOf, valuesM, mSeq, mIte, mRet, mBinT, mBin, bnd, getS, ret, ixD, lft, Ty.d, Ty.vals, at0, at1, eq_str, asB, mCons, mNil, mLRange1, nLr1, kInt, kLr, s3, s6, e0]
  | .pair a b, hs, n + 1, h => by
    have hd : max a.deep b.deep + 1 < n + 1 := h
    have ea := values_spec hc w a hs.1 n (by omega)
    have eb := values_spec hc w b hs.2.1 n (by omega)
    have la := a.vals_len hs.1
    have lb := b.vals_len hs.2.1
    have lm := hs.2.2
    obtain ⟨v', u', ef⟩ := valF_run (.val (Ty.pair a b).d) b.vals w a.vals [] .free .free (by
      rw [← la, ← lb, ← Int.natCast_mul] at lm
      simp only [List.length_nil, Nat.zero_add]
      omega)
    rw [List.nil_append] at ef
    have e1 : mPar 1 2 (mCons (mLst mNil) (mCons (mCall 1 (c n) (mCons (mBin ixD (getS 0) (ret (.int 2))) mNil)) mNil)) [.val (Ty.pair a b).d, .free, .free, .free, .free] w = some (.ok .nx [.val (Ty.pair a b).d, .val (.lst []), .val (.lst b.vals), .free, .free] w) := by
      simp [mPar, kPar, bnd, mCons, mLst, mNil, mCall, mBin, getS, ret, Ty.d, ixD, at2, lft, eb]
    have e2 : (bnd (mCall 1 (c n) (mCons (mBin ixD (getS 0) (ret (.int 1))) mNil)) fun d => lft (itemsD d)) [.val (Ty.pair a b).d, .val (.lst []), .val (.lst b.vals), .free, .free] w = some (.ok a.vals [.val (Ty.pair a b).d, .val (.lst []), .val (.lst b.vals), .free, .free] w) := by
      simp [bnd, mCons, mNil, mCall, mBin, getS, ret, Ty.d, ixD, at1, lft, ea, itemsD]
    have e3 : (mFor (bnd (mCall 1 (c n) (mCons (mBin ixD (getS 0) (ret (.int 1))) mNil)) fun d => lft (itemsD d)) (bName 3) valB) [.val (Ty.pair a b).d, .val (.lst []), .val (.lst b.vals), .free, .free] w = some (.ok .nx [.val (Ty.pair a b).d, .val (.lst (Ty.pair a b).vals), .val (.lst b.vals), v', u'] w) := by
      unfold mFor
      rw [bnd_ok e2]
      exact ef
    rw [hc]
    have e0 : valuesM (c n) [.val (Ty.pair a b).d, .free, .free, .free, .free] w = some (.ok (.rt (.lst (Ty.pair a b).vals)) [.val (Ty.pair a b).d, .val (.lst (Ty.pair a b).vals), .val (.lst b.vals), v', u'] w) := by
      unfold valuesM
      rw [seq_nx (ρ' := [.val (Ty.pair a b).d, .free, .free, .free, .free]) (w' := w) (by simp [mIte, mBinT, mBin, bnd, getS, ret, ixD, lft, Ty.d, at0, eq_str, asB, s7])]
      rw [seq_nx (ρ' := [.val (Ty.pair a b).d, .free, .free, .free, .free]) (w' := w) (by simp [mIte, mBinT, mBin, bnd, getS, ret, ixD, lft, Ty.d, at0, eq_str, asB, s8])]
      rw [seq_nx e1]
      have e3' := e3
      unfold valB at e3'
      rw [seq_nx e3']
      rfl
    show (match valuesM (c n) [.val (Ty.pair a b).d, .free, .free, .free, .free] w with
      | some (.ok .nx _ w') => some (Fr.ok .non w')
      | some (.ok (.rt d) _ w') => some (.ok d w')
      | some (.exc x _ w') => some (.exc x w')
      | _ => none) = _
    rw [e0]
end DL
set_option Elab.async false
set_option linter.all false
set_option maxRecDepth 100000
set_option maxHeartbeats 4000001
/-! DLS: standings. -/
namespace DL
open PySem PyProof.Rows PySem.Spec L2 RZ StX
mutual
theorem datU : ∀ (n : Nat) (d : D), dat n d = true → dat (n + 1) d = true
  | n, .non, _ => by simp [dat]
  | n, .bl _, _ => by simp [dat]
  | n, .int _, _ => by simp [dat]
  | n, .str _, _ => by simp [dat]
  | 0, .lst _, h => by simp [dat] at h
  | 0, .tup _, h => by simp [dat] at h
  | n + 1, .lst a, h => by
    simp only [dat] at h ⊢
    exact datsU n a h
  | n + 1, .tup a, h => by
    simp only [dat] at h ⊢
    exact datsU n a h
  | n, .dct _ _, h => by cases n <;> simp [dat] at h
  | n, .raw _, h => by cases n <;> simp [dat] at h
  | n, .fn _, h => by cases n <;> simp [dat] at h
  | n, .pr _ _, h => by cases n <;> simp [dat] at h
  | n, .rol _, h => by cases n <;> simp [dat] at h
theorem datsU : ∀ (n : Nat) (d : List D), dats n d = true → dats (n + 1) d = true
  | n, [], _ => by simp [dats]
  | n, d :: ds, h => by
    simp only [dats, Bool.and_eq_true] at h ⊢
    exact ⟨datU n d h.1, datsU n ds h.2⟩
end
theorem dat_to {n m : Nat} {d : D} (h : dat n d = true) (l : n ≤ m) : dat m d = true := by
  induction l with
  | refl => exact h
  | step _ ih => exact datU _ _ ih
mutual
theorem deq_refl : ∀ (n : Nat) (d : D), dat n d = true → deq d d = true
  | n, .non, _ => by simp [deq]
  | n, .bl _, _ => by simp [deq]
  | n, .int _, _ => by simp [deq]
  | n, .str _, _ => by simp [deq]
  | 0, .lst _, h => by simp [dat] at h
  | 0, .tup _, h => by simp [dat] at h
  | n + 1, .lst a, h => by
    simp only [dat] at h
    simp only [deq]
    exact deqs_refl n a h
  | n + 1, .tup a, h => by
    simp only [dat] at h
    simp only [deq]
    exact deqs_refl n a h
  | n, .dct _ _, h => by cases n <;> simp [dat] at h
  | n, .raw _, h => by cases n <;> simp [dat] at h
  | n, .fn _, h => by cases n <;> simp [dat] at h
  | n, .pr _ _, h => by cases n <;> simp [dat] at h
  | n, .rol _, h => by cases n <;> simp [dat] at h
theorem deqs_refl : ∀ (n : Nat) (d : List D), dats n d = true → deqs d d = true
  | n, [], _ => by simp [deqs]
  | n, d :: ds, h => by
    simp only [dats, Bool.and_eq_true] at h
    simp only [deqs, Bool.and_eq_true]
    exact ⟨deq_refl n d h.1, deqs_refl n ds h.2⟩
end
inductive St where
  | unk | abs | thr | cla | val (d : D)
def St.d : St → D
  | .unk => .tup [.str "unknown"]
  | .abs => .tup [.str "absent"]
  | .thr => .tup [.str "there"]
  | .cla => .tup [.str "clash"]
  | .val d => .tup [.str "value", d]
/-- its value is data, not too deep -/
def St.ok : St → Prop
  | .val d => dat 50 d = true
  | _ => True
def St.isAbs : St → Bool
  | .abs => true
  | _ => false
def St.isCla : St → Bool
  | .cla => true
  | _ => false
def St.isVal : St → Bool
  | .val _ => true
  | _ => false
def St.isUnk : St → Bool
  | .unk => true
  | _ => false
def St.isThr : St → Bool
  | .thr => true
  | _ => false
def St.here : St → Bool
  | .thr => true
  | .val _ => true
  | _ => false
theorem St.dat58 (s : St) (h : s.ok) : dat 59 s.d = true := by
  cases s with
  | val d => simp [St.d, dat, dats, dat_to h (by decide : 50 ≤ 58)]
  | _ => simp [St.d, dat, dats]
theorem St.dat60 (s : St) (h : s.ok) : dat 60 s.d = true := datU _ _ (s.dat58 h)
theorem eqSt (s t : St) (hs : s.ok) (ht : t.ok) : eqD s.d t.d = some (.bl (deq s.d t.d)) := by
  unfold eqD
  rw [s.dat60 hs, t.dat60 ht]
  rfl
theorem w1 : ((Str.ofString "absent") == (Str.ofString "unknown")) = false := by decide +kernel
theorem w2 : ((Str.ofString "there") == (Str.ofString "unknown")) = false := by decide +kernel
theorem w3 : ((Str.ofString "clash") == (Str.ofString "unknown")) = false := by decide +kernel
theorem w4 : ((Str.ofString "value") == (Str.ofString "unknown")) = false := by decide +kernel
theorem w5 : ((Str.ofString "unknown") == (Str.ofString "absent")) = false := by decide +kernel
theorem w6 : ((Str.ofString "there") == (Str.ofString "absent")) = false := by decide +kernel
theorem w7 : ((Str.ofString "clash") == (Str.ofString "absent")) = false := by decide +kernel
theorem w8 : ((Str.ofString "value") == (Str.ofString "absent")) = false := by decide +kernel
theorem w9 : ((Str.ofString "unknown") == (Str.ofString "there")) = false := by decide +kernel
theorem w10 : ((Str.ofString "absent") == (Str.ofString "there")) = false := by decide +kernel
theorem w11 : ((Str.ofString "clash") == (Str.ofString "there")) = false := by decide +kernel
theorem w12 : ((Str.ofString "value") == (Str.ofString "there")) = false := by decide +kernel
theorem w13 : ((Str.ofString "unknown") == (Str.ofString "clash")) = false := by decide +kernel
theorem w14 : ((Str.ofString "absent") == (Str.ofString "clash")) = false := by decide +kernel
theorem w15 : ((Str.ofString "there") == (Str.ofString "clash")) = false := by decide +kernel
theorem w16 : ((Str.ofString "value") == (Str.ofString "clash")) = false := by decide +kernel
theorem w17 : ((Str.ofString "unknown") == (Str.ofString "value")) = false := by decide +kernel
theorem w18 : ((Str.ofString "absent") == (Str.ofString "value")) = false := by decide +kernel
theorem w19 : ((Str.ofString "there") == (Str.ofString "value")) = false := by decide +kernel
theorem w20 : ((Str.ofString "clash") == (Str.ofString "value")) = false := by decide +kernel
theorem dq_unk (s : St) : deq s.d (St.d .unk) = s.isUnk := by cases s <;> simp [St.d, St.isUnk, deq, deqs, w1, w2, w3, w4]
theorem dq_abs (s : St) : deq s.d (St.d .abs) = s.isAbs := by cases s <;> simp [St.d, St.isAbs, deq, deqs, w5, w6, w7, w8]
theorem dq_thr (s : St) : deq s.d (St.d .thr) = s.isThr := by cases s <;> simp [St.d, St.isThr, deq, deqs, w9, w10, w11, w12]
theorem dq_cla (s : St) : deq s.d (St.d .cla) = s.isCla := by cases s <;> simp [St.d, St.isCla, deq, deqs, w13, w14, w15, w16]
theorem head_val (s : St) : ∃ x r, s.d = .tup (.str x :: r) ∧ (x == (Str.ofString "value")) = s.isVal := by
  cases s with
  | unk => exact ⟨_, _, rfl, w17⟩
  | abs => exact ⟨_, _, rfl, w18⟩
  | thr => exact ⟨_, _, rfl, w19⟩
  | cla => exact ⟨_, _, rfl, w20⟩
  | val d => exact ⟨_, _, rfl, by simp [St.isVal]⟩
/-- below: what may rise to what -/
def St.le : St → St → Prop
  | .unk, _ => True
  | .abs, t => t = .abs ∨ t = .cla
  | .thr, t => t = .thr ∨ t = .cla ∨ ∃ d, t = .val d
  | .cla, t => t = .cla
  | .val d, t => t = .val d ∨ t = .cla
theorem St.le_refl (s : St) : s.le s := by cases s <;> simp [St.le]
theorem St.le_cla (s : St) : s.le .cla := by cases s <;> simp [St.le]
def belowM : M Fl := (mSeq (mIte (mOr (mBinT eqD (getS 0) (getS 1)) (mOr (mBinT eqD (getS 0) (ret (St.d .unk))) (mBinT eqD (getS 1) (ret (St.d .cla))))) (mRet (ret (.bl true))) (ret .nx)) (mRet (mAndV (mBin eqD (getS 0) (ret (St.d .thr))) (mBin eqD (mBin ixD (getS 1) (ret (.int 0))) (ret (.str "value"))))))
theorem below_spec (s t : St) (hs : s.ok) (ht : t.ok) (h : s.le t) (w : Wo) : gOf 2 2 belowM [s.d, t.d] w = some (.ok (.bl true) w) := by
  have e1 := eqSt s t hs ht
  have e2 : eqD s.d (St.d .unk) = some (.bl (deq s.d (St.d .unk))) := eqSt s .unk hs trivial
  have e3 : eqD t.d (St.d .cla) = some (.bl (deq t.d (St.d .cla))) := eqSt t .cla ht trivial
  have e4 : eqD s.d (St.d .thr) = some (.bl (deq s.d (St.d .thr))) := eqSt s .thr hs trivial
  have key : deq s.d t.d = true ∨ deq s.d (St.d .unk) = true ∨ deq t.d (St.d .cla) = true ∨ (deq s.d (St.d .thr) = true ∧ ∃ d, t = .val d) := by
    cases s with
    | unk => exact .inr (.inl (by rw [dq_unk]; rfl))
    | abs =>
      rcases h with e | e
      · subst e; exact .inl (deq_refl 60 _ (St.dat60 .abs trivial))
      · subst e; exact .inr (.inr (.inl (by rw [dq_cla]; rfl)))
    | thr =>
      rcases h with e | e | ⟨d, e⟩
      · subst e; exact .inl (deq_refl 60 _ (St.dat60 .thr trivial))
      · subst e; exact .inr (.inr (.inl (by rw [dq_cla]; rfl)))
      · exact .inr (.inr (.inr ⟨by rw [dq_thr]; rfl, d, e⟩))
    | cla =>
      have e : t = .cla := h
      subst e
      exact .inr (.inr (.inl (by rw [dq_cla]; rfl)))
    | val d =>
      rcases h with e | e
      · subst e; exact .inl (deq_refl 60 _ (St.dat60 (.val d) hs))
      · subst e; exact .inr (.inr (.inl (by rw [dq_cla]; rfl)))
  by_cases c1 : deq s.d t.d = true
  · simp [gOf, belowM, mSeq, mIte, mOr, mRet, mBinT, bnd, getS, ret, asB, e1, c1]
  · rw [Bool.not_eq_true] at c1
    by_cases c2 : deq s.d (St.d .unk) = true
    · simp [gOf, belowM, mSeq, mIte, mOr, mRet, mBinT, bnd, getS, ret, asB, e1, c1, e2, c2]
    · rw [Bool.not_eq_true] at c2
      by_cases c3 : deq t.d (St.d .cla) = true
      · simp [gOf, belowM, mSeq, mIte, mOr, mRet, mBinT, bnd, getS, ret, asB, e1, c1, e2, c2, e3, c3]
      · rw [Bool.not_eq_true] at c3
        rcases key with k | k | k | ⟨k, d, e⟩
        · rw [k] at c1; cases c1
        · rw [k] at c2; cases c2
        · rw [k] at c3; cases c3
        · subst e
          have c3' : deq (D.tup [.str "value", d]) (St.d .cla) = false := c3
          have e3' : eqD (D.tup [.str "value", d]) (St.d .cla) = some (.bl (deq (D.tup [.str "value", d]) (St.d .cla))) := e3
          have e1' : eqD s.d (D.tup [.str "value", d]) = some (.bl (deq s.d (D.tup [.str "value", d]))) := e1
          have c1' : deq s.d (D.tup [.str "value", d]) = false := c1
          show gOf 2 2 belowM [s.d, .tup [.str "value", d]] w = _
          simp [gOf, belowM, mSeq, mIte, mOr, mRet, mBinT, mBin, bnd, getS, ret, asB, e1', c1', e2, c2, e3', c3', e4, k, lft, mAndV, kBool, ixD, at0, eq_str]
end DL
set_option Elab.async false
set_option linter.all false
set_option maxRecDepth 100000
set_option maxHeartbeats 4000001
/-! DLR: standings by their rules. -/
namespace DL
open PySem PyProof.Rows PySem.Spec L2 RZ StX
theorem cons_ok {m : M D} {ms : M (List D)} {ρ ρ1 ρ2 : Rho} {w w1 w2 : Wo} {d : D} {ds : List D} (h : m ρ w = some (.ok d ρ1 w1)) (hs : ms ρ1 w1 = some (.ok ds ρ2 w2)) : mCons m ms ρ w = some (.ok (d :: ds) ρ2 w2) := by
  unfold mCons
  rw [bnd_ok h, bnd_ok hs]
  rfl
/-! ### comprehensions that reckon -/
theorem lc_map {α : Type} {own : List Nat} {bind : D → Rho → Option Rho} {me : M D} {ρ : Rho} {w : Wo} {e f : α → D} : ∀ (xs : List α), (∀ x ∈ xs, ∃ ρ0 ρ2, bind (e x) (wipeR ρ own) = some ρ0 ∧ me ρ0 w = some (.ok (f x) ρ2 w) ∧ wipeR ρ2 own = wipeR ρ own) →
    ∀ ρ1, wipeR ρ1 own = wipeR ρ own → ∃ ρ', lcLoop own bind (ret true) me (xs.map e) ρ1 w = some (xs.map f, ρ', w) ∧ wipeR ρ' own = wipeR ρ own
  | [], _, ρ1, h => ⟨ρ1, rfl, h⟩
  | x :: xs, g, ρ1, h => by
    obtain ⟨ρ0, ρ2, e1, e2, e3⟩ := g x List.mem_cons_self
    obtain ⟨ρ', e4, e5⟩ := lc_map xs (fun y hy => g y (List.mem_cons_of_mem _ hy)) ρ2 e3
    refine ⟨ρ', ?_, e5⟩
    rw [List.map_cons,
          List.map_cons]
    unfold lcLoop
    rw [h, e1]
    show (match me ρ0 w with
      | some (.ok y ρ2 w2) => (lcLoop own bind (ret true) me (xs.map e) ρ2 w2).map fun (z : List D × Rho × Wo) => (y :: z.1, z.2)
      | _ => none) = _
    rw [e2]
    dsimp only
    rw [e4]
    rfl
theorem mLc_map {α : Type} {own : List Nat} {bind : D → Rho → Option Rho} {mi : M (List D)} {me : M D} {ρ : Rho} {w0 w : Wo} {e f : α → D} (xs : List α) (h0 : mi ρ w0 = some (.ok (xs.map e) ρ w)) (hl : xs.length ≤ 100000)
    (h : ∀ x ∈ xs, ∃ ρ0 ρ2, bind (e x) (wipeR ρ own) = some ρ0 ∧ me ρ0 w = some (.ok (f x) ρ2 w) ∧ wipeR ρ2 own = wipeR ρ own) : mLc own mi bind (ret true) me ρ w0 = some (.ok (.lst (xs.map f)) (wipeR ρ own) w) := by
  obtain ⟨ρ', e1, e2⟩ := lc_map xs h ρ rfl
  have g : nLc own mi bind (ret true) me ρ w0 = some (.ok (xs.map f) (wipeR ρ own) w) := by
    unfold nLc
    rw [bnd_ok h0]
    rw [if_pos (by rw [List.length_map]; exact hl), e1]
    show some (Rs.ok (xs.map f) (wipeR ρ' own) w) = _
    rw [e2]
  unfold mLc
  rw [bnd_ok g]
  rfl
theorem bools_map {α : Type} (p : α → Bool) : ∀ xs : List α, bools (xs.map fun x => D.bl (p x)) = some (xs.map p)
  | [] => rfl
  | x :: xs => by
    have ih := bools_map p xs
    simp [bools, ih]
/-! ### lists of standings -/
def stL (l : List St) : D := .lst (l.map St.d)
theorem sts_dats : ∀ (l : List St), (∀ s ∈ l, s.ok) → dats 59 (l.map St.d) = true
  | [], _ => by simp [dats]
  | s :: l, h => by
    rw [List.map_cons]
    simp only [dats, Bool.and_eq_true]
    exact ⟨s.dat58 (h s List.mem_cons_self), sts_dats l fun t ht => h t (List.mem_cons_of_mem _ ht)⟩
theorem mem_abs : ∀ l : List St, memD (St.d .abs) (l.map St.d) = l.any St.isAbs
  | [] => rfl
  | s :: l => by
    rw [List.map_cons, List.any_cons]
    show (deq s.d (St.d .abs) || memD (St.d .abs) (l.map St.d)) = _
    rw [dq_abs, mem_abs l]
theorem mem_cla : ∀ l : List St, memD (St.d .cla) (l.map St.d) = l.any St.isCla
  | [] => rfl
  | s :: l => by
    rw [List.map_cons, List.any_cons]
    show (deq s.d (St.d .cla) || memD (St.d .cla) (l.map St.d)) = _
    rw [dq_cla, mem_cla l]
theorem in_abs (l : List St) (h : ∀ s ∈ l, s.ok) : inD (St.d .abs) (stL l) = some (.bl (l.any St.isAbs)) := by
  unfold inD stL
  simp only
  rw [St.dat60 .abs trivial, sts_dats l h, mem_abs]
  rfl
theorem in_cla (l : List St) (h : ∀ s ∈ l, s.ok) : inD (St.d .cla) (stL l) = some (.bl (l.any St.isCla)) := by
  unfold inD stL
  simp only
  rw [St.dat60 .cla trivial, sts_dats l h, mem_cla]
  rfl
theorem ix_head (s : St) : ∃ x, ixD s.d (.int 0) = some (.str x) ∧ (x == (Str.ofString "value")) = s.isVal := by
  obtain ⟨x, r, e, h⟩ := head_val s
  refine ⟨x, ?_, h⟩
  rw [e]
  exact at0 _ _
def hereM : M Fl := (mRet (mOrV (mBin eqD (getS 0) (ret (St.d .thr))) (mBin eqD (mBin ixD (getS 0) (ret (.int 0))) (ret (.str "value")))))
theorem here_spec (s : St) (hs : s.ok) (w : Wo) : gOf 1 1 hereM [s.d] w = some (.ok (.bl s.here) w) := by
  have e1 : eqD s.d (St.d .thr) = some (.bl (deq s.d (St.d .thr))) := eqSt s .thr hs trivial
  obtain ⟨x, e2, e3⟩ := ix_head s
  have e4 : deq s.d (St.d .thr) = s.isThr := dq_thr s
  cases s with
  | thr => simp [gOf, hereM, mRet, mOrV, mBin, bnd, getS, ret, lft, e1, e4, kBool, St.here, St.isThr]
  | _ => simp [gOf, hereM, mRet, mOrV, mBin, bnd, getS, ret, lft, e1, e4, kBool, St.here, St.isThr, e2, eq_str, e3, St.isVal]
/-- is_here, as it is called -/
def HereOk (c : Fn1) : Prop := ∀ (s : St), s.ok → ∀ w, c [s.d] w = some (.ok (.bl s.here) w)
theorem anyHere {c : Fn1} (hc : HereOk c) {i : Nat} {mi : M (List D)} {ρ : Rho} {w0 w : Wo} (l : List St) (hl : l.length ≤ 1000) (ho : ∀ s ∈ l, s.ok) (h0 : mi ρ w0 = some (.ok (l.map St.d) ρ w)) (hi : i < ρ.length) :
    (bnd (mCons (mLc [i] mi (bName i) (ret true) (mCall 1 c (mCons (getS i) mNil))) mNil) fun ds => lft (anyD ds)) ρ w0 = some (.ok (.bl (l.any St.here)) (ρ.set i .free) w) := by
  have e := mLc_map (own := [i]) (bind := bName i) (mi := mi) (me := mCall 1 c (mCons (getS i) mNil)) (ρ := ρ) (w0 := w0) (w := w) (e := St.d) (f := fun s => D.bl s.here) l h0 (by omega) fun s hs => by
    refine ⟨(ρ.set i .free).set i (.val s.d), (ρ.set i .free).set i (.val s.d), rfl, ?_, ?_⟩
    · have g : getS i ((ρ.set i .free).set i (.val s.d)) w = some (.ok s.d ((ρ.set i .free).set i (.val s.d)) w) := by
        unfold getS
        rw [List.getElem?_set_self (by rw [List.length_set]; exact hi)]
      have g2 : mCons (getS i) mNil ((ρ.set i .free).set i (.val s.d)) w = some (.ok [s.d] ((ρ.set i .free).set i (.val s.d)) w) := cons_ok g rfl
      unfold mCall
      rw [bnd_ok g2]
      show (match c [s.d] w with
        | some (.ok d w') => some (Rs.ok d _ w')
        | some (.exc x w') => some (.exc x _ w')
        | none => none) = _
      rw [hc s (ho s hs) w]
    · show ((ρ.set i .free).set i (.val s.d)).set i .free = ρ.set i .free
      rw [List.set_set, List.set_set]
  have e2 : mCons (mLc [i] mi (bName i) (ret true) (mCall 1 c (mCons (getS i) mNil))) mNil ρ w0 = some (.ok [.lst (l.map fun s => D.bl s.here)] (ρ.set i .free) w) := cons_ok e rfl
  rw [bnd_ok e2]
  unfold lft anyD
  simp only [bools_map]
  simp [List.any_map, Function.comp_def]
def partM (c : Fn1) : M Fl := (mRet (mAndV (mBin inD (ret (St.d .abs)) (getS 0)) (bnd (mCons (mLc [1] (bnd (getS 0) fun d => lft (itemsD d)) (bName 1) (ret true) (mCall 1 c (mCons (getS 1) mNil))) mNil) fun ds => lft (anyD ds))))
def part (l : List St) : Bool := l.any St.isAbs && l.any St.here
def PartOk (c : Fn1) : Prop := ∀ (l : List St), l.length ≤ 1000 → (∀ s ∈ l, s.ok) → ∀ w, c [stL l] w = some (.ok (.bl (part l)) w)
theorem part_spec {c : Fn1} (hc : HereOk c) : PartOk (gOf 1 2 (partM c)) := fun l hl ho w => by
  have e1 := in_abs l ho
  have e2 := anyHere hc (i := 1) (mi := bnd (getS 0) fun d => lft (itemsD d)) (ρ := [.val (stL l), .free]) (w0 := w) (w := w) l hl ho (by simp [bnd, getS, lft, itemsD, stL]) (by show 1 < 2; decide)
  have e0 : mBin inD (ret (St.d .abs)) (getS 0) [.val (stL l), .free] w = some (.ok (.bl (l.any St.isAbs)) [.val (stL l), .free] w) := by
    simp [mBin, bnd, ret, getS, lft, e1]
  show (match partM c [.val (stL l), .free] w with
    | some (.ok .nx _ w') => some (Fr.ok .non w')
    | some (.ok (.rt d) _ w') => some (.ok d w')
    | some (.exc x _ w') => some (.exc x w')
    | _ => none) = _
  unfold partM mRet mAndV part
  cases ha : l.any St.isAbs with
  | false =>
    rw [ha] at e0
    have e3 : bnd (mBin inD (ret (St.d .abs)) (getS 0)) (kBool fun c_1 => if c_1 = true then (bnd (mCons (mLc [1] (bnd (getS 0) fun d => lft (itemsD d)) (bName 1) (ret true) (mCall 1 c (mCons (getS 1) mNil))) mNil) fun ds => lft (anyD ds)) else ret (.bl false)) [.val (stL l), .free] w = some (.ok (.bl false) [.val (stL l), .free] w) := by
      rw [bnd_ok e0]
      rfl
    rw [bnd_ok e3]
    rfl
  | true =>
    rw [ha] at e0
    have e3 : bnd (mBin inD (ret (St.d .abs)) (getS 0)) (kBool fun c_1 => if c_1 = true then (bnd (mCons (mLc [1] (bnd (getS 0) fun d => lft (itemsD d)) (bName 1) (ret true) (mCall 1 c (mCons (getS 1) mNil))) mNil) fun ds => lft (anyD ds)) else ret (.bl false)) [.val (stL l), .free] w = some (.ok (.bl (l.any St.here)) [.val (stL l), .free] w) := by
      rw [bnd_ok e0]
      exact e2
    rw [bnd_ok e3]
    rfl
end DL
set_option Elab.async false
set_option linter.all false
set_option maxRecDepth 100000
set_option maxHeartbeats 4000001
/-! DLV: the rules of standings as functions; they rise. -/
namespace DL
open PySem PyProof.Rows PySem.Spec L2 RZ StX
/-! ### lists that rise -/
abbrev Up := All2 St.le
theorem St.le_here {s t : St} (h : s.le t) (c : t.isCla = false) (e : s.here = true) : t.here = true := by
  cases s with
  | thr =>
    rcases h with q | q | ⟨d, q⟩
    · subst q; rfl
    · subst q; cases c
    · subst q; rfl
  | val d =>
    rcases h with q | q
    · subst q; rfl
    · subst q; cases c
  | _ => cases e
theorem St.le_abs {s t : St} (h : s.le t) (c : t.isCla = false) (e : s.isAbs = true) : t = .abs := by
  cases s with
  | abs =>
    rcases h with q | q
    · exact q
    · subst q; cases c
  | _ => cases e
theorem St.le_val {s t : St} {d : D} (h : s.le t) (c : t.isCla = false) (e : s = .val d) : t = .val d := by
  subst e
  rcases h with q | q
  · exact q
  · subst q; cases c
theorem St.le_isCla {s t : St} (h : s.le t) (e : s.isCla = true) : t.isCla = true := by
  cases s with
  | cla =>
    have q : t = .cla := h
    subst q
    rfl
  | _ => cases e
theorem up_here : ∀ {l m : List St}, Up l m → m.any St.isCla = false → l.any St.here = true → m.any St.here = true
  | _, _, .nil, _, h => h
  | _, _, .cons (a := s) (b := t) (as := as) (bs := bs) hst r, c, h => by
    rw [List.any_cons, Bool.or_eq_false_iff] at c
    rw [List.any_cons, Bool.or_eq_true] at h ⊢
    rcases h with h | h
    · exact .inl (St.le_here hst c.1 h)
    · exact .inr (up_here r c.2 h)
theorem up_abs : ∀ {l m : List St}, Up l m → m.any St.isCla = false → l.any St.isAbs = true → m.any St.isAbs = true
  | _, _, .nil, _, h => h
  | _, _, .cons (a := s) (b := t) (as := as) (bs := bs) hst r, c, h => by
    rw [List.any_cons, Bool.or_eq_false_iff] at c
    rw [List.any_cons, Bool.or_eq_true] at h ⊢
    rcases h with h | h
    · exact .inl (by rw [St.le_abs hst c.1 h]; rfl)
    · exact .inr (up_abs r c.2 h)
theorem up_cla : ∀ {l m : List St}, Up l m → l.any St.isCla = true → m.any St.isCla = true
  | _, _, .nil, h => h
  | _, _, .cons (a := s) (b := t) (as := as) (bs := bs) hst r, h => by
    rw [List.any_cons, Bool.or_eq_true] at h ⊢
    rcases h with h | h
    · exact .inl (St.le_isCla hst h)
    · exact .inr (up_cla r h)
theorem up_part {l m : List St} (u : Up l m) (c : m.any St.isCla = false) (h : part l = true) : part m = true := by
  unfold part at h ⊢
  rw [Bool.and_eq_true] at h ⊢
  exact ⟨up_abs u c h.1, up_here u c h.2⟩
theorem up_vals : ∀ {l m : List St}, Up l m → m.any St.isCla = false → l.all St.isVal = true → m = l
  | _, _, .nil, _, _ => rfl
  | _, _, .cons (a := s) (b := t) (as := as) (bs := bs) hst r, c, h => by
    rw [List.any_cons, Bool.or_eq_false_iff] at c
    rw [List.all_cons,
          Bool.and_eq_true] at h
    rw [up_vals r c.2 h.2]
    cases s with
    | val d => rw [St.le_val hst c.1 rfl]
    | _ => cases h.1
theorem part_of {l : List St} (a : l.any St.isAbs = true) (h : l.any St.here = true) : part l = true := by
  unfold part
  rw [a, h]
  rfl
theorem all_here : ∀ {l : List St}, l ≠ [] → l.all St.isVal = true → l.any St.here = true
  | [], n, _ => absurd rfl n
  | s :: l, _, h => by
    rw [List.all_cons,
          Bool.and_eq_true] at h
    rw [List.any_cons]
    cases s with
    | val d => rfl
    | _ => cases h.1
/-! ### the rules -/
abbrev Rl := List St → St
def Rises (r : Rl) : Prop := ∀ l m, Up l m → m.any St.isCla = false → (r l).le (r m)
def ofConst (v : D) : Rl
  | s :: _ => if s.here = true then .val v else s
  | [] => .unk
theorem rises_const (v : D) : Rises (ofConst v) := fun l m u c => by
  cases u with
  | nil => exact St.le_refl _
  | cons h r =>
    rename_i s t as bs
    rw [List.any_cons, Bool.or_eq_false_iff] at c
    show (if s.here = true then St.val v else s).le (if t.here = true then St.val v else t)
    by_cases hs : s.here = true
    · rw [if_pos hs, if_pos (St.le_here h c.1 hs)]
      exact St.le_refl _
    · rw [if_neg hs]
      cases s with
      | unk => exact trivial
      | abs =>
        rw [St.le_abs h c.1 rfl]
        exact St.le_refl _
      | cla =>
        have q : t = .cla := h
        subst q
        cases c.1
      | _ => exact absurd rfl hs
def ofHeld (m : D) : Rl
  | [a, b] => if part [a, b] = true then .cla else if b.here = true then .val m else b
  | _ => .unk
theorem rises_held (v : D) : Rises (ofHeld v) := fun l m u c => by
  cases u with
  | nil => exact St.le_refl _
  | cons h1 r =>
    cases r with
    | nil => exact St.le_refl _
    | cons h2 r =>
      cases r with
      | cons h3 r => exact St.le_refl _
      | nil =>
        rename_i a a' b b'
        have u : Up [a, b] [a', b'] := .cons h1 (.cons h2 .nil)
        have cb : b'.isCla = false := by
          simp only [List.any_cons, List.any_nil, Bool.or_false, Bool.or_eq_false_iff] at c
          exact c.2
        show (if part [a, b] = true then St.cla else if b.here = true then .val v else b).le (if part [a', b'] = true then St.cla else if b'.here = true then .val v else b')
        by_cases p' : part [a', b'] = true
        · rw [if_pos p']
          exact St.le_cla _
        · rw [if_neg p', if_neg fun p => p' (up_part u c p)]
          by_cases hb : b.here = true
          · rw [if_pos hb, if_pos (St.le_here h2 cb hb)]
            exact St.le_refl _
          · rw [if_neg hb]
            cases b with
            | unk => exact trivial
            | abs =>
              rw [St.le_abs h2 cb rfl]
              exact St.le_refl _
            | cla =>
              have q : b' = .cla := h2
              subst q
              cases cb
            | _ => exact absurd rfl hb
def St.v : St → D
  | .val d => d
  | _ => .non
def ofVals (f : List D → D) : Rl := fun l => if part l = true then .cla else if l.any St.isAbs = true then .abs else if l.all St.isVal = true then .val (f (l.map St.v)) else if l.any St.here = true then .thr else .unk
theorem rises_vals (f : List D → D) : Rises (ofVals f) := fun l m u c => by
  unfold ofVals
  by_cases p' : part m = true
  · rw [if_pos p']
    exact St.le_cla _
  · rw [if_neg p', if_neg fun p => p' (up_part u c p)]
    by_cases a : l.any St.isAbs = true
    · rw [if_pos a, if_pos (up_abs u c a)]
      exact St.le_refl _
    · rw [if_neg a]
      by_cases v : l.all St.isVal = true
      · rw [if_pos v, up_vals u c v, if_neg a, if_pos v]
        exact St.le_refl _
      · rw [if_neg v]
        by_cases h : l.any St.here = true
        · rw [if_pos h]
          have h' := up_here u c h
          by_cases a' : m.any St.isAbs = true
          · exact absurd (part_of a' h') p'
          · rw [if_neg a']
            by_cases v' : m.all St.isVal = true
            · rw [if_pos v']
              exact .inr (.inr ⟨_, rfl⟩)
            · rw [if_neg v', if_pos h']
              exact St.le_refl _
        · rw [if_neg h]
          exact trivial
def ofArg (k : Nat) : Rl := fun l => match l[k]? with
  | none => .unk
  | some o => if part l = true then .cla else if l.any St.isAbs = true then .abs else if o.isVal = true then o else if l.any St.here = true then .thr else .unk
theorem up_at : ∀ {l m : List St} {k : Nat} {s : St}, Up l m → l[k]? = some s → ∃ t, m[k]? = some t ∧ s.le t
  | _, _, k, _, .nil, h => by simp at h
  | _, _, 0, _, .cons h _, e => by
    cases e
    exact ⟨_, rfl, h⟩
  | _, _, k + 1, _, .cons _ r, e => up_at (k := k) r e
theorem any_at {p : St → Bool} : ∀ {l : List St} {k : Nat} {s : St}, l[k]? = some s → l.any p = false → p s = false
  | [], k, _, h, _ => by simp at h
  | x :: l, 0, _, h, c => by
    cases h
    rw [List.any_cons, Bool.or_eq_false_iff] at c
    exact c.1
  | x :: l, k + 1, _, h, c => by
    rw [List.any_cons, Bool.or_eq_false_iff] at c
    exact any_at (l := l) (k := k) h c.2
theorem any_of_at {p : St → Bool} {l : List St} {k : Nat} {s : St} (h : l[k]? = some s) (e : p s = true) : l.any p = true := by
  cases q : l.any p with
  | true => rfl
  | false => rw [any_at h q] at e; cases e
theorem rises_arg (k : Nat) : Rises (ofArg k) := fun l m u c => by
  unfold ofArg
  cases hk : l[k]? with
  | none => exact trivial
  | some o =>
    obtain ⟨o', hk', ho⟩ := up_at u hk
    rw [hk']
    dsimp only
    by_cases p' : part m = true
    · rw [if_pos p']
      exact St.le_cla _
    · rw [if_neg p', if_neg fun p => p' (up_part u c p)]
      by_cases a : l.any St.isAbs = true
      · rw [if_pos a, if_pos (up_abs u c a)]
        exact St.le_refl _
      · rw [if_neg a]
        by_cases v : o.isVal = true
        · rw [if_pos v]
          cases o with
          | val d =>
            have e := St.le_val ho (any_at hk' c) rfl
            subst e
            have h' : m.any St.here = true := any_of_at hk' rfl
            by_cases a' : m.any St.isAbs = true
            · exact absurd (part_of a' h') p'
            · rw [if_neg a', if_pos v]
              exact St.le_refl _
          | _ => cases v
        · rw [if_neg v]
          by_cases h : l.any St.here = true
          · rw [if_pos h]
            have h' := up_here u c h
            by_cases a' : m.any St.isAbs = true
            · exact absurd (part_of a' h') p'
            · rw [if_neg a']
              by_cases v' : o'.isVal = true
              · rw [if_pos v']
                cases o' with
                | val d => exact .inr (.inr ⟨_, rfl⟩)
                | _ => cases v'
              · rw [if_neg v', if_pos h']
                exact St.le_refl _
          · rw [if_neg h]
            exact trivial
def ofWhen (x : D) : Rl
  | [s, c] => if part [s, c] = true then .cla else if [s, c].any St.isAbs = true then .abs else if c.isVal = false then .unk else if deq c.v x = true then s else .abs
  | _ => .unk
theorem rises_when (x : D) : Rises (ofWhen x) := fun l m u cm => by
  cases u with
  | nil => exact trivial
  | cons h1 r =>
    cases r with
    | nil => exact trivial
    | cons h2 r =>
      cases r with
      | cons h3 r => exact trivial
      | nil =>
        rename_i s s' c c'
        have u : Up [s, c] [s', c'] := .cons h1 (.cons h2 .nil)
        have cc : s'.isCla = false ∧ c'.isCla = false := by
          simp only [List.any_cons, List.any_nil, Bool.or_false, Bool.or_eq_false_iff] at cm
          exact cm
        show (if part [s, c] = true then St.cla else if [s, c].any St.isAbs = true then .abs else if c.isVal = false then .unk else if deq c.v x = true then s else .abs).le (if part [s', c'] = true then St.cla else if [s', c'].any St.isAbs = true then .abs else if c'.isVal = false then .unk else if deq c'.v x = true then s' else .abs)
        by_cases p' : part [s', c'] = true
        · rw [if_pos p']
          exact St.le_cla _
        · rw [if_neg p', if_neg fun p => p' (up_part u cm p)]
          by_cases a : [s, c].any St.isAbs = true
          · rw [if_pos a, if_pos (up_abs u cm a)]
            exact St.le_refl _
          · rw [if_neg a]
            by_cases v : c.isVal = false
            · rw [if_pos v]
              exact trivial
            · rw [if_neg v]
              cases c with
              | val d =>
                have e := St.le_val h2 cc.2 rfl
                subst e
                have h' : [s', St.val d].any St.here = true := any_of_at (k := 1) rfl rfl
                by_cases a' : [s', St.val d].any St.isAbs = true
                · exact absurd (part_of a' h') p'
                · rw [if_neg a', if_neg v]
                  by_cases q : deq (St.val d).v x = true
                  · rw [if_pos q, if_pos q]
                    exact h1
                  · rw [if_neg q, if_neg q]
                    exact St.le_refl _
              | _ => exact absurd rfl v
def ofAs : Rl
  | s :: _ => s
  | [] => .unk
theorem rises_as : Rises ofAs := fun l m u _ => by
  cases u with
  | nil => exact trivial
  | cons h r => exact h
/-- at: the place of a value among the words of the cond -/
def ofCh (at' : D → Nat) (c : St) (bs : List St) : St := if c.isAbs = true then (if part (c :: bs) = true then .cla else .abs) else if c.isVal = false then c else
  match bs[at' c.v]? with
  | none => .cla
  | some o => if (o.isAbs || (bs.eraseIdx (at' c.v)).any St.here) = true then .cla else if o.isVal = true then o else .thr
def ofChoose (at' : D → Nat) : Rl
  | c :: bs => ofCh at' c bs
  | [] => .unk
theorem up_erase : ∀ {l m : List St} (k : Nat), Up l m → Up (l.eraseIdx k) (m.eraseIdx k)
  | _, _, _, .nil => .nil
  | _, _, 0, .cons _ r => r
  | _, _, k + 1, .cons h r => .cons h (up_erase k r)
theorem any_erase {p : St → Bool} : ∀ {l : List St} (k : Nat), l.any p = false → (l.eraseIdx k).any p = false
  | [], _, h => by simpa using h
  | x :: l, 0, h => by
    rw [List.any_cons, Bool.or_eq_false_iff] at h
    exact h.2
  | x :: l, k + 1, h => by
    rw [List.any_cons, Bool.or_eq_false_iff] at h
    rw [List.eraseIdx_cons_succ, List.any_cons, h.1, any_erase k h.2]
    rfl
theorem rises_choose (at' : D → Nat) : Rises (ofChoose at') := fun l m u cm => by
  have u0 := u
  cases u with
  | nil => exact trivial
  | cons h1 r =>
    rename_i c c' bs bs'
    have cm0 := cm
    rw [List.any_cons, Bool.or_eq_false_iff] at cm
    show (ofCh at' c bs).le (ofCh at' c' bs')
    unfold ofCh
    by_cases a : c.isAbs = true
    · have e := St.le_abs h1 cm.1 a
      subst e
      rw [if_pos a, if_pos (show St.isAbs .abs = true from rfl)]
      by_cases p' : part (.abs :: bs') = true
      · rw [if_pos p']
        exact St.le_cla _
      · rw [if_neg p', if_neg fun p => p' (up_part u0 cm0 p)]
        exact St.le_refl _
    · rw [if_neg a]
      by_cases v : c.isVal = false
      · rw [if_pos v]
        cases c with
        | unk => exact trivial
        | thr =>
          rcases h1 with q | q | ⟨d, q⟩
          · subst q
            exact St.le_refl _
          · subst q
            cases cm.1
          · subst q
            rw [if_neg (fun z : St.isAbs (.val d) = true => Bool.noConfusion z), if_neg (fun z : St.isVal (.val d) = false => Bool.noConfusion z)]
            cases bs'[at' (St.val d).v]? with
            | none => exact St.le_cla _
            | some o =>
              dsimp only
              by_cases y : (o.isAbs || (bs'.eraseIdx (at' (St.val d).v)).any St.here) = true
              · rw [if_pos y]
                exact St.le_cla _
              · rw [if_neg y]
                cases o with
                | val z => exact .inr (.inr ⟨z, rfl⟩)
                | _ => exact St.le_refl _
        | cla =>
          have q : c' = .cla := h1
          subst q
          cases cm.1
        | abs => exact absurd rfl a
        | val d => cases v
      · rw [if_neg v]
        cases c with
        | val d =>
          have e := St.le_val h1 cm.1 rfl
          subst e
          rw [if_neg a, if_neg v]
          cases hk : bs[at' (St.val d).v]? with
          | none =>
            have hl := r.length
            have hk' : bs'[at' (St.val d).v]? = none := by
              rw [List.getElem?_eq_none_iff] at hk ⊢
              omega
            rw [hk']
            exact St.le_refl _
          | some o =>
            obtain ⟨o', hk', ho⟩ := up_at r hk
            rw [hk']
            dsimp only
            by_cases x' : (o'.isAbs || (bs'.eraseIdx (at' (St.val d).v)).any St.here) = true
            · rw [if_pos x']
              exact St.le_cla _
            · have x : ¬ (o.isAbs || (bs.eraseIdx (at' (St.val d).v)).any St.here) = true := fun x => by
                rw [Bool.or_eq_true] at x x'
                rcases x with x | x
                · exact x' (.inl (by rw [St.le_abs ho (any_at hk' cm.2) x]; rfl))
                · exact x' (.inr (up_here (up_erase _ r) (any_erase _ cm.2) x))
              rw [if_neg x', if_neg x]
              by_cases w : o.isVal = true
              · cases o with
                | val z =>
                  have e := St.le_val ho (any_at hk' cm.2) rfl
                  subst e
                  exact St.le_refl _
                | _ => cases w
              · rw [if_neg w]
                by_cases w' : o'.isVal = true
                · rw [if_pos w']
                  cases o' with
                  | val z => exact .inr (.inr ⟨_, rfl⟩)
                  | _ => cases w'
                · rw [if_neg w']
                  exact St.le_refl _
        | _ => exact absurd rfl v
/-- a clash of an operand is a clash -/
def stand (r : Rl) : Rl := fun l => if l.any St.isCla = true then .cla else r l
theorem stand_rises {r : Rl} (h : Rises r) {l m : List St} (u : Up l m) : (stand r l).le (stand r m) := by
  unfold stand
  by_cases c : m.any St.isCla = true
  · rw [if_pos c]
    exact St.le_cla _
  · rw [if_neg c, if_neg fun q => c (up_cla u q)]
    exact h l m u (by rw [← Bool.not_eq_true]; exact c)
end DL
set_option Elab.async false
set_option linter.all false
set_option maxRecDepth 100000
set_option maxHeartbeats 4000001
/-! DLW: the rules of standings as they run. -/
namespace DL
open PySem PyProof.Rows PySem.Spec L2 RZ StX
theorem ixt0 (a : D) (r : List D) : ixD (.tup (a :: r)) (.int 0) = some a := at0 a r
theorem ixt1 (a b : D) (r : List D) : ixD (.tup (a :: b :: r)) (.int 1) = some b := at1 a b r
theorem valD (v : D) : St.d (.val v) = .tup [.str "value", v] := rfl
/-- a rule's def comes to r, for these right side, kinds, memory -/
def RunsTo (g : Fn1) (R Ks m : D) (r : Rl) (l : List St) : Prop := ∀ w, g [R, Ks, stL l, m] w = some (.ok (r l).d w)
abbrev Good (l : List St) : Prop := l.length ≤ 1000 ∧ ∀ s ∈ l, s.ok
def constM (c : Fn1) : M Fl := (mSeq (mSet 4 (mBin ixD (getS 2) (ret (.int 0)))) (mRet (mIte (mVal (mCall 1 c (mCons (getS 4) mNil))) (mTup (mCons (ret (.str "value")) (mCons (mBin ixD (getS 0) (ret (.int 2))) mNil))) (getS 4))))
theorem st0 (s : St) (r : List St) : ixD (stL (s :: r)) (.int 0) = some s.d := at0 _ _
theorem st1 (s t : St) (r : List St) : ixD (stL (s :: t :: r)) (.int 1) = some t.d := at1 _ _ _
theorem const_runs {c : Fn1} (hc : HereOk c) {R Ks m v : D} (hv : ixD R (.int 2) = some v) {s : St} {r : List St} (hs : s.ok) : RunsTo (gOf 4 5 (constM c)) R Ks m (ofConst v) (s :: r) := fun w => by
  have h := hc s hs w
  have e0 := st0 s r
  show gOf 4 5 (constM c) [R, Ks, stL (s :: r), m] w = some (.ok (if s.here = true then St.val v else s).d w)
  by_cases b : s.here = true
  · rw [if_pos b]
    rw [b] at h
    simp [gOf, constM, mSeq, mSet, setS, mRet, mIte, mVal, mCall, mTup, mBin, mCons, mNil, bnd, getS, ret, lft, asB, e0, h, hv, valD]
  · rw [if_neg b]
    rw [Bool.not_eq_true] at b
    rw [b] at h
    simp [gOf, constM, mSeq, mSet, setS, mRet, mIte, mVal, mCall, mTup, mBin, mCons, mNil, bnd, getS, ret, lft, asB, e0, h]
def heldM (p c : Fn1) : M Fl := (mSeq (mSet 4 (mBin ixD (getS 2) (ret (.int 1)))) (mSeq (mIte (mVal (mCall 1 p (mCons (getS 2) mNil))) (mRet (ret (St.d .cla))) (ret .nx)) (mRet (mIte (mVal (mCall 1 c (mCons (getS 4) mNil))) (mTup (mCons (ret (.str "value")) (mCons (getS 3) mNil))) (getS 4)))))
theorem held_runs {p c : Fn1} (hp : PartOk p) (hc : HereOk c) {R Ks m : D} {a b : St} (ha : a.ok) (hb : b.ok) : RunsTo (gOf 4 5 (heldM p c)) R Ks m (ofHeld m) [a, b] := fun w => by
  have h1 := hp [a, b] (by show 2 ≤ 1000; decide) (fun s hs => by
    rcases List.mem_cons.mp hs with q | q
    · rw [q]; exact ha
    · rcases List.mem_cons.mp
          q with q | q
      · rw [q]; exact hb
      · cases q) w
  have h2 := hc b hb w
  have e0 := st1 a b []
  show gOf 4 5 (heldM p c) [R, Ks, stL [a, b], m] w = some (.ok (if part [a, b] = true then St.cla else if b.here = true then .val m else b).d w)
  by_cases q : part [a, b] = true
  · rw [if_pos q]
    rw [q] at h1
    simp [gOf, heldM, mSeq, mSet, setS, mRet, mIte, mVal, mCall, mTup, mBin, mCons, mNil, bnd, getS, ret, lft, asB, e0, h1]
  · rw [if_neg q]
    rw [Bool.not_eq_true] at q
    rw [q] at h1
    by_cases x : b.here = true
    · rw [if_pos x]
      rw [x] at h2
      simp [gOf, heldM, mSeq, mSet, setS, mRet, mIte, mVal, mCall, mTup, mBin, mCons, mNil, bnd, getS, ret, lft, asB, e0, h1, h2, valD]
    · rw [if_neg x]
      rw [Bool.not_eq_true] at x
      rw [x] at h2
      simp [gOf, heldM, mSeq, mSet, setS, mRet, mIte, mVal, mCall, mTup, mBin, mCons, mNil, bnd, getS, ret, lft, asB, e0, h1, h2]
def asM : M Fl := (mRet (mBin ixD (getS 2) (ret (.int 0))))
theorem as_runs {R Ks m : D} {s : St} {r : List St} : RunsTo (gOf 4 4 asM) R Ks m ofAs (s :: r) := fun w => by
  have e0 := st0 s r
  show gOf 4 4 asM [R, Ks, stL (s :: r), m] w = some (.ok s.d w)
  simp [gOf, asM, mRet, mBin, bnd, getS, ret, lft, e0]
def argM (p c : Fn1) : M Fl := (mSeq (mSet 4 (mBin ixD (getS 2) (mBin ixD (getS 0) (ret (.int 2))))) (mSeq (mIte (mVal (mCall 1 p (mCons (getS 2) mNil))) (mRet (ret (St.d .cla))) (ret .nx)) (mSeq (mIte (mBinT inD (ret (St.d .abs)) (getS 2)) (mRet (ret (St.d .abs))) (ret .nx)) (mSeq (mIte (mBinT eqD (mBin ixD (getS 4) (ret (.int 0))) (ret (.str "value"))) (mRet (getS 4)) (ret .nx)) (mSeq (mIte (mVal (bnd (mCons (mLc [5] (bnd (getS 2) fun d => lft (itemsD d)) (bName 5) (ret true) (mCall 1 c (mCons (getS 5) mNil))) mNil) fun ds => lft (anyD ds))) (mRet (ret (St.d .thr))) (ret .nx)) (mRet (ret (St.d .unk))))))))
theorem st_at {l : List St} {k : Nat} {s : St} (h : l[k]? = some s) : ixD (stL l) (.int (k : Nat)) = some s.d := by
  show atI (l.map St.d) (k : Nat) = some s.d
  exact atI_nat (by rw [List.getElem?_map, h]; rfl)
theorem arg_runs {p c : Fn1} (hp : PartOk p) (hc : HereOk c) {R Ks m : D} {l : List St} (g : Good l) {k : Nat} {o : St} (hR : ixD R (.int 2) = some (.int (k : Nat))) (ho : l[k]? = some o) : RunsTo (gOf 4 6 (argM p c)) R Ks m (ofArg k) l := fun w => by
  have h1 := hp l g.1 g.2 w
  have e0 := st_at ho
  have e1 := in_abs l g.2
  obtain ⟨x, e2, e3⟩ := ix_head o
  have e4 := anyHere hc (i := 5) (mi := bnd (getS 2) fun d => lft (itemsD d)) (ρ := [.val R, .val Ks, .val (stL l), .val m, .val o.d, .free]) (w0 := w) (w := w) l g.1 g.2 (by simp [bnd, getS, lft, itemsD, stL]) (by show 5 < 6; decide)
  show gOf 4 6 (argM p c) [R, Ks, stL l, m] w = some (.ok (ofArg k l).d w)
  unfold ofArg
  rw [ho]
  dsimp only
  by_cases q : part l = true
  · rw [if_pos q]
    rw [q] at h1
    simp [gOf, argM, mSeq, mSet, setS, mRet, mIte, mVal, mCall, mBin, mCons, mNil, bnd, getS, ret, lft, asB, e0, hR, h1]
  · rw [if_neg q]
    rw [Bool.not_eq_true] at q
    rw [q] at h1
    by_cases a : l.any St.isAbs = true
    · rw [if_pos a]
      rw [a] at e1
      simp [gOf, argM, mSeq, mSet, setS, mRet, mIte, mVal, mCall, mBin, mBinT, mCons, mNil, bnd, getS, ret, lft, asB, e0, hR, h1, e1]
    · rw [if_neg a]
      rw [Bool.not_eq_true] at a
      rw [a] at e1
      by_cases v : o.isVal = true
      · rw [if_pos v]
        rw [v] at e3
        simp [gOf, argM, mSeq, mSet, setS, mRet, mIte, mVal, mCall, mBin, mBinT, mCons, mNil, bnd, getS, ret, lft, asB, e0, hR, h1, e1, e2, eq_str, e3]
      · rw [if_neg v]
        rw [Bool.not_eq_true] at v
        rw [v] at e3
        have pre : ∀ k : M Fl, (mSeq (mSet 4 (mBin ixD (getS 2) (mBin ixD (getS 0) (ret (.int 2))))) (mSeq (mIte (mVal (mCall 1 p (mCons (getS 2) mNil))) (mRet (ret (St.d .cla))) (ret .nx)) (mSeq (mIte (mBinT inD (ret (St.d .abs)) (getS 2)) (mRet (ret (St.d .abs))) (ret .nx)) (mSeq (mIte (mBinT eqD (mBin ixD (getS 4) (ret (.int 0))) (ret (.str "value"))) (mRet (getS 4)) (ret .nx)) k)))) [.val R, .val Ks, .val (stL l), .val m, .free, .free] w = k [.val R, .val Ks, .val (stL l), .val m, .val o.d, .free] w := fun k => by
          simp [mSeq, mSet, setS, mRet, mIte, mVal, mCall, mBin, mBinT, mCons, mNil, bnd, getS, ret, lft, asB, e0, hR, h1, e1, e2, eq_str, e3]
        have run : argM p c [.val R, .val Ks, .val (stL l), .val m, .free, .free] w = some (.ok (.rt (if l.any St.here = true then St.thr else St.unk).d) [.val R, .val Ks, .val (stL l), .val m, .val o.d, .free] w) := by
          unfold argM
          rw [pre]
          cases b : l.any St.here with
          | true =>
            rw [b] at e4
            refine seq_rt ((ite_run (b := true) (ρ' := [.val R, .val Ks, .val (stL l), .val m, .val o.d, .free]) (w' := w) ?_).trans rfl)
            unfold mVal
            rw [bnd_ok e4]
            rfl
          | false =>
            rw [b] at e4
            rw [seq_nx (ρ' := [.val R, .val Ks, .val (stL l), .val m, .val o.d, .free]) (w' := w) ((ite_run (b := false) (ρ' := [.val R, .val Ks, .val (stL l), .val m, .val o.d, .free]) (w' := w) (by
              unfold mVal
              rw [bnd_ok e4]
              rfl)).trans rfl)]
            rfl
        show (match argM p c [.val R, .val Ks, .val (stL l), .val m, .free, .free] w with
          | some (.ok .nx _ w') => some (Fr.ok .non w')
          | some (.ok (.rt d) _ w') => some (.ok d w')
          | some (.exc x _ w') => some (.exc x w')
          | _ => none) = _
        rw [run]
def whenM (p : Fn1) : M Fl := (mSeq (mAsg (getS 2) (bTup 2 (bCons (bName 4) (bCons (bName 5) bNil)))) (mSeq (mIte (mVal (mCall 1 p (mCons (getS 2) mNil))) (mRet (ret (St.d .cla))) (ret .nx)) (mSeq (mIte (mBinT inD (ret (St.d .abs)) (getS 2)) (mRet (ret (St.d .abs))) (ret .nx)) (mSeq (mIte (mBinT neD (mBin ixD (getS 5) (ret (.int 0))) (ret (.str "value"))) (mRet (ret (St.d .unk))) (ret .nx)) (mRet (mIte (mBinT eqD (mBin ixD (getS 5) (ret (.int 1))) (mBin ixD (getS 0) (ret (.int 3)))) (getS 4) (ret (St.d .abs))))))))
theorem ne_str (x y : Str) : neD (.str x) (.str y) = some (.bl (!(x == y))) := by
  simp [neD, dat, deq]
theorem when_runs {p : Fn1} (hp : PartOk p) {R Ks m : D} {s c : St} (g : Good [s, c]) {x : D} (hR : ixD R (.int 3) = some x) (hx : dat 60 x = true) : RunsTo (gOf 4 6 (whenM p)) R Ks m (ofWhen x) [s, c] := fun w => by
  have h1 := hp [s, c] g.1 g.2 w
  have e1 := in_abs [s, c] g.2
  obtain ⟨y, e2, e3⟩ := ix_head c
  have e5 : stL [s, c] = .lst [s.d, c.d] := rfl
  show gOf 4 6 (whenM p) [R, Ks, stL [s, c], m] w = some (.ok (if part [s, c] = true then St.cla else if [s, c].any St.isAbs = true then .abs else if c.isVal = false then .unk else if deq c.v x = true then s else .abs).d w)
  rw [e5] at h1 e1 ⊢
  by_cases q : part [s, c] = true
  · rw [if_pos q]
    rw [q] at h1
    simp [gOf, whenM, mSeq, mAsg, bTup, bCons, bName, bNil, mRet, mIte, mVal, mCall, mCons, mNil, bnd, getS, ret, lft, asB, h1]
  · rw [if_neg q]
    rw [Bool.not_eq_true] at q
    rw [q] at h1
    by_cases a : [s, c].any St.isAbs = true
    · rw [if_pos a]
      rw [a] at e1
      simp [gOf, whenM, mSeq, mAsg, bTup, bCons, bName, bNil, mRet, mIte, mVal, mCall, mBinT, mCons, mNil, bnd, getS, ret, lft, asB, h1, e1]
    · rw [if_neg a]
      rw [Bool.not_eq_true] at a
      rw [a] at e1
      by_cases v : c.isVal = false
      · rw [if_pos v]
        rw [v] at e3
        simp [gOf, whenM, mSeq, mAsg, bTup, bCons, bName, bNil, mRet, mIte, mVal, mCall, mBin, mBinT, mCons, mNil, bnd, getS, ret, lft, asB, h1, e1, e2, ne_str, e3]
      · rw [if_neg v]
        cases c with
        | val d =>
          have hd : dat 60 d = true := dat_to (g.2 (.val d) (List.mem_cons_of_mem _ List.mem_cons_self)) (by decide)
          have e7 : eqD d x = some (.bl (deq d x)) := by
            unfold eqD
            rw [hd, hx]
            rfl
          have e6 : St.v (.val d) = d := rfl
          have e8 : St.d (.val d) = .tup [.str "value", d] := rfl
          rw [e8] at h1 e1 ⊢
          rw [e6]
          by_cases z : deq d x = true
          · rw [if_pos z]
            rw [z] at e7
            simp [gOf, whenM, mSeq, mAsg, bTup, bCons, bName, bNil, mRet, mIte, mVal, mCall, mBin, mBinT, mCons, mNil, bnd, getS, ret, lft, asB, h1, e1, ixt0, ixt1, ne_str, hR, e7]
          · rw [if_neg z]
            rw [Bool.not_eq_true] at z
            rw [z] at e7
            simp [gOf, whenM, mSeq, mAsg, bTup, bCons, bName, bNil, mRet, mIte, mVal, mCall, mBin, mBinT, mCons, mNil, bnd, getS, ret, lft, asB, h1, e1, ixt0, ixt1, ne_str, hR, e7]
        | _ => exact absurd rfl v
end DL
set_option Elab.async false
set_option linter.all false
set_option maxRecDepth 100000
set_option maxHeartbeats 4000001
/-! DLX: ops and tables, choose, standing_of. -/
namespace DL
open PySem PyProof.Rows PySem.Spec L2 RZ StX
theorem setFree {i : Nat} {ρ : Rho} (h : ρ[i]? = some .free) : ρ.set i .free = ρ := by
  apply List.ext_getElem?
  intro j
  by_cases hj : i = j
  · subst hj
    rw [List.getElem?_set_self (List.getElem?_eq_some_iff.mp h).1, h]
  · rw [List.getElem?_set_ne hj]
theorem allVal {i : Nat} {mi : M (List D)} {ρ : Rho} {w0 w : Wo} (l : List St) (hl : l.length ≤ 1000) (h0 : mi ρ w0 = some (.ok (l.map St.d) ρ w)) (hi : i < ρ.length) :
    (bnd (mCons (mLc [i] mi (bName i) (ret true) (mBin eqD (mBin ixD (getS i) (ret (.int 0))) (ret (.str "value")))) mNil) fun ds => lft (allD ds)) ρ w0 = some (.ok (.bl (l.all St.isVal)) (ρ.set i .free) w) := by
  have e := mLc_map (own := [i]) (bind := bName i) (mi := mi) (me := mBin eqD (mBin ixD (getS i) (ret (.int 0))) (ret (.str "value"))) (ρ := ρ) (w0 := w0) (w := w) (e := St.d) (f := fun s => D.bl s.isVal) l h0 (by omega) fun s hs => by
    refine ⟨(ρ.set i .free).set i (.val s.d), (ρ.set i .free).set i (.val s.d), rfl, ?_, ?_⟩
    · have g : getS i ((ρ.set i .free).set i (.val s.d)) w = some (.ok s.d ((ρ.set i .free).set i (.val s.d)) w) := by
        unfold getS
        rw [List.getElem?_set_self (by rw [List.length_set]; exact hi)]
      obtain ⟨x, e2, e3⟩ := ix_head s
      have g1 : mBin ixD (getS i) (ret (.int 0)) ((ρ.set i .free).set i (.val s.d)) w = some (.ok (.str x) ((ρ.set i .free).set i (.val s.d)) w) := by
        unfold mBin
        rw [bnd_ok g]
        simp [bnd, ret, lft, e2]
      show bnd (mBin ixD (getS i) (ret (.int 0))) (fun a => bnd (ret (.str "value")) fun b => lft (eqD a b)) _ w = _
      rw [bnd_ok g1]
      simp [bnd, ret, lft, eq_str, e3]
    · show ((ρ.set i .free).set i (.val s.d)).set i .free = ρ.set i .free
      rw [List.set_set, List.set_set]
  have e2 : mCons (mLc [i] mi (bName i) (ret true) (mBin eqD (mBin ixD (getS i) (ret (.int 0))) (ret (.str "value")))) mNil ρ w0 = some (.ok [.lst (l.map fun s => D.bl s.isVal)] (ρ.set i .free) w) := cons_ok e rfl
  rw [bnd_ok e2]
  unfold lft allD
  simp only [bools_map]
  simp [List.all_map, Function.comp_def]
theorem vals_back : ∀ {l : List St}, l.all St.isVal = true → l = (l.map St.v).map .val
  | [], _ => rfl
  | s :: l, h => by
    rw [List.all_cons,
          Bool.and_eq_true] at h
    rw [List.map_cons, List.map_cons, ← vals_back h.2]
    cases s with
    | val d => rfl
    | _ => cases h.1
/-- what reckons an op's, a table's value -/
def ValueOk (v : Fn1) (R Ks : D) (f : List D → D) (vs : List D) : Prop := ∀ w, v [R, Ks, .lst vs] w = some (.ok (f vs) w)
def valsM (p c v : Fn1) : M Fl := (mSeq (mIte (mVal (mCall 1 p (mCons (getS 2) mNil))) (mRet (ret (St.d .cla))) (ret .nx)) (mSeq (mIte (mBinT inD (ret (St.d .abs)) (getS 2)) (mRet (ret (St.d .abs))) (ret .nx)) (mSeq (mIte (mVal (bnd (mCons (mLc [4] (bnd (getS 2) fun d => lft (itemsD d)) (bName 4) (ret true) (mBin eqD (mBin ixD (getS 4) (ret (.int 0))) (ret (.str "value")))) mNil) fun ds => lft (allD ds))) (mRet (mTup (mCons (ret (.str "value")) (mCons (mCall 3 v (mCons (getS 0) (mCons (getS 1) (mCons (mLc [5, 6] (bnd (getS 2) fun d => lft (itemsD d)) (bTup 2 (bCons (bName 5) (bCons (bName 6) bNil))) (ret true) (getS 6)) mNil)))) mNil)))) (ret .nx)) (mSeq (mIte (mVal (bnd (mCons (mLc [4] (bnd (getS 2) fun d => lft (itemsD d)) (bName 4) (ret true) (mCall 1 c (mCons (getS 4) mNil))) mNil) fun ds => lft (anyD ds))) (mRet (ret (St.d .thr))) (ret .nx)) (mRet (ret (St.d .unk)))))))
theorem mVal_ok {m : M D} {ρ ρ' : Rho} {w w' : Wo} {b : Bool} (h : m ρ w = some (.ok (.bl b) ρ' w')) : mVal m ρ w = some (.ok b ρ' w') := by
  unfold mVal
  rw [bnd_ok h]
  rfl
theorem ret_ok {m : M D} {ρ ρ' : Rho} {w w' : Wo} {d : D} (h : m ρ w = some (.ok d ρ' w')) : mRet m ρ w = some (.ok (.rt d) ρ' w') := by
  unfold mRet
  rw [bnd_ok h]
  rfl
theorem seq_if_no {mc : M Bool} {m k : M Fl} {ρ ρ' : Rho} {w w' : Wo} (h : mc ρ w = some (.ok false ρ' w')) : mSeq (mIte mc m (ret .nx)) k ρ w = k ρ' w' := seq_nx ((ite_run h).trans rfl)
theorem seq_if_yes {mc : M Bool} {m : M D} {k : M Fl} {ρ ρ' ρ2 : Rho} {w w' w2 : Wo} {d : D} (h : mc ρ w = some (.ok true ρ' w')) (g : m ρ' w' = some (.ok d ρ2 w2)) : mSeq (mIte mc (mRet m) (ret .nx)) k ρ w = some (.ok (.rt d) ρ2 w2) := seq_rt ((ite_run h).trans (ret_ok g))
theorem vals_runs {p c v : Fn1} (hp : PartOk p) (hc : HereOk c) {R Ks m : D} {l : List St} (g : Good l) {f : List D → D} (hv : l.all St.isVal = true → ValueOk v R Ks f (l.map St.v)) : RunsTo (gOf 4 7 (valsM p c v)) R Ks m (ofVals f) l := fun w => by
  let ρ : Rho := [.val R, .val Ks, .val (stL l), .val m, .free, .free, .free]
  have h1 : mVal (mCall 1 p (mCons (getS 2) mNil)) ρ w = some (.ok (part l) ρ w) := mVal_ok (by simp [ρ, mCall, bnd, mCons, mNil, getS, ret, hp l g.1 g.2 w])
  have h2 : mBinT inD (ret (St.d .abs)) (getS 2) ρ w = some (.ok (l.any St.isAbs) ρ w) := by simp [ρ, mBinT, bnd, ret, getS, asB, in_abs l g.2]
  have hi : (bnd (getS 2) fun d => lft (itemsD d)) ρ w = some (.ok (l.map St.d) ρ w) := by simp [ρ, bnd, getS, lft, itemsD, stL]
  have h3 := mVal_ok (allVal (i := 4) (mi := bnd (getS 2) fun d => lft (itemsD d)) (ρ := ρ) (w0 := w) (w := w) l g.1 hi (by show 4 < 7; decide))
  have h4 := mVal_ok (anyHere hc (i := 4) (mi := bnd (getS 2) fun d => lft (itemsD d)) (ρ := ρ) (w0 := w) (w := w) l g.1 g.2 hi (by show 4 < 7; decide))
  have fr : ρ.set 4 .free = ρ := rfl
  rw [fr] at h3 h4
  have run : valsM p c v ρ w = some (.ok (.rt (ofVals f l).d) ρ w) := by
    unfold valsM ofVals
    by_cases q : part l = true
    · rw [if_pos q]
      rw [q] at h1
      exact seq_if_yes h1 rfl
    · rw [if_neg q]
      rw [Bool.not_eq_true] at q
      rw [q] at h1
      rw [seq_if_no h1]
      by_cases a : l.any St.isAbs = true
      · rw [if_pos a]
        rw [a] at h2
        exact seq_if_yes h2 rfl
      · rw [if_neg a]
        rw [Bool.not_eq_true] at a
        rw [a] at h2
        rw [seq_if_no h2]
        by_cases b : l.all St.isVal = true
        · rw [if_pos b]
          rw [b] at h3
          have e := vals_back b
          have lc := mLc_map (own := [5, 6]) (bind := bTup 2 (bCons (bName 5) (bCons (bName 6) bNil))) (mi := bnd (getS 2) fun d => lft (itemsD d)) (me := getS 6) (ρ := ρ) (w0 := w) (w := w) (e := fun d => St.d (.val d)) (f := fun d => d) (l.map St.v) (by
              rw [hi]
              congr 2
              have := congrArg (List.map St.d) e
              rw [this, List.map_map, List.map_map]
              simp [Function.comp_def]) (by rw [List.length_map]; have := g.1; omega) fun d _ => ⟨[.val R, .val Ks, .val (stL l), .val m, .free, .val (.str "value"), .val d], [.val R, .val Ks, .val (stL l), .val m, .free, .val (.str "value"), .val d], rfl, rfl, rfl⟩
          rw [List.map_id'] at lc
          have fr2 : wipeR ρ [5, 6] = ρ := rfl
          rw [fr2] at lc
          have a1 : mCons (getS 0) (mCons (getS 1) (mCons (mLc [5, 6] (bnd (getS 2) fun d => lft (itemsD d)) (bTup 2 (bCons (bName 5) (bCons (bName 6) bNil))) (ret true) (getS 6)) mNil)) ρ w = some (.ok [R, Ks, .lst (l.map St.v)] ρ w) := cons_ok rfl (cons_ok rfl (cons_ok lc rfl))
          have a2 : mCall 3 v (mCons (getS 0) (mCons (getS 1) (mCons (mLc [5, 6] (bnd (getS 2) fun d => lft (itemsD d)) (bTup 2 (bCons (bName 5) (bCons (bName 6) bNil))) (ret true) (getS 6)) mNil))) ρ w = some (.ok (f (l.map St.v)) ρ w) := by
            unfold mCall
            rw [bnd_ok a1]
            show (match v [R, Ks, .lst (l.map St.v)] w with
              | some (.ok d w') => some (Rs.ok d ρ w')
              | some (.exc x w') => some (.exc x ρ w')
              | none => none) = _
            rw [hv b w]
          refine seq_if_yes h3 ?_
          unfold mTup
          rw [bnd_ok (cons_ok (rfl : ret (.str "value") ρ w = some (.ok (.str "value") ρ w)) (cons_ok a2 rfl))]
          rfl
        · rw [if_neg b]
          rw [Bool.not_eq_true] at b
          rw [b] at h3
          rw [seq_if_no h3]
          by_cases x : l.any St.here = true
          · rw [if_pos x]
            rw [x] at h4
            exact seq_if_yes h4 rfl
          · rw [if_neg x]
            rw [Bool.not_eq_true] at x
            rw [x] at h4
            rw [seq_if_no h4]
            rfl
  show (match valsM p c v ρ w with
    | some (.ok .nx _ w') => some (Fr.ok .non w')
    | some (.ok (.rt d) _ w') => some (.ok d w')
    | some (.exc x _ w') => some (.exc x w')
    | _ => none) = _
  rw [run]
end DL
set_option Elab.async false
set_option linter.all false
set_option maxRecDepth 100000
set_option maxHeartbeats 4000001
/-! DLXA: choose, standing_of. -/
namespace DL
open PySem PyProof.Rows PySem.Spec L2 RZ StX
theorem cut_from (xs : List D) (k : Nat) : cutD xs (some (k : Nat)) none = xs.drop k := by
  unfold cutD
  rw [HT.sIx_nat, HT.sIx_none]
  apply List.ext_getElem?
  intro j
  rw [List.getElem?_take]
  by_cases h : k ≤ xs.length
  · rw [Nat.min_eq_left h]
    by_cases q : j < xs.length - k
    · rw [if_pos q]
    · rw [if_neg q, List.getElem?_drop, List.getElem?_eq_none (by omega)]
  · rw [Nat.min_eq_right (by omega), Nat.sub_self, if_neg (by omega), List.getElem?_drop, List.getElem?_eq_none (by omega)]
theorem cut_to (xs : List D) (k : Nat) : cutD xs none (some (k : Nat)) = xs.take k := by
  unfold cutD
  rw [HT.sIx_nat, HT.sIx_none, List.drop_zero, Nat.sub_zero]
  apply List.ext_getElem?
  intro j
  rw [List.getElem?_take, List.getElem?_take]
  by_cases h : k ≤ xs.length
  · rw [Nat.min_eq_left h]
  · rw [Nat.min_eq_right (by omega)]
    by_cases q : j < xs.length
    · rw [if_pos q, if_pos (by omega)]
    · rw [if_neg q, List.getElem?_eq_none (by omega)]
      split <;> rfl
theorem dstrs_map : ∀ ws : List Str, dstrs (ws.map .str) = some ws
  | [] => rfl
  | w :: ws => by
    show (dstrs (ws.map .str)).map (fun l => w :: l) = _
    rw [dstrs_map ws]
    rfl
abbrev othM (i j : Nat) : M D := mLst (mStar (mSl (getS i) (ret none) (bnd (getS j) (kInt fun i => ret (some i)))) (mStar (mSl (getS i) (bnd (mBin addD (getS j) (ret (.int 1))) (kInt fun i => ret (some i))) (ret none)) mNil))
def chooseM (p c : Fn1) : M Fl := (mSeq (mPar 4 5 (mCons (mBin ixD (getS 2) (ret (.int 0))) (mCons (mSl (getS 2) (bnd (ret (.int 1)) (kInt fun i => ret (some i))) (ret none)) mNil))) (mSeq (mIte (mBinT eqD (getS 4) (ret (St.d .abs))) (mRet (mIte (mVal (mCall 1 p (mCons (getS 2) mNil))) (ret (St.d .cla)) (ret (St.d .abs)))) (ret .nx)) (mSeq (mIte (mBinT neD (mBin ixD (getS 4) (ret (.int 0))) (ret (.str "value"))) (mRet (getS 4)) (ret .nx)) (mSeq (mSet 6 (mTM tixD (mBin ixD (mBin ixD (getS 1) (ret (.int 0))) (ret (.int 1))) (mCons (mBin ixD (getS 4) (ret (.int 1))) mNil))) (mSeq (mSet 7 (mBin ixD (getS 5) (getS 6))) (mSeq (mSet 8 (othM 5 6)) (mSeq (mIte (mOr (mBinT eqD (getS 7) (ret (St.d .abs))) (mVal (bnd (mCons (mLc [9] (bnd (getS 8) fun d => lft (itemsD d)) (bName 9) (ret true) (mCall 1 c (mCons (getS 9) mNil))) mNil) fun ds => lft (anyD ds)))) (mRet (ret (St.d .cla))) (ret .nx)) (mRet (mIte (mBinT eqD (mBin ixD (getS 7) (ret (.int 0))) (ret (.str "value"))) (getS 7) (ret (St.d .thr)))))))))))
/-- the place of a word -/
def atW (ws : List Str) : D → Nat
  | .str z => (firstAt z ws).getD 0
  | _ => 0
theorem choose_runs {p c : Fn1} (hp : PartOk p) (hc : HereOk c) {R m : D} {ks : List D} {ws : List Str} {q : St} {bs : List St} (g : Good (q :: bs)) (hz : ∀ d, q = .val d → ∃ z j, d = .str z ∧ firstAt z ws = some j ∧ j < bs.length) :
    RunsTo (gOf 4 10 (chooseM p c)) R (.lst (Ty.d (.lot ws) :: ks)) m (ofChoose (atW ws)) (q :: bs) := fun w => by
  have gq : q.ok := g.2 q List.mem_cons_self
  have gb : ∀ s ∈ bs, s.ok := fun s hs => g.2 s (List.mem_cons_of_mem _ hs)
  have lb : bs.length ≤ 1000 := by have := g.1; rw [List.length_cons] at this; omega
  let ρ0 : Rho := [.val R, .val (.lst (Ty.d (.lot ws) :: ks)), .val (stL (q :: bs)), .val m, .free, .free, .free, .free, .free, .free]
  let ρ1 : Rho := [.val R, .val (.lst (Ty.d (.lot ws) :: ks)), .val (stL (q :: bs)), .val m, .val q.d, .val (stL bs), .free, .free, .free, .free]
  have p1 : mPar 4 5 (mCons (mBin ixD (getS 2) (ret (.int 0))) (mCons (mSl (getS 2) (bnd (ret (.int 1)) (kInt fun i => ret (some i))) (ret none)) mNil)) ρ0 w = some (.ok .nx ρ1 w) := by
    have e1 : mBin ixD (getS 2) (ret (.int 0)) ρ0 w = some (.ok q.d ρ0 w) := by simp [ρ0, mBin, bnd, getS, ret, lft, st0]
    have e2 : mSl (getS 2) (bnd (ret (.int 1)) (kInt fun i => ret (some i))) (ret none) ρ0 w = some (.ok (stL bs) ρ0 w) := by
      have := cut_from ((q :: bs).map St.d) 1
      simp [ρ0, mSl, bnd, getS, ret, kInt, lft, slD, stL] at this ⊢
      exact this
    unfold mPar
    rw [bnd_ok (cons_ok e1 (cons_ok e2 rfl))]
    rfl
  have h2 : mBinT eqD (getS 4) (ret (St.d .abs)) ρ1 w = some (.ok q.isAbs ρ1 w) := by
    have e := eqSt q .abs gq trivial
    rw [dq_abs] at e
    simp [ρ1, mBinT, bnd, getS, ret, asB, e]
  have h3 : mVal (mCall 1 p (mCons (getS 2) mNil)) ρ1 w = some (.ok (part (q :: bs)) ρ1 w) := mVal_ok (by simp [ρ1, mCall, bnd, mCons, mNil, getS, ret, hp (q :: bs) g.1 g.2 w])
  obtain ⟨x, hx1, hx2⟩ := ix_head q
  have h4 : mBinT neD (mBin ixD (getS 4) (ret (.int 0))) (ret (.str "value")) ρ1 w = some (.ok (!q.isVal) ρ1 w) := by simp [ρ1, mBinT, mBin, bnd, getS, ret, asB, lft, hx1, ne_str, hx2]
  have run : ∃ ρ', chooseM p c ρ0 w = some (.ok (.rt (ofCh (atW ws) q bs).d) ρ' w) := by
    unfold chooseM ofCh
    rw [seq_nx p1]
    by_cases a : q.isAbs = true
    · rw [if_pos a]
      rw [a] at h2
      refine ⟨ρ1, seq_if_yes h2 ?_⟩
      by_cases b : part (q :: bs) = true
      · rw [if_pos b]
        rw [b] at h3
        unfold mIte
        rw [bnd_ok h3]
        rfl
      · rw [if_neg b]
        rw [Bool.not_eq_true] at b
        rw [b] at h3
        unfold mIte
        rw [bnd_ok h3]
        rfl
    · rw [if_neg a]
      rw [Bool.not_eq_true] at a
      rw [a] at h2
      rw [seq_if_no h2]
      by_cases v : q.isVal = false
      · rw [if_pos v]
        rw [v] at h4
        exact ⟨ρ1, seq_if_yes h4 rfl⟩
      · rw [if_neg v]
        rw [Bool.not_eq_false] at v
        rw [v] at h4
        rw [seq_if_no h4]
        cases q with
        | val d =>
          obtain ⟨z, j, ed, hj, lj⟩ := hz d rfl
          subst ed
          obtain ⟨o, ho⟩ : ∃ o, bs[j]? = some o := ⟨bs[j], List.getElem?_eq_getElem lj⟩
          have go : o.ok := gb o (List.mem_of_getElem? ho)
          have ej : atW ws (St.v (.val (.str z))) = j := by
            show (firstAt z ws).getD 0 = j
            rw [hj]
            rfl
          rw [ej, ho]
          dsimp only
          let ρ2 : Rho := [.val R, .val (.lst (Ty.d (.lot ws) :: ks)), .val (stL (.val (.str z) :: bs)), .val m, .val (St.d (.val (.str z))), .val (stL bs), .val (.int (j : Nat)), .free, .free, .free]
          let ρ3 : Rho := [.val R, .val (.lst (Ty.d (.lot ws) :: ks)), .val (stL (.val (.str z) :: bs)), .val m, .val (St.d (.val (.str z))), .val (stL bs), .val (.int (j : Nat)), .val o.d, .free, .free]
          let ρ4 : Rho := [.val R, .val (.lst (Ty.d (.lot ws) :: ks)), .val (stL (.val (.str z) :: bs)), .val m, .val (St.d (.val (.str z))), .val (stL bs), .val (.int (j : Nat)), .val o.d, .val (stL (bs.eraseIdx j)), .free]
          have t0 : ixD (.lst (Ty.d (.lot ws) :: ks)) (.int 0) = some (Ty.d (.lot ws)) := at0 _ _
          have t1 : ixD (Ty.d (.lot ws)) (.int 1) = some (.tup (ws.map .str)) := at1 _ _ _
          have t2 : tixD (.tup (ws.map .str)) [.str z] = some (.int (j : Nat)) := by
            show (dstrs (ws.map .str)).bind (fun ys => (firstAt z ys).map fun j => D.int (j : Nat)) = _
            rw [dstrs_map]
            show (firstAt z ws).map (fun j => D.int (j : Nat)) = _
            rw [hj]
            rfl
          have s6 : mSet 6 (mTM tixD (mBin ixD (mBin ixD (getS 1) (ret (.int 0))) (ret (.int 1))) (mCons (mBin ixD (getS 4) (ret (.int 1))) mNil)) ρ1 w = some (.ok .nx ρ2 w) := by
            simp [ρ1, ρ2, mSet, setS, mTM, mBin, bnd, mCons, mNil, getS, ret, lft, t0, t1, t2, valD, ixt1]
          have s7 : mSet 7 (mBin ixD (getS 5) (getS 6)) ρ2 w = some (.ok .nx ρ3 w) := by
            simp [ρ2, ρ3, mSet, setS, mBin, bnd, getS, ret, lft, st_at ho]
          have l1 : (bs.map St.d).length ≤ 1000 := by rw [List.length_map]; exact lb
          have c1 : mSl (getS 5) (ret none) (bnd (getS 6) (kInt fun i => ret (some i))) ρ3 w = some (.ok (.lst ((bs.map St.d).take j)) ρ3 w) := by
            simp [ρ3, mSl, bnd, getS, ret, kInt, lft, slD, stL, cut_to]
          have c2 : mSl (getS 5) (bnd (mBin addD (getS 6) (ret (.int 1))) (kInt fun i => ret (some i))) (ret none) ρ3 w = some (.ok (.lst ((bs.map St.d).drop (j + 1))) ρ3 w) := by
            have b0 : mBin addD (getS 6) (ret (.int 1)) ρ3 w = some (.ok (.int ((j + 1 : Nat) : Int)) ρ3 w) := rfl
            have b1 : bnd (mBin addD (getS 6) (ret (.int 1))) (kInt fun i => ret (some i)) ρ3 w = some (.ok (some ((j + 1 : Nat) : Int)) ρ3 w) := by
              rw [bnd_ok b0]
              rfl
            have b2 : getS 5 ρ3 w = some (.ok (stL bs) ρ3 w) := rfl
            have b3 : (ret none : M (Option Int)) ρ3 w = some (.ok none ρ3 w) := rfl
            unfold mSl
            rw [bnd_ok b2, bnd_ok b1, bnd_ok b3]
            show some (Rs.ok (D.lst (cutD (bs.map St.d) (some ((j + 1 : Nat) : Int)) none)) ρ3 w) = _
            rw [cut_from]
          have s8 : mSet 8 (othM 5 6) ρ3 w = some (.ok .nx ρ4 w) := by
            have e : (bs.map St.d).take j ++ ((bs.map St.d).drop (j + 1) ++ []) = (bs.eraseIdx j).map St.d := by
              rw [List.append_nil, ← List.map_take, ← List.map_drop, ← List.map_append, List.eraseIdx_eq_take_drop_succ]
            have a2 : mStar (mSl (getS 5) (bnd (mBin addD (getS 6) (ret (.int 1))) (kInt fun i => ret (some i))) (ret none)) mNil ρ3 w = some (.ok ((bs.map St.d).drop (j + 1) ++ []) ρ3 w) := by
              unfold mStar
              rw [bnd_ok c2]
              rfl
            have a1 : mStar (mSl (getS 5) (ret none) (bnd (getS 6) (kInt fun i => ret (some i)))) (mStar (mSl (getS 5) (bnd (mBin addD (getS 6) (ret (.int 1))) (kInt fun i => ret (some i))) (ret none)) mNil) ρ3 w = some (.ok ((bs.eraseIdx j).map St.d) ρ3 w) := by
              have b1 : ∀ (m1 : M D) (m2 : M (List D)) (xs ys : List D), m1 ρ3 w = some (.ok (.lst xs) ρ3 w) → m2 ρ3 w = some (.ok ys ρ3 w) → mStar m1 m2 ρ3 w = some (.ok (xs ++ ys) ρ3 w) := fun m1 m2 xs ys f1 f2 => by
                unfold mStar
                rw [bnd_ok f1]
                dsimp only
                rw [bnd_ok f2]
                rfl
              rw [← e]
              exact b1 _ _ _ _ c1 a2
            have a0 : othM 5 6 ρ3 w = some (.ok (stL (bs.eraseIdx j)) ρ3 w) := by
              show mLst _ ρ3 w = _
              unfold mLst
              rw [bnd_ok a1]
              rw [if_pos (by rw [List.length_map]; have := List.length_eraseIdx_le bs j; omega)]
              rfl
            unfold mSet
            rw [bnd_ok a0]
            rfl
          rw [seq_nx s6, seq_nx s7, seq_nx s8]
          have ge : ∀ s ∈ bs.eraseIdx j, s.ok := fun s hs => gb s (List.mem_of_mem_eraseIdx hs)
          have le : (bs.eraseIdx j).length ≤ 1000 := by have := List.length_eraseIdx_le bs j; omega
          have h9 := mVal_ok (anyHere hc (i := 9) (mi := bnd (getS 8) fun d => lft (itemsD d)) (ρ := ρ4) (w0 := w) (w := w) (bs.eraseIdx j) le ge (by simp [ρ4, bnd, getS, lft, itemsD, stL]) (by show 9 < 10; decide))
          have fr : ρ4.set 9 .free = ρ4 := rfl
          rw [fr] at h9
          have h10 : mBinT eqD (getS 7) (ret (St.d .abs)) ρ4 w = some (.ok o.isAbs ρ4 w) := by
            have e := eqSt o .abs go trivial
            rw [dq_abs] at e
            simp [ρ4, mBinT, bnd, getS, ret, asB, e]
          have h11 : mOr (mBinT eqD (getS 7) (ret (St.d .abs))) (mVal (bnd (mCons (mLc [9] (bnd (getS 8) fun d => lft (itemsD d)) (bName 9) (ret true) (mCall 1 c (mCons (getS 9) mNil))) mNil) fun ds => lft (anyD ds))) ρ4 w = some (.ok (o.isAbs || (bs.eraseIdx j).any St.here) ρ4 w) := by
            unfold mOr
            rw [bnd_ok h10]
            cases o.isAbs with
            | true => rfl
            | false => exact h9
          by_cases y : (o.isAbs || (bs.eraseIdx j).any St.here) = true
          · rw [if_pos y]
            rw [y] at h11
            exact ⟨ρ4, seq_if_yes h11 rfl⟩
          · rw [if_neg y]
            rw [Bool.not_eq_true] at y
            rw [y] at h11
            rw [seq_if_no h11]
            obtain ⟨x', k1, k2⟩ := ix_head o
            have h12 : mBinT eqD (mBin ixD (getS 7) (ret (.int 0))) (ret (.str "value")) ρ4 w = some (.ok o.isVal ρ4 w) := by simp [ρ4, mBinT, mBin, bnd, getS, ret, asB, lft, k1, eq_str, k2]
            by_cases u : o.isVal = true
            · rw [if_pos u]
              rw [u] at h12
              refine ⟨ρ4, ret_ok ?_⟩
              unfold mIte
              rw [bnd_ok h12]
              rfl
            · rw [if_neg u]
              rw [Bool.not_eq_true] at u
              rw [u] at h12
              refine ⟨ρ4, ret_ok ?_⟩
              unfold mIte
              rw [bnd_ok h12]
              rfl
        | _ => cases v
  obtain ⟨ρ', run⟩ := run
  show (match chooseM p c ρ0 w with
    | some (.ok .nx _ w') => some (Fr.ok .non w')
    | some (.ok (.rt d) _ w') => some (.ok d w')
    | some (.exc x _ w') => some (.exc x w')
    | _ => none) = _
  rw [run]
  rfl
def standM (rules : List (Str × Option D)) (tb : Tb) : M Fl := (mSeq (mIte (mBinT inD (ret (St.d .cla)) (getS 2)) (mRet (ret (St.d .cla))) (ret .nx)) (mSeq (mSet 4 (bnd (mBin ixD (getS 0) (ret (.int 0))) fun d => lft (kdGet rules d))) (mRet (mCallV 4 tb (mCons (getS 0) (mCons (getS 1) (mCons (getS 2) (mCons (getS 3) mNil))))))))
theorem stand_runs {rules : List (Str × Option D)} {tb : Tb} {R Ks m : D} {l : List St} (g : Good l) {x f : Str} {gr : Fn1} {r : Rl} (hR : ixD R (.int 0) = some (.str x)) (hx : kdGet rules (.str x) = some (.fn f)) (hf : tb.lookup f = some (4, gr)) (hr : l.any St.isCla = false → RunsTo gr R Ks m r l) : RunsTo (gOf 4 5 (standM rules tb)) R Ks m (stand r) l := fun w => by
  have e1 := in_cla l g.2
  let ρ : Rho := [.val R, .val Ks, .val (stL l), .val m, .free]
  let ρ1 : Rho := [.val R, .val Ks, .val (stL l), .val m, .val (.fn f)]
  have h1 : mBinT inD (ret (St.d .cla)) (getS 2) ρ w = some (.ok (l.any St.isCla) ρ w) := by simp [ρ, mBinT, bnd, ret, getS, asB, e1]
  have run : ∃ ρ', standM rules tb ρ w = some (.ok (.rt (stand r l).d) ρ' w) := by
    unfold standM stand
    by_cases c : l.any St.isCla = true
    · rw [if_pos c]
      rw [c] at h1
      exact ⟨ρ, seq_if_yes h1 rfl⟩
    · rw [if_neg c]
      rw [Bool.not_eq_true] at c
      rw [c] at h1
      rw [seq_if_no h1]
      have h2 : mSet 4 (bnd (mBin ixD (getS 0) (ret (.int 0))) fun d => lft (kdGet rules d)) ρ w = some (.ok .nx ρ1 w) := by simp [ρ, ρ1, mSet, setS, mBin, bnd, getS, ret, lft, hR, hx]
      rw [seq_nx h2]
      refine ⟨ρ1, ret_ok ?_⟩
      have h3 : mCons (getS 0) (mCons (getS 1) (mCons (getS 2) (mCons (getS 3) mNil))) ρ1 w = some (.ok [R, Ks, stL l, m] ρ1 w) := rfl
      show (match tb.lookup f with
        | some (k, g) => bnd (mCons (getS 0) (mCons (getS 1) (mCons (getS 2) (mCons (getS 3) mNil)))) (kCallV k g) ρ1 w
        | none => none) = _
      rw [hf]
      dsimp only
      rw [bnd_ok h3]
      show (match gr [R, Ks, stL l, m] w with
        | some (.ok d w') => some (Rs.ok d ρ1 w')
        | _ => none) = _
      rw [hr c w]
  obtain ⟨ρ', run⟩ := run
  show (match standM rules tb ρ w with
    | some (.ok .nx _ w') => some (Fr.ok .non w')
    | some (.ok (.rt d) _ w') => some (.ok d w')
    | some (.exc x _ w') => some (.exc x w')
    | _ => none) = _
  rw [run]
end DL
set_option Elab.async false
set_option linter.all false
set_option maxRecDepth 100000
set_option maxHeartbeats 4000001
/-! DLXB: values and standings drawn. -/
namespace DL
open PySem PyProof.Rows PySem.Spec L2 RZ StX
/-- from any right source a result that suits, and a right source -/
def Gives (sa ca : Addr) (g : Fn1) (args : List D) (P : D → Prop) : Prop := ∀ s, Sok sa ca s → ∃ d s', Sok sa ca s' ∧ P d ∧ g args (some s) = some (.ok d (some s'))
def PickOk (sa ca : Addr) (g : Fn1) : Prop := ∀ m : Int, m < 1073741824 → Gives sa ca g [.raw (.ref sa), .int m] fun d => ∃ k : Nat, d = .int (k : Nat) ∧ (k : Int) < max 1 m
theorem pick_ok (sa ca : Addr) : PickOk sa ca (gOf 2 6 pickM) := fun m hm s hs => by
  obtain ⟨k, s', h1, h2, h3⟩ := pick_spec hs hm
  exact ⟨_, s', h1, ⟨k, rfl, h2⟩, h3⟩
theorem call1 {g : Fn1} {m1 : M D} {ρ ρ1 : Rho} {w w1 w2 : Wo} {a d : D} (h : m1 ρ w = some (.ok a ρ1 w1)) (e : g [a] w1 = some (.ok d w2)) : mCall 1 g (mCons m1 mNil) ρ w = some (.ok d ρ1 w2) := by
  unfold mCall
  rw [bnd_ok (cons_ok h rfl)]
  show (match g [a] w1 with
    | some (.ok d w') => some (Rs.ok d ρ1 w')
    | some (.exc x w') => some (.exc x ρ1 w')
    | none => none) = _
  rw [e]
theorem call2 {g : Fn1} {m1 m2 : M D} {ρ ρ1 ρ2 : Rho} {w w1 w2 w3 : Wo} {a b d : D} (h : m1 ρ w = some (.ok a ρ1 w1)) (h2 : m2 ρ1 w1 = some (.ok b ρ2 w2)) (e : g [a, b] w2 = some (.ok d w3)) : mCall 2 g (mCons m1 (mCons m2 mNil)) ρ w = some (.ok d ρ2 w3) := by
  unfold mCall
  rw [bnd_ok (cons_ok h (cons_ok h2 rfl))]
  show (match g [a, b] w2 with
    | some (.ok d w') => some (Rs.ok d ρ2 w')
    | some (.exc x w') => some (.exc x ρ2 w')
    | none => none) = _
  rw [e]
theorem set_ok {i : Nat} {m : M D} {ρ ρ1 : Rho} {w w1 : Wo} {d : D} (h : m ρ w = some (.ok d ρ1 w1)) : mSet i m ρ w = some (.ok .nx (ρ1.set i (.val d)) w1) := by
  unfold mSet
  rw [bnd_ok h]
  rfl
theorem bin_ok {f : D → D → Option D} {m1 m2 : M D} {ρ ρ1 ρ2 : Rho} {w w1 w2 : Wo} {a b d : D} (h : m1 ρ w = some (.ok a ρ1 w1)) (h2 : m2 ρ1 w1 = some (.ok b ρ2 w2)) (e : f a b = some d) : mBin f m1 m2 ρ w = some (.ok d ρ2 w2) := by
  unfold mBin
  rw [bnd_ok h, bnd_ok h2]
  unfold lft
  rw [e]
  rfl
theorem gOf_rt {k nn : Nat} {m : M Fl} {ds : List D} {ρ' : Rho} {w w' : Wo} {d : D} (hk : ds.length = k) (h : m (ds.map .val ++ List.replicate (nn - k) .free) w = some (.ok (.rt d) ρ' w')) : gOf k nn m ds w = some (.ok d w') := by
  unfold gOf
  rw [if_pos hk, h]
def drawVM (cv cp : Fn1) : M Fl := (mSeq (mSet 2 (mCall 1 cv (mCons (getS 1) mNil))) (mRet (mBin ixD (getS 2) (mCall 2 cp (mCons (getS 0) (mCons (bnd (mCons (getS 2) mNil) fun ds => lft (lenD ds)) mNil))))))
def ValsOk (cv : Fn1) (t : Ty) : Prop := ∀ w, cv [t.d] w = some (.ok (.lst t.vals) w)
theorem drawV_spec {sa ca : Addr} {cv cp : Fn1} (hp : PickOk sa ca cp) {t : Ty} (ht : t.small) (hv : ValsOk cv t) : Gives sa ca (gOf 2 3 (drawVM cv cp)) [.raw (.ref sa), t.d] fun d => d ∈ t.vals := fun s hs => by
  have hl := t.vals_len ht
  have hm := t.many_le ht
  obtain ⟨d, s', k1, ⟨k, ed, hk⟩, e⟩ := hp (t.vals.length : Nat) (by omega) s hs
  subst ed
  have lk : k < t.vals.length := by omega
  have hx : t.vals[k]? = some t.vals[k] := List.getElem?_eq_getElem lk
  let ρ : Rho := [.val (.raw (.ref sa)), .val t.d, .val (.lst t.vals)]
  refine ⟨t.vals[k], s', k1, List.getElem_mem lk, gOf_rt (ρ' := ρ) rfl ?_⟩
  have h1 : mSet 2 (mCall 1 cv (mCons (getS 1) mNil)) [.val (.raw (.ref sa)), .val t.d, .free] (some s) = some (.ok .nx ρ (some s)) := set_ok (call1 (ρ1 := [.val (.raw (.ref sa)), .val t.d, .free]) rfl (hv _))
  show drawVM cv cp [.val (.raw (.ref sa)), .val t.d, .free] (some s) = _
  unfold drawVM
  rw [seq_nx h1]
  refine ret_ok (bin_ok (ρ1 := ρ) (a := .lst t.vals) rfl (call2 (ρ1 := ρ) (ρ2 := ρ) (a := .raw (.ref sa)) (b := .int (t.vals.length : Nat)) rfl rfl e) ?_)
  show atI t.vals (k : Nat) = some t.vals[k]
  exact atI_nat hx
/-- a standing of a type: its value is one of the type's -/
def StOk (t : Ty) (s : St) : Prop := ∀ d, s = .val d → d ∈ t.vals
mutual
theorem str_dat (n : Nat) : ∀ ws : List Str, ∀ d ∈ ws.map D.str, dat n d = true
  | [], d, h => by cases h
  | w :: ws, d, h => by
    rcases List.mem_cons.mp
          h with e | e
    · rw [e]; simp [dat]
    · exact str_dat n ws d e
end
theorem Ty.dat : ∀ (t : Ty) (d : D), d ∈ t.vals → DL.dat (t.deep + 1) d = true
  | .lot ws, d, h => str_dat _ ws d h
  | .cnt n, d, h => by
    unfold Ty.vals rgs at h
    obtain ⟨i, _, e⟩ := List.mem_map.mp h
    rw [← e]
    simp [DL.dat]
  | .pair a b, d, h => by
    unfold Ty.vals at h
    obtain ⟨x, hx, h⟩ := List.mem_flatMap.mp h
    obtain ⟨y, hy, e⟩ := List.mem_map.mp h
    rw [← e]
    have h1 := dat_to (a.dat x hx) (show a.deep + 1 ≤ max a.deep b.deep + 1 by omega)
    have h2 := dat_to (b.dat y hy) (show b.deep + 1 ≤ max a.deep b.deep + 1 by omega)
    show DL.dat ((max a.deep b.deep + 1) + 1) (.tup [x, y]) = true
    simp [DL.dat, dats, h1, h2]
theorem StOk.ok {t : Ty} {s : St} (h : StOk t s) (hd : t.deep ≤ 40) : s.ok := by
  cases s with
  | val d => exact dat_to (t.dat d (h d rfl)) (by omega)
  | _ => exact trivial
def drawSM (cp cd : Fn1) : M Fl := (mSeq (mSet 2 (mCall 2 cp (mCons (getS 0) (mCons (ret (.int 9)) mNil)))) (mSeq (mIte (mBinT gtD (getS 2) (ret (.int 3))) (mRet (mTup (mCons (ret (.str "value")) (mCons (mCall 2 cd (mCons (getS 0) (mCons (getS 1) mNil))) mNil)))) (ret .nx)) (mRet (mBin ixD (mLst (mCons (mTup (mCons (ret (.str "unknown")) mNil)) (mCons (mTup (mCons (ret (.str "absent")) mNil)) (mCons (mTup (mCons (ret (.str "there")) mNil)) (mCons (mIte (mBinT eqD (mCall 2 cp (mCons (getS 0) (mCons (ret (.int 3)) mNil))) (ret (.int 0))) (mTup (mCons (ret (.str "clash")) mNil)) (mTup (mCons (ret (.str "there")) mNil))) mNil))))) (getS 2)))))
theorem eq_int (i j : Int) : eqD (.int i) (.int j) = some (.bl (i == j)) := by
  simp [eqD, dat, deq]
theorem drawS_spec {sa ca : Addr} {cp cd : Fn1} (hp : PickOk sa ca cp) {t : Ty} (hd : Gives sa ca cd [.raw (.ref sa), t.d] fun d => d ∈ t.vals) : Gives sa ca (gOf 2 3 (drawSM cp cd)) [.raw (.ref sa), t.d] fun d => ∃ x : St, d = x.d ∧ StOk t x := fun s hs => by
  obtain ⟨d, s1, k1, ⟨k, ed, hk⟩, e⟩ := hp 9 (by decide) s hs
  subst ed
  have lk : (k : Int) < 9 := by omega
  let ρ : Rho := [.val (.raw (.ref sa)), .val t.d, .val (.int (k : Nat))]
  have h1 : mSet 2 (mCall 2 cp (mCons (getS 0) (mCons (ret (.int 9)) mNil))) [.val (.raw (.ref sa)), .val t.d, .free] (some s) = some (.ok .nx ρ (some s1)) := set_ok (call2 (ρ1 := [.val (.raw (.ref sa)), .val t.d, .free]) (ρ2 := [.val (.raw (.ref sa)), .val t.d, .free]) rfl rfl e)
  by_cases h3 : 3 < (k : Int)
  · obtain ⟨v, s2, k2, hv, e2⟩ := hd s1 k1
    refine ⟨_, s2, k2, ⟨.val v, rfl, fun d q => by cases q; exact hv⟩, gOf_rt (ρ' := ρ) rfl ?_⟩
    show drawSM cp cd [.val (.raw (.ref sa)), .val t.d, .free] (some s) = _
    unfold drawSM
    rw [seq_nx h1]
    refine seq_if_yes (ρ' := ρ) (w' := some s1) ?_ ?_
    · simp [ρ, mBinT, bnd, getS, ret, cmpD, asB, h3]
    · unfold mTup
      rw [bnd_ok (cons_ok (rfl : ret (.str "value") ρ (some s1) = some (.ok (.str "value") ρ (some s1))) (cons_ok (call2 (ρ1 := ρ) (ρ2 := ρ) rfl rfl e2) rfl))]
      rfl
  · obtain ⟨d, s2, k2, ⟨j, ej, hj⟩, e2⟩ := hp 3 (by decide) s1 k1
    subst ej
    let last : St := if ((j : Nat) : Int) == 0 then .cla else .thr
    have hm : mIte (mBinT eqD (mCall 2 cp (mCons (getS 0) (mCons (ret (.int 3)) mNil))) (ret (.int 0))) (mTup (mCons (ret (.str "clash")) mNil)) (mTup (mCons (ret (.str "there")) mNil)) ρ (some s1) = some (.ok last.d ρ (some s2)) := by
      have c1 : mBinT eqD (mCall 2 cp (mCons (getS 0) (mCons (ret (.int 3)) mNil))) (ret (.int 0)) ρ (some s1) = some (.ok (((j : Nat) : Int) == 0) ρ (some s2)) := by
        unfold mBinT
        rw [bnd_ok (call2 (ρ1 := ρ) (ρ2 := ρ) (a := .raw (.ref sa)) (b := .int 3) rfl rfl e2)]
        simp [bnd, ret, asB, eq_int]
      unfold mIte
      rw [bnd_ok c1]
      by_cases z : (((j : Nat) : Int) == 0) = true
      · rw [if_pos z]
        show _ = some (Rs.ok (St.d (if ((j : Nat) : Int) == 0 then .cla else .thr)) ρ (some s2))
        rw [if_pos z]
        rfl
      · rw [if_neg z]
        show _ = some (Rs.ok (St.d (if ((j : Nat) : Int) == 0 then .cla else .thr)) ρ (some s2))
        rw [if_neg z]
        rfl
    have lists : mLst (mCons (mTup (mCons (ret (.str "unknown")) mNil)) (mCons (mTup (mCons (ret (.str "absent")) mNil)) (mCons (mTup (mCons (ret (.str "there")) mNil)) (mCons (mIte (mBinT eqD (mCall 2 cp (mCons (getS 0) (mCons (ret (.int 3)) mNil))) (ret (.int 0))) (mTup (mCons (ret (.str "clash")) mNil)) (mTup (mCons (ret (.str "there")) mNil))) mNil)))) ρ (some s1) = some (.ok (.lst [St.d .unk, St.d .abs, St.d .thr, last.d]) ρ (some s2)) := by
      unfold mLst
      rw [bnd_ok (cons_ok (d := St.d .unk) (ρ1 := ρ) (w1 := some s1) rfl (cons_ok (d := St.d .abs) (ρ1 := ρ) (w1 := some s1) rfl (cons_ok (d := St.d .thr) (ρ1 := ρ) (w1 := some s1) rfl (cons_ok hm rfl))))]
      rfl
    have pickSt : ∃ x : St, ixD (.lst [St.d .unk, St.d .abs, St.d .thr, last.d]) (.int (k : Nat)) = some x.d ∧ StOk t x := by
      have lk2 : k < 4 := by omega
      have lok : StOk t last := fun d q => by
        have q : (if ((j : Nat) : Int) == 0 then St.cla else .thr) = .val d := q
        split at q <;> cases q
      match k, lk2 with
      | 0, _ => exact ⟨.unk, atI_nat (j := 0) rfl, fun d q => by cases q⟩
      | 1, _ => exact ⟨.abs, atI_nat (j := 1) rfl, fun d q => by cases q⟩
      | 2, _ => exact ⟨.thr, atI_nat (j := 2) rfl, fun d q => by cases q⟩
      | 3, _ => exact ⟨last, atI_nat (j := 3) rfl, lok⟩
    obtain ⟨x, hx, ox⟩ := pickSt
    refine ⟨x.d, s2, k2, ⟨x, rfl, ox⟩, gOf_rt (ρ' := ρ) rfl ?_⟩
    show drawSM cp cd [.val (.raw (.ref sa)), .val t.d, .free] (some s) = _
    unfold drawSM
    rw [seq_nx h1, seq_if_no (ρ' := ρ) (w' := some s1) (by simp [ρ, mBinT, bnd, getS, ret, cmpD, asB]; omega)]
    exact ret_ok (bin_ok lists (ρ2 := ρ) (b := .int (k : Nat)) rfl hx)
end DL
set_option Elab.async false
set_option linter.all false
set_option maxRecDepth 100000
set_option maxHeartbeats 4000001
/-! DLXC: standings above others; comprehensions that draw. -/
namespace DL
open PySem PyProof.Rows PySem.Spec L2 RZ StX
def aboveM (cp cs cd : Fn1) : M Fl := (mSeq (mIte (mOr (mBinT eqD (getS 2) (mTup (mCons (ret (.str "clash")) mNil))) (mBinT eqD (mCall 2 cp (mCons (getS 0) (mCons (ret (.int 3)) mNil))) (ret (.int 0)))) (mRet (getS 2)) (ret .nx)) (mSeq (mIte (mBinT eqD (getS 2) (mTup (mCons (ret (.str "unknown")) mNil))) (mRet (mCall 2 cs (mCons (getS 0) (mCons (getS 1) mNil)))) (ret .nx)) (mSeq (mIte (mAnd (mBinT eqD (getS 2) (mTup (mCons (ret (.str "there")) mNil))) (mBinT gtD (mCall 2 cp (mCons (getS 0) (mCons (ret (.int 4)) mNil))) (ret (.int 0)))) (mRet (mTup (mCons (ret (.str "value")) (mCons (mCall 2 cd (mCons (getS 0) (mCons (getS 1) mNil))) mNil)))) (ret .nx)) (mRet (mTup (mCons (ret (.str "clash")) mNil))))))
theorem eqSt_run {s t : St} (hs : s.ok) (ht : t.ok) {b : Bool} (hb : deq s.d t.d = b) {m1 m2 : M D} {ρ : Rho} {w : Wo} (h1 : m1 ρ w = some (.ok s.d ρ w)) (h2 : m2 ρ w = some (.ok t.d ρ w)) : mBinT eqD m1 m2 ρ w = some (.ok b ρ w) := by
  unfold mBinT
  rw [bnd_ok h1, bnd_ok h2, eqSt s t hs ht, hb]
  rfl
theorem above_spec {sa ca : Addr} {cp cs cd : Fn1} (hp : PickOk sa ca cp) {t : Ty} (hdeep : t.deep ≤ 40) (hd : Gives sa ca cd [.raw (.ref sa), t.d] fun d => d ∈ t.vals) (hs : Gives sa ca cs [.raw (.ref sa), t.d] fun d => ∃ x : St, d = x.d ∧ StOk t x) {x : St} (hx : StOk t x) :
    Gives sa ca (gOf 3 3 (aboveM cp cs cd)) [.raw (.ref sa), t.d, x.d] fun d => ∃ y : St, d = y.d ∧ StOk t y ∧ x.le y := fun s hsrc => by
  have gx := hx.ok hdeep
  let ρ : Rho := [.val (.raw (.ref sa)), .val t.d, .val x.d]
  have e1 : ∀ w, mBinT eqD (getS 2) (mTup (mCons (ret (.str "clash")) mNil)) ρ w = some (.ok x.isCla ρ w) := fun w => eqSt_run (s := x) (t := .cla) gx trivial (dq_cla x) rfl rfl
  have e2 : ∀ w, mBinT eqD (getS 2) (mTup (mCons (ret (.str "unknown")) mNil)) ρ w = some (.ok x.isUnk ρ w) := fun w => eqSt_run (s := x) (t := .unk) gx trivial (dq_unk x) rfl rfl
  have e3 : ∀ w, mBinT eqD (getS 2) (mTup (mCons (ret (.str "there")) mNil)) ρ w = some (.ok x.isThr ρ w) := fun w => eqSt_run (s := x) (t := .thr) gx trivial (dq_thr x) rfl rfl
  have last : ∀ w, (mTup (mCons (ret (.str "clash")) mNil)) ρ w = some (.ok (St.d .cla) ρ w) := fun w => rfl
  -- the first test
  have first : ∃ (b : Bool) (s1 : Src), Sok sa ca s1 ∧ mOr (mBinT eqD (getS 2) (mTup (mCons (ret (.str "clash")) mNil))) (mBinT eqD (mCall 2 cp (mCons (getS 0) (mCons (ret (.int 3)) mNil))) (ret (.int 0))) ρ (some s) = some (.ok b ρ (some s1)) ∧ (b = false → x.isCla = false) := by
    cases c : x.isCla with
    | true =>
      refine ⟨true, s, hsrc, ?_, fun z => by cases z⟩
      unfold mOr
      rw [bnd_ok (e1 _), c]
      rfl
    | false =>
      obtain ⟨d, s1, k1, ⟨j, ej, _⟩, e⟩ := hp 3 (by decide) s hsrc
      subst ej
      refine ⟨((j : Nat) : Int) == 0, s1, k1, ?_, fun _ => rfl⟩
      unfold mOr
      rw [bnd_ok (e1 _), c]
      show mBinT eqD (mCall 2 cp (mCons (getS 0) (mCons (ret (.int 3)) mNil))) (ret (.int 0)) ρ (some s) = _
      unfold mBinT
      rw [bnd_ok (call2 (ρ1 := ρ) (ρ2 := ρ) (a := .raw (.ref sa)) (b := .int 3) rfl rfl e)]
      simp [bnd, ret, asB, eq_int]
  obtain ⟨b, s1, k1, f1, fb⟩ := first
  cases b with
  | true => exact ⟨x.d, s1, k1, ⟨x, rfl, hx, x.le_refl⟩, gOf_rt (ρ' := ρ) rfl (seq_if_yes f1 rfl)⟩
  | false =>
    have nc := fb rfl
    cases u : x.isUnk with
    | true =>
      obtain ⟨d, s2, k2, ⟨y, ey, hy⟩, e⟩ := hs s1 k1
      subst ey
      have eu := e2 (some s1)
      rw [u] at eu
      refine ⟨y.d, s2, k2, ⟨y, rfl, hy, ?_⟩, gOf_rt (ρ' := ρ) rfl ?_⟩
      · cases x with
        | unk => exact trivial
        | _ => cases u
      · show aboveM cp cs cd ρ (some s) = _
        unfold aboveM
        rw [seq_if_no f1]
        exact seq_if_yes eu (call2 (ρ1 := ρ) (ρ2 := ρ) rfl rfl e)
    | false =>
      have eu := e2 (some s1)
      rw [u] at eu
      cases h : x.isThr with
      | false =>
        have et := e3 (some s1)
        rw [h] at et
        refine ⟨St.d .cla, s1, k1, ⟨.cla, rfl, fun d q => (by cases q), x.le_cla⟩, gOf_rt (ρ' := ρ) rfl ?_⟩
        show aboveM cp cs cd ρ (some s) = _
        unfold aboveM
        have ea : mAnd (mBinT eqD (getS 2) (mTup (mCons (ret (.str "there")) mNil))) (mBinT gtD (mCall 2 cp (mCons (getS 0) (mCons (ret (.int 4)) mNil))) (ret (.int 0))) ρ (some s1) = some (.ok false ρ (some s1)) := by
          unfold mAnd
          rw [bnd_ok et]
          rfl
        rw [seq_if_no f1, seq_if_no eu, seq_if_no ea]
        exact ret_ok (last _)
      | true =>
        have et := e3 (some s1)
        rw [h] at et
        obtain ⟨d, s2, k2, ⟨j, ej, _⟩, e⟩ := hp 4 (by decide) s1 k1
        subst ej
        have ea : mAnd (mBinT eqD (getS 2) (mTup (mCons (ret (.str "there")) mNil))) (mBinT gtD (mCall 2 cp (mCons (getS 0) (mCons (ret (.int 4)) mNil))) (ret (.int 0))) ρ (some s1) = some (.ok (decide (0 < ((j : Nat) : Int))) ρ (some s2)) := by
          unfold mAnd
          rw [bnd_ok et]
          show mBinT gtD (mCall 2 cp (mCons (getS 0) (mCons (ret (.int 4)) mNil))) (ret (.int 0)) ρ (some s1) = _
          unfold mBinT
          rw [bnd_ok (call2 (ρ1 := ρ) (ρ2 := ρ) (a := .raw (.ref sa)) (b := .int 4) rfl rfl e)]
          rfl
        cases g : decide (0 < ((j : Nat) : Int)) with
        | true =>
          rw [g] at ea
          obtain ⟨v, s3, k3, hv, e4⟩ := hd s2 k2
          refine ⟨St.d (.val v), s3, k3, ⟨.val v, rfl, fun d q => by cases q; exact hv, ?_⟩, gOf_rt (ρ' := ρ) rfl ?_⟩
          · cases x with
            | thr => exact .inr (.inr ⟨v, rfl⟩)
            | _ => cases h
          · show aboveM cp cs cd ρ (some s) = _
            unfold aboveM
            rw [seq_if_no f1, seq_if_no eu]
            refine seq_if_yes ea ?_
            unfold mTup
            rw [bnd_ok (cons_ok (rfl : ret (.str "value") ρ (some s2) = some (.ok (.str "value") ρ (some s2))) (cons_ok (call2 (ρ1 := ρ) (ρ2 := ρ) rfl rfl e4) rfl))]
            rfl
        | false =>
          rw [g] at ea
          refine ⟨St.d .cla, s2, k2, ⟨.cla, rfl, fun d q => (by cases q), x.le_cla⟩, gOf_rt (ρ' := ρ) rfl ?_⟩
          show aboveM cp cs cd ρ (some s) = _
          unfold aboveM
          rw [seq_if_no f1, seq_if_no eu, seq_if_no ea]
          exact ret_ok (last _)
/-- comprehensions that draw: each turn from any right source -/
theorem lc_draw {α : Type} {sa ca : Addr} {own : List Nat} {bind : D → Rho → Option Rho} {me : M D} {ρ : Rho} {e : α → D} {P : α → D → Prop} : ∀ (xs : List α), (∀ x ∈ xs, ∀ s, Sok sa ca s → ∃ ρ0 ρ2 y s', bind (e x) (wipeR ρ own) = some ρ0 ∧ me ρ0 (some s) = some (.ok y ρ2 (some s')) ∧ wipeR ρ2 own = wipeR ρ own ∧ P x y ∧ Sok sa ca s') →
    ∀ ρ1 s, wipeR ρ1 own = wipeR ρ own → Sok sa ca s → ∃ ys ρ' s', lcLoop own bind (ret true) me (xs.map e) ρ1 (some s) = some (ys, ρ', some s') ∧ wipeR ρ' own = wipeR ρ own ∧ All2 P xs ys ∧ Sok sa ca s'
  | [], _, ρ1, s, h, hs => ⟨[], ρ1, s, rfl, h, .nil, hs⟩
  | x :: xs, g, ρ1, s, h, hs => by
    obtain ⟨ρ0, ρ2, y, s1, e1, e2, e3, p1, k1⟩ := g x List.mem_cons_self s hs
    obtain ⟨ys, ρ', s2, e4, e5, p2, k2⟩ := lc_draw xs (fun y hy => g y (List.mem_cons_of_mem _ hy)) ρ2 s1 e3 k1
    refine ⟨y :: ys, ρ', s2, ?_, e5, .cons p1 p2, k2⟩
    rw [List.map_cons]
    unfold lcLoop
    rw [h, e1]
    show (match me ρ0 (some s) with
      | some (.ok y ρ2 w2) => (lcLoop own bind (ret true) me (xs.map e) ρ2 w2).map fun (z : List D × Rho × Wo) => (y :: z.1, z.2)
      | _ => none) = _
    rw [e2]
    dsimp only
    rw [e4]
    rfl
theorem mLc_draw {α : Type} {sa ca : Addr} {own : List Nat} {bind : D → Rho → Option Rho} {mi : M (List D)} {me : M D} {ρ : Rho} {s : Src} {e : α → D} {P : α → D → Prop} (xs : List α) (hs : Sok sa ca s) (h0 : mi ρ (some s) = some (.ok (xs.map e) ρ (some s))) (hl : xs.length ≤ 100000)
    (h : ∀ x ∈ xs, ∀ s, Sok sa ca s → ∃ ρ0 ρ2 y s', bind (e x) (wipeR ρ own) = some ρ0 ∧ me ρ0 (some s) = some (.ok y ρ2 (some s')) ∧ wipeR ρ2 own = wipeR ρ own ∧ P x y ∧ Sok sa ca s') :
    ∃ ys s', mLc own mi bind (ret true) me ρ (some s) = some (.ok (.lst ys) (wipeR ρ own) (some s')) ∧ All2 P xs ys ∧ Sok sa ca s' := by
  obtain ⟨ys, ρ', s', e1, e2, p, k⟩ := lc_draw xs h ρ s rfl hs
  refine ⟨ys, s', ?_, p, k⟩
  have g : nLc own mi bind (ret true) me ρ (some s) = some (.ok ys (wipeR ρ own) (some s')) := by
    unfold nLc
    rw [bnd_ok h0]
    rw [if_pos (by rw [List.length_map]; exact hl), e1]
    show some (Rs.ok ys (wipeR ρ' own) (some s')) = _
    rw [e2]
  unfold mLc
  rw [bnd_ok g]
  rfl
end DL
set_option Elab.async false
set_option linter.all false
set_option maxRecDepth 100000
set_option maxHeartbeats 4000001
/-! DLXD: values of ops and tables. -/
namespace DL
open PySem PyProof.Rows PySem.Spec L2 RZ StX
def truthM : M Fl := (mRet (mIte (mVal (getS 0)) (ret (.str "yes")) (ret (.str "no"))))
def truthF : Fn1 := gOf 1 1 truthM
def yn (b : Bool) : D := if b = true then .str "yes" else .str "no"
theorem truth_run (b : Bool) (w : Wo) : truthF [.bl b] w = some (.ok (yn b) w) := by cases b <;> rfl
theorem yn_dat (b : Bool) (n : Nat) : dat n (yn b) = true := by cases b <;> simp [yn, dat]
def joinM : M Fl := (mSeq (mIte (mBinT eqD (getS 0) (ret (.str "and"))) (mRet (mCall 1 truthF (mCons (mAndV (mBin eqD (getS 1) (ret (.str "yes"))) (mBin eqD (getS 2) (ret (.str "yes")))) mNil))) (ret .nx)) (mRet (mCall 1 truthF (mCons (mOrV (mBin eqD (getS 1) (ret (.str "yes"))) (mBin eqD (getS 2) (ret (.str "yes")))) mNil))))
def joinF : Fn1 := gOf 3 3 joinM
def compM (pl : Fn1) : M Fl := (mSeq (mIte (mBinT eqD (getS 0) (ret (.str "same"))) (mRet (mCall 1 truthF (mCons (mBin eqD (getS 2) (getS 3)) mNil))) (ret .nx)) (mRet (mCall 1 truthF (mCons (mBin ltD (mCall 2 pl (mCons (getS 1) (mCons (getS 2) mNil))) (mCall 2 pl (mCons (getS 1) (mCons (getS 3) mNil)))) mNil))))
def opM (co : Fn1) : M Fl := (mSeq (mIte (mBinT eqD (getS 0) (ret (.str "not"))) (mRet (mCall 1 truthF (mCons (mBin eqD (mBin ixD (getS 2) (ret (.int 0))) (ret (.str "no"))) mNil))) (ret .nx)) (mSeq (mIte (mBinT eqD (getS 0) (ret (.str "first"))) (mRet (mBin ixD (mBin ixD (getS 2) (ret (.int 0))) (ret (.int 0)))) (ret .nx)) (mSeq (mIte (mBinT eqD (getS 0) (ret (.str "second"))) (mRet (mBin ixD (mBin ixD (getS 2) (ret (.int 0))) (ret (.int 1)))) (ret .nx)) (mSeq (mAsg (getS 2) (bTup 2 (bCons (bName 3) (bCons (bName 4) bNil)))) (mSeq (mIte (mBinT eqD (getS 0) (ret (.str "pair"))) (mRet (mTup (mCons (getS 3) (mCons (getS 4) mNil)))) (ret .nx)) (mSeq (mIte (mBinT eqD (getS 0) (ret (.str "plus"))) (mRet (mBin modD (mBin addD (getS 3) (getS 4)) (mBin ixD (mBin ixD (getS 1) (ret (.int 0))) (ret (.int 1))))) (ret .nx)) (mSeq (mIte (mBinT inD (getS 0) (mTup (mCons (ret (.str "and")) (mCons (ret (.str "or")) mNil)))) (mRet (mCall 3 joinF (mCons (getS 0) (mCons (getS 3) (mCons (getS 4) mNil))))) (ret .nx)) (mRet (mCall 4 co (mCons (getS 0) (mCons (mBin ixD (getS 1) (ret (.int 0))) (mCons (getS 3) (mCons (getS 4) mNil)))))))))))))
/-- the test at the head of a branch of an op's word -/
theorem word_run {x y : Str} {b : Bool} (h : (x == y) = b) {r : List Slot} {w : Wo} : mBinT eqD (getS 0) (ret (.str y)) (.val (.str x) :: r) w = some (.ok b (.val (.str x) :: r) w) := by
  unfold mBinT
  have g : getS 0 (.val (.str x) :: r) w = some (.ok (.str x) (.val (.str x) :: r) w) := rfl
  rw [bnd_ok g]
  simp [bnd, ret, asB, eq_str, h]
/-- a value is told, and it is data -/
def Tells (v : Fn1) (args : List D) : Prop := ∃ d, dat 50 d = true ∧ ∀ w, v args w = some (.ok d w)
def opF (co : Fn1) : Fn1 := gOf 3 5 (opM co)
theorem op_not (co : Fn1) (Ks : D) (z : Str) : Tells (opF co) [.str "not", Ks, .lst [.str z]] := by
  refine ⟨yn (z == (Str.ofString "no")), yn_dat _ _, fun w => gOf_rt (ρ' := [.val (.str "not"), .val Ks, .val (.lst [.str z]), .free, .free]) rfl ?_⟩
  unfold opM
  refine seq_if_yes (word_run (by decide +kernel)) (call1 (a := .bl (z == (Str.ofString "no"))) ?_ (truth_run _ _))
  simp [mBin, bnd, getS, ret, lft, ixD, at0, eq_str]
theorem op_first (co : Fn1) (Ks a b : D) (ha : dat 50 a = true) : Tells (opF co) [.str "first", Ks, .lst [.tup [a, b]]] := by
  refine ⟨a, ha, fun w => gOf_rt (ρ' := [.val (.str "first"), .val Ks, .val (.lst [.tup [a, b]]), .free, .free]) rfl ?_⟩
  unfold opM
  refine (seq_if_no (word_run (by decide +kernel))).trans (seq_if_yes (word_run (by decide +kernel)) ?_)
  simp [mBin, bnd, getS, ret, lft, ixD, at0]
theorem op_second (co : Fn1) (Ks a b : D) (hb : dat 50 b = true) : Tells (opF co) [.str "second", Ks, .lst [.tup [a, b]]] := by
  refine ⟨b, hb, fun w => gOf_rt (ρ' := [.val (.str "second"), .val Ks, .val (.lst [.tup [a, b]]), .free, .free]) rfl ?_⟩
  unfold opM
  refine (seq_if_no (word_run (by decide +kernel))).trans ((seq_if_no (word_run (by decide +kernel))).trans (seq_if_yes (word_run (by decide +kernel)) ?_))
  simp [mBin, bnd, getS, ret, lft, ixD, at0, at1]
/-- what the words with two values have in common -/
theorem op_two {co : Fn1} {x : Str} {Ks a b : D} (h1 : (x == (Str.ofString "not")) = false) (h2 : (x == (Str.ofString "first")) = false) (h3 : (x == (Str.ofString "second")) = false) {r : Option (Rs Fl)} {w : Wo}
    (h : (mSeq (mIte (mBinT eqD (getS 0) (ret (.str "pair"))) (mRet (mTup (mCons (getS 3) (mCons (getS 4) mNil)))) (ret .nx)) (mSeq (mIte (mBinT eqD (getS 0) (ret (.str "plus"))) (mRet (mBin modD (mBin addD (getS 3) (getS 4)) (mBin ixD (mBin ixD (getS 1) (ret (.int 0))) (ret (.int 1))))) (ret .nx)) (mSeq (mIte (mBinT inD (getS 0) (mTup (mCons (ret (.str "and")) (mCons (ret (.str "or")) mNil)))) (mRet (mCall 3 joinF (mCons (getS 0) (mCons (getS 3) (mCons (getS 4) mNil))))) (ret .nx)) (mRet (mCall 4 co (mCons (getS 0) (mCons (mBin ixD (getS 1) (ret (.int 0))) (mCons (getS 3) (mCons (getS 4) mNil))))))))) [.val (.str x), .val Ks, .val (.lst [a, b]), .val a, .val b] w = r) :
    opM co [.val (.str x), .val Ks, .val (.lst [a, b]), .free, .free] w = r := by
  unfold opM
  refine (seq_if_no (word_run h1)).trans ((seq_if_no (word_run h2)).trans ((seq_if_no (word_run h3)).trans ((seq_nx (ρ' := [.val (.str x), .val Ks, .val (.lst [a, b]), .val a, .val b]) (w' := w) rfl).trans h)))
theorem op_pair (co : Fn1) (Ks a b : D) (ha : dat 49 a = true) (hb : dat 49 b = true) : Tells (opF co) [.str "pair", Ks, .lst [a, b]] := by
  refine ⟨.tup [a, b], by simp [dat, dats, ha, hb], fun w => gOf_rt (ρ' := [.val (.str "pair"), .val Ks, .val (.lst [a, b]), .val a, .val b]) rfl (op_two (by decide +kernel) (by decide +kernel) (by decide +kernel) ?_)⟩
  exact seq_if_yes (word_run (by decide +kernel)) rfl
theorem op_plus (co : Fn1) (ks : List D) (i j n : Int) (hn : 0 < n) : Tells (opF co) [.str "plus", .lst (Ty.d (.cnt n) :: ks), .lst [.int i, .int j]] := by
  refine ⟨.int ((i + j) % n), by simp [dat], fun w => gOf_rt (ρ' := [.val (.str "plus"), .val (.lst (Ty.d (.cnt n) :: ks)), .val (.lst [.int i, .int j]), .val (.int i), .val (.int j)]) rfl (op_two (by decide +kernel) (by decide +kernel) (by decide +kernel) ?_)⟩
  refine (seq_if_no (word_run (by decide +kernel))).trans (seq_if_yes (word_run (by decide +kernel)) ?_)
  simp [mBin, bnd, getS, ret, lft, ixD, addD, at0, Ty.d, at1, modD, intD, hn]
theorem in_two (x : Str) : inD (.str x) (.tup [.str "and", .str "or"]) = some (.bl (((Str.ofString "and") == x) || ((Str.ofString "or") == x))) := by
  simp [inD, dat, dats, memD, deq]
theorem join_run (x y z : Str) (h : ((x == (Str.ofString "and")) = true) ∨ ((x == (Str.ofString "and")) = false)) : ∃ b, ∀ w, joinF [.str x, .str y, .str z] w = some (.ok (yn b) w) := by
  rcases h with h | h
  · refine ⟨(y == (Str.ofString "yes")) && (z == (Str.ofString "yes")), fun w => gOf_rt (ρ' := [.val (.str x), .val (.str y), .val (.str z)]) rfl ?_⟩
    unfold joinM
    refine seq_if_yes (word_run h) (call1 (a := .bl ((y == (Str.ofString "yes")) && (z == (Str.ofString "yes")))) ?_ (truth_run _ _))
    cases e : (y == (Str.ofString "yes")) <;> simp [mAndV, mBin, bnd, getS, ret, lft, eq_str, kBool, e] <;> exact ⟨rfl, rfl⟩
  · refine ⟨(y == (Str.ofString "yes")) || (z == (Str.ofString "yes")), fun w => gOf_rt (ρ' := [.val (.str x), .val (.str y), .val (.str z)]) rfl ?_⟩
    unfold joinM
    refine (seq_if_no (word_run h)).trans (ret_ok (call1 (a := .bl ((y == (Str.ofString "yes")) || (z == (Str.ofString "yes")))) ?_ (truth_run _ _)))
    cases e : (y == (Str.ofString "yes")) <;> simp [mOrV, mBin, bnd, getS, ret, lft, eq_str, kBool, e] <;> exact ⟨rfl, rfl⟩
theorem op_join (co : Fn1) (Ks : D) (x y z : Str) (h0 : (x == (Str.ofString "and")) = true ∨ (x == (Str.ofString "and")) = false) (h1 : (x == (Str.ofString "not")) = false) (h2 : (x == (Str.ofString "first")) = false) (h3 : (x == (Str.ofString "second")) = false) (h4 : (x == (Str.ofString "pair")) = false) (h5 : (x == (Str.ofString "plus")) = false)
    (h6 : ((Str.ofString "and") == x || (Str.ofString "or") == x) = true) : Tells (opF co) [.str x, Ks, .lst [.str y, .str z]] := by
  obtain ⟨b, hb⟩ := join_run x y z h0
  refine ⟨yn b, yn_dat _ _, fun w => gOf_rt (ρ' := [.val (.str x), .val Ks, .val (.lst [.str y, .str z]), .val (.str y), .val (.str z)]) rfl (op_two h1 h2 h3 ?_)⟩
  refine (seq_if_no (word_run h4)).trans ((seq_if_no (word_run h5)).trans (seq_if_yes (ρ' := [.val (.str x), .val Ks, .val (.lst [.str y, .str z]), .val (.str y), .val (.str z)]) (w' := w) ?_ ?_))
  · have e := in_two x
    rw [h6] at e
    simp [mBinT, bnd, getS, ret, mTup, mCons, mNil, asB, e]
  · have a : mCons (getS 0) (mCons (getS 3) (mCons (getS 4) mNil)) [.val (.str x), .val Ks, .val (.lst [.str y, .str z]), .val (.str y), .val (.str z)] w = some (.ok [.str x, .str y, .str z] [.val (.str x), .val Ks, .val (.lst [.str y, .str z]), .val (.str y), .val (.str z)] w) := rfl
    unfold mCall
    rw [bnd_ok a]
    show (match joinF [.str x, .str y, .str z] w with
      | some (.ok d w') => some (Rs.ok d _ w')
      | some (.exc x w') => some (.exc x _ w')
      | none => none) = _
    rw [hb w]
/-! ### places -/
def placeM (pl c : Fn1) : M Fl := (mSeq (mIte (mBinT eqD (mBin ixD (getS 0) (ret (.int 0))) (ret (.str "pair"))) (mRet (mBin addD (mBin mulD (mCall 2 pl (mCons (mBin ixD (getS 0) (ret (.int 1))) (mCons (mBin ixD (getS 1) (ret (.int 0))) mNil))) (mCall 1 c (mCons (mBin ixD (getS 0) (ret (.int 2))) mNil))) (mCall 2 pl (mCons (mBin ixD (getS 0) (ret (.int 2))) (mCons (mBin ixD (getS 1) (ret (.int 1))) mNil))))) (ret .nx)) (mSeq (mIte (mBinT eqD (mBin ixD (getS 0) (ret (.int 0))) (ret (.str "lot"))) (mRet (mTM tixD (mBin ixD (getS 0) (ret (.int 1))) (mCons (getS 1) mNil))) (ret .nx)) (mRet (getS 1))))
theorem firstAt_mem {z : Str} : ∀ {ws : List Str}, z ∈ ws → ∃ j, firstAt z ws = some j ∧ j < ws.length
  | [], h => by cases h
  | w :: ws, h => by
    unfold firstAt
    by_cases e : w = z
    · rw [if_pos e]
      exact ⟨0, rfl, by simp⟩
    · rw [if_neg e]
      rcases List.mem_cons.mp
            h with q | q
      · exact absurd q.symm e
      · obtain ⟨j, h1, h2⟩ := firstAt_mem q
        rw [h1]
        exact ⟨j + 1, rfl, by simp; omega⟩
theorem place_spec {pl c : Nat → Fn1} (hp : ∀ n, pl (n + 1) = gOf 2 2 (placeM (pl n) (c n))) (hc : ∀ n, c (n + 1) = gOf 1 1 (countM (c n))) : ∀ (t : Ty), t.small → ∀ n, t.deep + 1 < n → ∀ d ∈ t.vals, ∃ p : Nat, (p : Int) < t.many ∧ ∀ w, pl n [t.d, d] w = some (.ok (.int (p : Nat)) w)
  | _, _, 0, h, _, _ => absurd h (Nat.not_lt_zero _)
  | .lot ws, hs, n + 1, h, d, hd => by
    unfold Ty.vals at hd
    obtain ⟨z, hz, e⟩ := List.mem_map.mp hd
    subst e
    obtain ⟨j, h1, h2⟩ := firstAt_mem hz
    have t2 : tixD (.tup (ws.map .str)) [.str z] = some (.int (j : Nat)) := by
      show (dstrs (ws.map .str)).bind (fun ys => (firstAt z ys).map fun j => D.int (j : Nat)) = _
      rw [dstrs_map]
      show (firstAt z ws).map (fun j => D.int (j : Nat)) = _
      rw [h1]
      rfl
    refine ⟨j, by show ((j : Nat) : Int) < (ws.length : Nat); omega, fun w => ?_⟩
    rw [hp]
    simp [gOf, placeM, mSeq, mIte, mRet, mBinT, mBin, bnd, getS, ret, ixD, lft, Ty.d, at0, at1, eq_str, asB, mCons, mNil, mTM, s1, s5, t2]
  | .cnt k, hs, n + 1, h, d, hd => by
    unfold Ty.vals rgs at hd
    obtain ⟨i, hi, e⟩ := List.mem_map.mp hd
    subst e
    rw [List.mem_range] at hi
    have h1 := hs.1
    refine ⟨i, by show (i : Int) < k; omega, fun w => ?_⟩
    rw [hp]
    simp [gOf, placeM, mSeq, mIte, mRet, mBinT, mBin, bnd, getS, ret, ixD, lft, Ty.d, at0, at1, eq_str, asB, mCons, mNil, s2, s3]
  | .pair a b, hs, n + 1, h, d, hd => by
    have hdp : max a.deep b.deep + 1 + 1 < n + 1 := h
    unfold Ty.vals at hd
    obtain ⟨x, hx, hd⟩ := List.mem_flatMap.mp hd
    obtain ⟨y, hy, e⟩ := List.mem_map.mp hd
    subst e
    obtain ⟨p1, l1, e1⟩ := place_spec hp hc a hs.1 n (by omega) x hx
    obtain ⟨p2, l2, e2⟩ := place_spec hp hc b hs.2.1 n (by omega) y hy
    have mb := b.many_le hs.2.1
    have ec := fun w => count_spec hc w b hs.2.1 n (by omega)
    obtain ⟨nb, hnb⟩ : ∃ nb : Nat, b.many = (nb : Nat) := ⟨b.many.toNat, (Int.toNat_of_nonneg (by omega)).symm⟩
    have ib : inB b.many = true := inB_small (by omega)
    refine ⟨p1 * nb + p2, ?_, fun w => ?_⟩
    · show (((p1 * nb + p2 : Nat)) : Int) < a.many * b.many
      rw [hnb] at l2 ⊢
      have q1 : ((p1 : Int) + 1) * (nb : Nat) ≤ a.many * (nb : Nat) := Int.mul_le_mul_of_nonneg_right (by omega) (by omega)
      rw [Int.add_mul, Int.one_mul] at q1
      have q2 : ((p1 * nb + p2 : Nat) : Int) = (p1 : Int) * (nb : Nat) + p2 := by rw [Int.natCast_add, Int.natCast_mul]
      rw [q2]
      omega
    · have q : (p1 : Int) * b.many + p2 = ((p1 * nb + p2 : Nat) : Int) := by rw [hnb, Int.natCast_add, Int.natCast_mul]
      rw [hp, ← q]
      simp [gOf, placeM, mSeq, mIte, mRet, mBinT, mBin, bnd, getS, ret, ixD, lft, Ty.d, at0, at1, at2, eq_str, asB, mCons, mNil, mCall, s4, e1, e2, ec, mulD, addD, ib]
end DL
set_option Elab.async false
set_option linter.all false
set_option maxRecDepth 100000
set_option maxHeartbeats 4000001
/-! DLXE: same and less, tables, value_by. -/
namespace DL
open PySem PyProof.Rows PySem.Spec L2 RZ StX
theorem eq_dat {a b : D} (ha : dat 60 a = true) (hb : dat 60 b = true) : eqD a b = some (.bl (deq a b)) := by
  unfold eqD
  rw [ha, hb]
  rfl
/-- where a value stands -/
def PlaceOk (pl : Fn1) (t : Ty) : Prop := ∀ d ∈ t.vals, ∃ p : Nat, (p : Int) < t.many ∧ ∀ w, pl [t.d, d] w = some (.ok (.int (p : Nat)) w)
def compF (pl : Fn1) : Fn1 := gOf 4 4 (compM pl)
theorem comp_same (pl : Fn1) (k a b : D) (ha : dat 60 a = true) (hb : dat 60 b = true) (w : Wo) : compF pl [.str "same", k, a, b] w = some (.ok (yn (deq a b)) w) := by
  refine gOf_rt (ρ' := [.val (.str "same"), .val k, .val a, .val b]) rfl ?_
  unfold compM
  refine seq_if_yes (word_run (by decide +kernel)) (call1 (a := .bl (deq a b)) (ρ1 := [.val (.str "same"), .val k, .val a, .val b]) ?_ (truth_run _ _))
  exact bin_ok (a := a) (b := b) rfl rfl (eq_dat ha hb)
theorem comp_less {pl : Fn1} {t : Ty} (hp : PlaceOk pl t) {a b : D} (ha : a ∈ t.vals) (hb : b ∈ t.vals) : ∃ z, ∀ w, compF pl [.str "less", t.d, a, b] w = some (.ok (yn z) w) := by
  obtain ⟨p, _, e1⟩ := hp a ha
  obtain ⟨q, _, e2⟩ := hp b hb
  refine ⟨decide ((p : Int) < (q : Int)), fun w => gOf_rt (ρ' := [.val (.str "less"), .val t.d, .val a, .val b]) rfl ?_⟩
  unfold compM
  let ρ : Rho := [.val (.str "less"), .val t.d, .val a, .val b]
  refine (seq_if_no (word_run (by decide +kernel))).trans (ret_ok (call1 (a := .bl (decide ((p : Int) < (q : Int)))) (ρ1 := ρ) ?_ (truth_run _ _)))
  exact bin_ok (ρ1 := ρ) (a := .int (p : Nat)) (b := .int (q : Nat)) (call2 (ρ1 := ρ) (ρ2 := ρ) rfl rfl (e1 w)) (call2 (ρ1 := ρ) (ρ2 := ρ) rfl rfl (e2 w)) rfl
theorem op_comp {co : Fn1} {x : Str} {k a b : D} {ks : List D} (h1 : (x == (Str.ofString "not")) = false) (h2 : (x == (Str.ofString "first")) = false) (h3 : (x == (Str.ofString "second")) = false) (h4 : (x == (Str.ofString "pair")) = false) (h5 : (x == (Str.ofString "plus")) = false) (h6 : ((Str.ofString "and") == x || (Str.ofString "or") == x) = false)
    (h : ∃ z, ∀ w, co [.str x, k, a, b] w = some (.ok (yn z) w)) : Tells (opF co) [.str x, .lst (k :: ks), .lst [a, b]] := by
  obtain ⟨z, hz⟩ := h
  refine ⟨yn z, yn_dat _ _, fun w => ?_⟩
  let ρ : Rho := [.val (.str x), .val (.lst (k :: ks)), .val (.lst [a, b]), .val a, .val b]
  refine gOf_rt (ρ' := ρ) rfl (op_two h1 h2 h3 ?_)
  refine (seq_if_no (word_run h4)).trans ((seq_if_no (word_run h5)).trans ((seq_if_no (ρ' := ρ) (w' := w) ?_).trans (ret_ok ?_)))
  · have e := in_two x
    rw [h6] at e
    simp [mBinT, bnd, getS, ret, mTup, mCons, mNil, asB, e, ρ]
  · have b1 : mBin ixD (getS 1) (ret (.int 0)) ρ w = some (.ok k ρ w) := bin_ok (ρ1 := ρ) (a := .lst (k :: ks)) (b := .int 0) rfl rfl (at0 _ _)
    have a1 : mCons (getS 0) (mCons (mBin ixD (getS 1) (ret (.int 0))) (mCons (getS 3) (mCons (getS 4) mNil))) ρ w = some (.ok [.str x, k, a, b] ρ w) := cons_ok (ρ1 := ρ) rfl (cons_ok b1 rfl)
    unfold mCall
    rw [bnd_ok a1]
    show (match co [.str x, k, a, b] w with
      | some (.ok d w') => some (Rs.ok d ρ w')
      | some (.exc x w') => some (.exc x ρ w')
      | none => none) = _
    rw [hz w]
/-! ### tables -/
def CountOk (c : Fn1) (t : Ty) : Prop := ∀ w, c [t.d] w = some (.ok (.int t.many) w)
def prodT : List Ty → Int
  | [] => 1
  | t :: ts => t.many * prodT ts
theorem prodT_pos : ∀ ts : List Ty, (∀ t ∈ ts, t.small) → 1 ≤ prodT ts
  | [], _ => by decide
  | t :: ts, h => by
    have h1 := (t.many_le (h t List.mem_cons_self)).1
    have h2 := prodT_pos ts fun u hu => h u (List.mem_cons_of_mem _ hu)
    have := Int.mul_le_mul h1 h2 (by decide) (by omega)
    simpa [prodT] using this
def tabB (pl c : Fn1) : M Fl := mSet 3 (mBin addD (mBin mulD (getS 3) (mCall 1 c (mCons (getS 4) mNil))) (mCall 2 pl (mCons (getS 4) (mCons (getS 5) mNil))))
theorem tab_loop {pl c : Fn1} (r ks vs : Slot) : ∀ (ts : List Ty) (ds : List D), All2 (fun (t : Ty) d => t.small ∧ PlaceOk pl t ∧ CountOk c t ∧ d ∈ t.vals) ts ds → ∀ (p : Nat), ∃ (q : Nat), (q : Int) < ((p : Int) + 1) * prodT ts ∧ ∀ (w : Wo) (x y : Slot), ∃ (x' y' : Slot),
    forL (bTup 2 (bCons (bName 4) (bCons (bName 5) bNil))) (tabB pl c) (((ts.map Ty.d).zip ds).map fun (p : D × D) => D.pr p.1 p.2) [r, ks, vs, .val (.int (p : Nat)), x, y] w = some (.ok .nx [r, ks, vs, .val (.int (q : Nat)), x', y'] w)
  | _, _, .nil, p => ⟨p, by simp [prodT]; omega, fun w x y => ⟨x, y, rfl⟩⟩
  | _, _, .cons (a := t) (b := d) (as := ts) (bs := ds) ⟨hs, hp, hc, hd⟩ rest, p => by
    obtain ⟨k, lk, ek⟩ := hp d hd
    have hm := t.many_le hs
    obtain ⟨m, hmn⟩ : ∃ m : Nat, t.many = (m : Nat) := ⟨t.many.toNat, (Int.toNat_of_nonneg (by omega)).symm⟩
    obtain ⟨q, lq, eq⟩ := tab_loop r ks vs ts ds rest (p * m + k)
    have ib : inB t.many = true := inB_small (by omega)
    refine ⟨q, ?_, fun w x y => ?_⟩
    · have h1 : (((p * m + k : Nat)) : Int) + 1 ≤ ((p : Int) + 1) * t.many := by
        rw [hmn] at lk ⊢
        rw [Int.natCast_add, Int.natCast_mul, Int.add_mul, Int.one_mul]
        omega
      have pos : 0 ≤ prodT ts := by
        have all : ∀ {ts : List Ty} {ds : List D}, All2 (fun (t : Ty) d => t.small ∧ PlaceOk pl t ∧ CountOk c t ∧ d ∈ t.vals) ts ds → ∀ u ∈ ts, u.small := by
          intro ts ds h
          induction h with
          | nil => intro u hu; cases hu
          | cons h _ ih =>
            intro u hu
            rcases List.mem_cons.mp hu with e | e
            · rw [e]; exact h.1
            · exact ih u e
        have := prodT_pos ts (all rest)
        omega
      have h2 := Int.mul_le_mul_of_nonneg_right h1 pos
      show (q : Int) < ((p : Int) + 1) * (t.many * prodT ts)
      rw [← Int.mul_assoc]
      omega
    · obtain ⟨x', y', eq⟩ := eq w (.val t.d) (.val d)
      refine ⟨x', y', ?_⟩
      let ρ : Rho := [r, ks, vs, .val (.int (p : Nat)), .val t.d, .val d]
      have e1 : tabB pl c ρ w = some (.ok .nx [r, ks, vs, .val (.int ((p * m + k : Nat) : Int)), .val t.d, .val d] w) := by
        have g1 : mBin mulD (getS 3) (mCall 1 c (mCons (getS 4) mNil)) ρ w = some (.ok (.int ((p : Int) * t.many)) ρ w) := bin_ok (ρ1 := ρ) (a := .int (p : Nat)) (b := .int t.many) rfl (call1 (ρ1 := ρ) rfl (hc w)) (by simp [mulD, ib])
        have g2 : mBin addD (mBin mulD (getS 3) (mCall 1 c (mCons (getS 4) mNil))) (mCall 2 pl (mCons (getS 4) (mCons (getS 5) mNil))) ρ w = some (.ok (.int ((p * m + k : Nat) : Int)) ρ w) := bin_ok g1 (call2 (ρ1 := ρ) (ρ2 := ρ) rfl rfl (ek w)) (by rw [hmn]; simp [addD])
        exact set_ok g2
      show forL (bTup 2 (bCons (bName 4) (bCons (bName 5) bNil))) (tabB pl c) (D.pr t.d d :: ((ts.map Ty.d).zip ds).map fun (p : D × D) => D.pr p.1 p.2) [r, ks, vs, .val (.int (p : Nat)), x, y] w = _
      unfold forL
      show (match tabB pl c ρ w with
        | some (.ok .nx ρ1 w1) => forL (bTup 2 (bCons (bName 4) (bCons (bName 5) bNil))) (tabB pl c) (((ts.map Ty.d).zip ds).map fun (p : D × D) => D.pr p.1 p.2) ρ1 w1
        | some (.ok .ct ρ1 w1) => forL (bTup 2 (bCons (bName 4) (bCons (bName 5) bNil))) (tabB pl c) (((ts.map Ty.d).zip ds).map fun (p : D × D) => D.pr p.1 p.2) ρ1 w1
        | some (.ok .br ρ1 w1) => some (.ok .nx ρ1 w1)
        | some (.ok (.rt d') ρ1 w1) => some (.ok (.rt d') ρ1 w1)
        | some (.exc x ρ1 w1) => some (.exc x ρ1 w1)
        | none => none) = _
      rw [e1]
      exact eq
def tabM (pl c : Fn1) : M Fl := (mSeq (mSet 3 (ret (.int 0))) (mSeq (mFor (bnd (mCons (getS 1) (mCons (getS 2) mNil)) fun ds => lft (zipD ds)) (bTup 2 (bCons (bName 4) (bCons (bName 5) bNil))) (tabB pl c)) (mRet (mBin ixD (getS 0) (getS 3)))))
theorem tab_tells {pl c : Fn1} {ts : List Ty} {ds rs : List D} (h : All2 (fun (t : Ty) d => t.small ∧ PlaceOk pl t ∧ CountOk c t ∧ d ∈ t.vals) ts ds) (hl : (rs.length : Int) = prodT ts) (hr : ∀ d ∈ rs, dat 50 d = true) : Tells (gOf 3 6 (tabM pl c)) [.tup rs, .lst (ts.map Ty.d), .lst ds] := by
  obtain ⟨q, lq, run⟩ := tab_loop (.val (.tup rs)) (.val (.lst (ts.map Ty.d))) (.val (.lst ds)) ts ds h 0
  have lq' : q < rs.length := by
    have e0 : ((0 : Nat) : Int) + 1 = 1 := rfl
    rw [e0, Int.one_mul] at lq
    omega
  have hx : rs[q]? = some rs[q] := List.getElem?_eq_getElem lq'
  refine ⟨rs[q], hr _ (List.getElem_mem lq'), fun w => ?_⟩
  obtain ⟨x', y', eq⟩ := run w .free .free
  · refine gOf_rt (ρ' := [.val (.tup rs), .val (.lst (ts.map Ty.d)), .val (.lst ds), .val (.int (q : Nat)), x', y']) rfl ?_
    unfold tabM
    let ρ : Rho := [.val (.tup rs), .val (.lst (ts.map Ty.d)), .val (.lst ds), .val (.int ((0 : Nat) : Int)), .free, .free]
    have e1 : mSet 3 (ret (.int 0)) [.val (.tup rs), .val (.lst (ts.map Ty.d)), .val (.lst ds), .free, .free, .free] w = some (.ok .nx ρ w) := rfl
    have e2 : (bnd (mCons (getS 1) (mCons (getS 2) mNil)) fun ds => lft (zipD ds)) ρ w = some (.ok (((ts.map Ty.d).zip ds).map fun (p : D × D) => D.pr p.1 p.2) ρ w) := rfl
    have e3 : mFor (bnd (mCons (getS 1) (mCons (getS 2) mNil)) fun ds => lft (zipD ds)) (bTup 2 (bCons (bName 4) (bCons (bName 5) bNil))) (tabB pl c) ρ w = some (.ok .nx [.val (.tup rs), .val (.lst (ts.map Ty.d)), .val (.lst ds), .val (.int (q : Nat)), x', y'] w) := by
      unfold mFor
      rw [bnd_ok e2]
      exact eq
    refine (seq_nx e1).trans ((seq_nx e3).trans (ret_ok (bin_ok (a := .tup rs) (b := .int (q : Nat)) (ρ1 := [.val (.tup rs), .val (.lst (ts.map Ty.d)), .val (.lst ds), .val (.int (q : Nat)), x', y']) (ρ2 := [.val (.tup rs), .val (.lst (ts.map Ty.d)), .val (.lst ds), .val (.int (q : Nat)), x', y']) rfl rfl ?_)))
    show atI rs (q : Nat) = some rs[q]
    exact atI_nat hx
end DL
set_option Elab.async false
set_option linter.all false
set_option maxRecDepth 100000
set_option maxHeartbeats 4000001
/-! DLXF: value_by; types drawn; what is drawn as a right side. -/
namespace DL
open PySem PyProof.Rows PySem.Spec L2 RZ StX
def valueM (co ct : Fn1) : M Fl := (mSeq (mIte (mBinT eqD (mBin ixD (getS 0) (ret (.int 0))) (ret (.str "op"))) (mRet (mCall 3 co (mCons (mBin ixD (getS 0) (ret (.int 1))) (mCons (getS 1) (mCons (getS 2) mNil))))) (ret .nx)) (mRet (mCall 3 ct (mCons (mBin ixD (getS 0) (ret (.int 2))) (mCons (getS 1) (mCons (getS 2) mNil))))))
theorem call3 {g : Fn1} {m1 m2 m3 : M D} {ρ ρ1 ρ2 ρ3 : Rho} {w w1 w2 w3 w4 : Wo} {a b c d : D} (h : m1 ρ w = some (.ok a ρ1 w1)) (h2 : m2 ρ1 w1 = some (.ok b ρ2 w2)) (h3 : m3 ρ2 w2 = some (.ok c ρ3 w3)) (e : g [a, b, c] w3 = some (.ok d w4)) : mCall 3 g (mCons m1 (mCons m2 (mCons m3 mNil))) ρ w = some (.ok d ρ3 w4) := by
  unfold mCall
  rw [bnd_ok (cons_ok h (cons_ok h2 (cons_ok h3 rfl)))]
  show (match g [a, b, c] w3 with
    | some (.ok d w') => some (Rs.ok d ρ3 w')
    | some (.exc x w') => some (.exc x ρ3 w')
    | none => none) = _
  rw [e]
theorem head_run {i : Nat} {R : D} {x y : Str} {b : Bool} {ρ : Rho} {w : Wo} (g : getS i ρ w = some (.ok R ρ w)) (h : ixD R (.int 0) = some (.str x)) (e : (x == y) = b) : mBinT eqD (mBin ixD (getS i) (ret (.int 0))) (ret (.str y)) ρ w = some (.ok b ρ w) := by
  unfold mBinT
  rw [bnd_ok (bin_ok (ρ1 := ρ) (ρ2 := ρ) (b := .int 0) g rfl h)]
  simp [bnd, ret, asB, eq_str, e]
theorem value_op {co ct : Fn1} {R x Ks vs : D} (h0 : ixD R (.int 0) = some (.str "op")) (h1 : ixD R (.int 1) = some x) (h : Tells co [x, Ks, vs]) : Tells (gOf 3 3 (valueM co ct)) [R, Ks, vs] := by
  obtain ⟨d, hd, e⟩ := h
  refine ⟨d, hd, fun w => ?_⟩
  let ρ : Rho := [.val R, .val Ks, .val vs]
  refine gOf_rt (ρ' := ρ) rfl ?_
  unfold valueM
  exact seq_if_yes (ρ' := ρ) (w' := w) (head_run rfl h0 (by decide +kernel)) (call3 (ρ1 := ρ) (ρ2 := ρ) (ρ3 := ρ) (bin_ok (ρ1 := ρ) (b := .int 1) rfl rfl h1) rfl rfl (e w))
theorem value_tab {co ct : Fn1} {R x Ks vs : D} (h0 : ixD R (.int 0) = some (.str "table")) (h1 : ixD R (.int 2) = some x) (h : Tells ct [x, Ks, vs]) : Tells (gOf 3 3 (valueM co ct)) [R, Ks, vs] := by
  obtain ⟨d, hd, e⟩ := h
  refine ⟨d, hd, fun w => ?_⟩
  let ρ : Rho := [.val R, .val Ks, .val vs]
  refine gOf_rt (ρ' := ρ) rfl ?_
  unfold valueM
  exact (seq_if_no (ρ' := ρ) (w' := w) (head_run rfl h0 (by decide +kernel))).trans (ret_ok (call3 (ρ1 := ρ) (ρ2 := ρ) (ρ3 := ρ) (bin_ok (ρ1 := ρ) (b := .int 2) rfl rfl h1) rfl rfl (e w)))
/-- what a reckoner tells, as a function of the values -/
def told (v : Fn1) (R Ks : D) : List D → D := fun vs => match v [R, Ks, .lst vs] none with
  | some (.ok d _) => d
  | _ => .non
theorem Tells.value {v : Fn1} {R Ks : D} {vs : List D} (h : Tells v [R, Ks, .lst vs]) : ValueOk v R Ks (told v R Ks) vs ∧ dat 50 (told v R Ks vs) = true := by
  obtain ⟨d, hd, e⟩ := h
  have q : told v R Ks vs = d := by
    unfold told
    rw [e none]
  rw [q]
  refine ⟨fun w => ?_, hd⟩
  rw [q]
  exact e w
/-! ### types drawn -/
def tyYN : Ty := .lot ["no", "yes"]
def tyBA : Ty := .lot ["b", "a"]
def tyZXY : Ty := .lot ["z", "x", "y"]
def tyW : Ty := .lot ["c", "a", "b"]
/-- the types that are drawn by themselves -/
def Base (t : Ty) : Prop := t = tyYN ∨ t = .cnt 2 ∨ t = .cnt 3 ∨ t = tyBA ∨ t = tyZXY
theorem Base.small {t : Ty} (h : Base t) : t.small ∧ t.many ≤ 3 ∧ t.deep = 0 := by
  rcases h with e | e | e | e | e <;> subst e
  · exact ⟨⟨by decide, by decide⟩, by decide, rfl⟩
  · exact ⟨⟨by decide, by decide⟩, by decide, rfl⟩
  · exact ⟨⟨by decide, by decide⟩, by decide, rfl⟩
  · exact ⟨⟨by decide, by decide⟩, by decide, rfl⟩
  · exact ⟨⟨by decide, by decide⟩, by decide, rfl⟩
def drawTM (cp : Fn1) : M Fl := (mSeq (mSet 1 (mLst (mCons (mTup (mCons (ret (.str "lot")) (mCons (mTup (mCons (ret (.str "no")) (mCons (ret (.str "yes")) mNil))) mNil))) (mCons (mTup (mCons (ret (.str "lot")) (mCons (mTup (mCons (ret (.str "no")) (mCons (ret (.str "yes")) mNil))) mNil))) (mCons (mTup (mCons (ret (.str "count")) (mCons (ret (.int 2)) mNil))) (mCons (mTup (mCons (ret (.str "count")) (mCons (ret (.int 3)) mNil))) (mCons (mTup (mCons (ret (.str "lot")) (mCons (mTup (mCons (ret (.str "b")) (mCons (ret (.str "a")) mNil))) mNil))) mNil))))))) (mRet (mBin ixD (mBin addD (getS 1) (mLst (mCons (mTup (mCons (ret (.str "lot")) (mCons (mTup (mCons (ret (.str "z")) (mCons (ret (.str "x")) (mCons (ret (.str "y")) mNil)))) mNil))) mNil))) (mCall 2 cp (mCons (getS 0) (mCons (ret (.int 6)) mNil))))))
theorem drawT_spec {sa ca : Addr} {cp : Fn1} (hp : PickOk sa ca cp) : Gives sa ca (gOf 1 2 (drawTM cp)) [.raw (.ref sa)] fun d => ∃ t, d = t.d ∧ Base t := fun s hs => by
  obtain ⟨d, s1, k1, ⟨k, ed, hk⟩, e⟩ := hp 6 (by decide) s hs
  subst ed
  have lk : k < 6 := by omega
  let l5 : D := .lst [tyYN.d, tyYN.d, Ty.d (.cnt 2), Ty.d (.cnt 3), tyBA.d]
  let l6 : D := .lst [tyYN.d, tyYN.d, Ty.d (.cnt 2), Ty.d (.cnt 3), tyBA.d, tyZXY.d]
  let ρ : Rho := [.val (.raw (.ref sa)), .val l5]
  have pick : ∃ t, ixD l6 (.int (k : Nat)) = some (Ty.d t) ∧ Base t := by
    match k, lk with
    | 0, _ => exact ⟨tyYN, atI_nat (j := 0) rfl, .inl rfl⟩
    | 1, _ => exact ⟨tyYN, atI_nat (j := 1) rfl, .inl rfl⟩
    | 2, _ => exact ⟨.cnt 2, atI_nat (j := 2) rfl, .inr (.inl rfl)⟩
    | 3, _ => exact ⟨.cnt 3, atI_nat (j := 3) rfl, .inr (.inr (.inl rfl))⟩
    | 4, _ => exact ⟨tyBA, atI_nat (j := 4) rfl, .inr (.inr (.inr (.inl rfl)))⟩
    | 5, _ => exact ⟨tyZXY, atI_nat (j := 5) rfl, .inr (.inr (.inr (.inr rfl)))⟩
  obtain ⟨t, ht, hb⟩ := pick
  refine ⟨t.d, s1, k1, ⟨t, rfl, hb⟩, gOf_rt (ρ' := ρ) rfl ?_⟩
  have e1 : ∀ w, mSet 1 (mLst (mCons (mTup (mCons (ret (.str "lot")) (mCons (mTup (mCons (ret (.str "no")) (mCons (ret (.str "yes")) mNil))) mNil))) (mCons (mTup (mCons (ret (.str "lot")) (mCons (mTup (mCons (ret (.str "no")) (mCons (ret (.str "yes")) mNil))) mNil))) (mCons (mTup (mCons (ret (.str "count")) (mCons (ret (.int 2)) mNil))) (mCons (mTup (mCons (ret (.str "count")) (mCons (ret (.int 3)) mNil))) (mCons (mTup (mCons (ret (.str "lot")) (mCons (mTup (mCons (ret (.str "b")) (mCons (ret (.str "a")) mNil))) mNil))) mNil)))))) [.val (.raw (.ref sa)), .free] w = some (.ok .nx ρ w) := fun w => rfl
  have e2 : ∀ w, mBin addD (getS 1) (mLst (mCons (mTup (mCons (ret (.str "lot")) (mCons (mTup (mCons (ret (.str "z")) (mCons (ret (.str "x")) (mCons (ret (.str "y")) mNil)))) mNil))) mNil)) ρ w = some (.ok l6 ρ w) := fun w => rfl
  show drawTM cp [.val (.raw (.ref sa)), .free] (some s) = _
  unfold drawTM
  refine (seq_nx (e1 _)).trans (ret_ok (bin_ok (ρ1 := ρ) (ρ2 := ρ) (e2 _) (call2 (ρ1 := ρ) (ρ2 := ρ) (a := .raw (.ref sa)) (b := .int 6) rfl rfl e) ht))
end DL
set_option Elab.async false
set_option linter.all false
set_option maxRecDepth 100000
set_option maxHeartbeats 4000001
/-! DLXG: a lap of law_k19. -/
namespace DL
open PySem PyProof.Rows PySem.Spec L2 RZ StX
/-- a right side and its kinds, as the law wants them -/
structure RtOk (so oo : Fn1) (R : D) (ts : List Ty) : Prop where
  kinds : ∀ t ∈ ts, t.small ∧ t.deep ≤ 2
  ops : ∃ names : List D, (∀ w, oo [R] w = some (.ok (.tup names) w)) ∧ 1 ≤ names.length ∧ names.length ≤ ts.length ∧ names.length ≤ 10 ∧
    ∀ mem, dat 50 mem = true → ∃ r : Rl, Rises r ∧ (∀ l, All2 StOk (ts.take names.length) l → (r l).ok) ∧ ∀ l, All2 StOk (ts.take names.length) l → RunsTo so R (.lst ((ts.take names.length).map Ty.d)) mem (stand r) l
theorem All2.mem {α β : Type} {P : α → β → Prop} : ∀ {as : List α} {bs : List β}, All2 P as bs → ∀ b ∈ bs, ∃ a ∈ as, P a b
  | _, _, .nil, b, h => by cases h
  | _, _, .cons h
        t, b, hb => by
    rcases List.mem_cons.mp
          hb with e | e
    · subst e
      exact ⟨_, List.mem_cons_self, h⟩
    · obtain ⟨a, ha, p⟩ := All2.mem t b e
      exact ⟨a, List.mem_cons_of_mem _ ha, p⟩
/-- what was drawn for each kind are standings -/
theorem sts_of : ∀ {ts : List Ty} {ys : List D}, All2 (fun (t : Ty) d => ∃ x : St, d = x.d ∧ StOk t x) ts ys → ∃ l : List St, ys = l.map St.d ∧ All2 StOk ts l
  | _, _, .nil => ⟨[], rfl, .nil⟩
  | _, _, .cons ⟨x, e, h⟩ r => by
    obtain ⟨l, e2, h2⟩ := sts_of r
    exact ⟨x :: l, by rw [List.map_cons, e, e2], .cons h h2⟩
theorem up_of : ∀ {ts : List Ty} {l : List St} {ys : List D}, All2 StOk ts l → All2 (fun (p : Ty × St) d => ∃ y : St, d = y.d ∧ StOk p.1 y ∧ p.2.le y) (ts.zip l) ys → ∃ m : List St, ys = m.map St.d ∧ All2 StOk ts m ∧ Up l m
  | _, _, _, .nil, .nil => ⟨[], rfl, .nil, .nil⟩
  | _, _, _, .cons h t, .cons ⟨y, e, h1, h2⟩ r => by
    obtain ⟨m, e2, h3, h4⟩ := up_of t r
    exact ⟨y :: m, by rw [List.map_cons, e, e2], .cons h1 h3, .cons h2 h4⟩
theorem zip_pr {α β : Type} (f : α → D) (g : β → D) : ∀ (l : List α) (m : List β), ((l.map f).zip (m.map g)).map (fun (p : D × D) => D.pr p.1 p.2) = (l.zip m).map fun (p : α × β) => D.pr (f p.1) (g p.2)
  | [], _ => by simp
  | _ :: _, [] => by simp
  | x :: l, y :: m => by
    rw [List.map_cons, List.map_cons, List.zip_cons_cons, List.zip_cons_cons, List.map_cons, List.map_cons, zip_pr f g l m]
theorem mem_false : ∀ {α : Type} (l : List α), memD (.bl false) (l.map fun _ => D.bl true) = false
  | _, [] => rfl
  | _, x :: l => by
    rw [List.map_cons]
    show (deq (.bl true) (.bl false) || memD (.bl false) (l.map fun _ => D.bl true)) = false
    rw [mem_false l]
    rfl
theorem dats_true : ∀ {α : Type} (n : Nat) (l : List α), dats n (l.map fun _ => D.bl true) = true
  | _, _, [] => by simp [dats]
  | _, n, x :: l => by
    rw [List.map_cons]
    simp [dats, dat, dats_true n l]
def lapM (dr oo ds ab dv be so : Fn1) : M Fl := (mSeq (mAsg (mCall 1 dr (mCons (getS 1) mNil)) (bTup 2 (bCons (bName 3) (bCons (bName 4) bNil)))) (mSeq (mSet 4 (mSl (getS 4) (ret none) (bnd (bnd (mCons (mCall 1 oo (mCons (getS 3) mNil)) mNil) fun ds => lft (lenD ds)) (kInt fun i => ret (some i))))) (mSeq (mSet 5 (mLc [8] (bnd (getS 4) fun d => lft (itemsD d)) (bName 8) (ret true) (mCall 2 ds (mCons (getS 1) (mCons (getS 8) mNil))))) (mSeq (mSet 6 (mLc [8, 9] (bnd (mCons (getS 4) (mCons (getS 5) mNil)) fun ds => lft (zipD ds)) (bTup 2 (bCons (bName 8) (bCons (bName 9) bNil))) (ret true) (mCall 3 ab (mCons (getS 1) (mCons (getS 8) (mCons (getS 9) mNil)))))) (mSeq (mSet 7 (mCall 2 dv (mCons (getS 1) (mCons (mBin ixD (getS 4) (ret (.int 0))) mNil)))) (mSeq (mIte (mBinT inD (ret (.bl false)) (mLc [9, 10] (bnd (mCons (getS 5) (mCons (getS 6) mNil)) fun ds => lft (zipD ds)) (bTup 2 (bCons (bName 9) (bCons (bName 10) bNil))) (ret true) (mCall 2 be (mCons (getS 9) (mCons (getS 10) mNil))))) (mRet (ret (.bl false))) (ret .nx)) (mIte (mNot (mVal (mCall 2 be (mCons (mCall 4 so (mCons (getS 3) (mCons (getS 4) (mCons (getS 5) (mCons (getS 7) mNil))))) (mCons (mCall 4 so (mCons (getS 3) (mCons (getS 4) (mCons (getS 6) (mCons (getS 7) mNil))))) mNil))))) (mRet (ret (.bl false))) (ret .nx))))))))
theorem call4 {g : Fn1} {m1 m2 m3 m4 : M D} {ρ : Rho} {w : Wo} {a b c d e : D} (h : m1 ρ w = some (.ok a ρ w)) (h2 : m2 ρ w = some (.ok b ρ w)) (h3 : m3 ρ w = some (.ok c ρ w)) (h4 : m4 ρ w = some (.ok d ρ w)) (q : g [a, b, c, d] w = some (.ok e w)) : mCall 4 g (mCons m1 (mCons m2 (mCons m3 (mCons m4 mNil)))) ρ w = some (.ok e ρ w) := by
  unfold mCall
  rw [bnd_ok (cons_ok h (cons_ok h2 (cons_ok h3 (cons_ok h4 rfl))))]
  show (match g [a, b, c, d] w with
    | some (.ok d w') => some (Rs.ok d ρ w')
    | some (.exc x w') => some (.exc x ρ w')
    | none => none) = _
  rw [q]
theorem stand_ok {r : Rl} {l : List St} (h : (r l).ok) : (stand r l).ok := by
  unfold stand
  split
  · exact trivial
  · exact h
theorem All2.zip {α β γ : Type} {P : α → β → Prop} : ∀ {as : List α} {bs : List β}, All2 P as bs → ∀ p ∈ as.zip bs, P p.1 p.2
  | _, _, .nil, p, h => by simp at h
  | _, _, .cons h
        t, p, hp => by
    rw [List.zip_cons_cons] at hp
    rcases List.mem_cons.mp
          hp with e | e
    · subst e; exact h
    · exact All2.zip (γ := γ) t p e
theorem lap_run {sa ca : Addr} {dr oo ds ab dv be so : Fn1} (hdr : Gives sa ca dr [.raw (.ref sa)] fun d => ∃ R ts, d = .tup [R, .lst (ts.map Ty.d)] ∧ RtOk so oo R ts)
    (hds : ∀ t : Ty, t.small → t.deep ≤ 2 → Gives sa ca ds [.raw (.ref sa), t.d] fun d => ∃ x : St, d = x.d ∧ StOk t x) (hab : ∀ t : Ty, t.small → t.deep ≤ 2 → ∀ x : St, StOk t x → Gives sa ca ab [.raw (.ref sa), t.d, x.d] fun d => ∃ y : St, d = y.d ∧ StOk t y ∧ x.le y)
    (hdv : ∀ t : Ty, t.small → t.deep ≤ 2 → Gives sa ca dv [.raw (.ref sa), t.d] fun d => d ∈ t.vals) (hbe : ∀ s t : St, s.ok → t.ok → s.le t → ∀ w, be [s.d, t.d] w = some (.ok (.bl true) w)) (a2 a3 a4 a5 a6 a7 a8 a9 a10 : Slot) (s : Src) (hs : Sok sa ca s) :
    ∃ b2 b3 b4 b5 b6 b7 b8 b9 b10 s', Sok sa ca s' ∧ lapM dr oo ds ab dv be so [.free, .val (.raw (.ref sa)), a2, a3, a4, a5, a6, a7, a8, a9, a10] (some s) = some (.ok .nx [.free, .val (.raw (.ref sa)), b2, b3, b4, b5, b6, b7, b8, b9, b10] (some s')) := by
  obtain ⟨_, s1, k1, ⟨R, ts, e, ok⟩, f1⟩ := hdr s hs
  subst e
  obtain ⟨names, g1, g2, g3, g4, g5⟩ := ok.ops
  have tk : ∀ t ∈ ts.take names.length, t.small ∧ t.deep ≤ 2 := fun t ht => ok.kinds t (List.mem_of_mem_take ht)
  have tl : (ts.take names.length).length = names.length := by rw [List.length_take]; omega
  let us := ts.take names.length
  have ul : us.length ≤ 10 := by rw [show us.length = names.length from tl]; omega
  let ρ0 : Rho := [.free, .val (.raw (.ref sa)), a2, a3, a4, a5, a6, a7, a8, a9, a10]
  let ρ1 : Rho := [.free, .val (.raw (.ref sa)), a2, .val R, .val (.lst (ts.map Ty.d)), a5, a6, a7, a8, a9, a10]
  let ρ2 : Rho := [.free, .val (.raw (.ref sa)), a2, .val R, .val (.lst (us.map Ty.d)), a5, a6, a7, a8, a9, a10]
  have p1 : mAsg (mCall 1 dr (mCons (getS 1) mNil)) (bTup 2 (bCons (bName 3) (bCons (bName 4) bNil))) ρ0 (some s) = some (.ok .nx ρ1 (some s1)) := by
    unfold mAsg
    rw [bnd_ok (call1 (ρ1 := ρ0) (a := .raw (.ref sa)) rfl f1)]
    rfl
  have p2 : mSet 4 (mSl (getS 4) (ret none) (bnd (bnd (mCons (mCall 1 oo (mCons (getS 3) mNil)) mNil) fun ds => lft (lenD ds)) (kInt fun i => ret (some i)))) ρ1 (some s1) = some (.ok .nx ρ2 (some s1)) := by
    have q1 : bnd (mCons (mCall 1 oo (mCons (getS 3) mNil)) mNil) (fun ds => lft (lenD ds)) ρ1 (some s1) = some (.ok (.int (names.length : Nat)) ρ1 (some s1)) := by
      rw [bnd_ok (cons_ok (call1 (ρ1 := ρ1) (a := R) rfl (g1 (some s1))) rfl)]
      rfl
    have q2 : bnd (bnd (mCons (mCall 1 oo (mCons (getS 3) mNil)) mNil) fun ds => lft (lenD ds)) (kInt fun i => ret (some i)) ρ1 (some s1) = some (.ok (some (names.length : Nat)) ρ1 (some s1)) := by
      rw [bnd_ok q1]
      rfl
    have q3 : mSl (getS 4) (ret none) (bnd (bnd (mCons (mCall 1 oo (mCons (getS 3) mNil)) mNil) fun ds => lft (lenD ds)) (kInt fun i => ret (some i))) ρ1 (some s1) = some (.ok (.lst (us.map Ty.d)) ρ1 (some s1)) := by
      have b2 : getS 4 ρ1 (some s1) = some (.ok (.lst (ts.map Ty.d)) ρ1 (some s1)) := rfl
      have b3 : (ret none : M (Option Int)) ρ1 (some s1) = some (.ok none ρ1 (some s1)) := rfl
      unfold mSl
      rw [bnd_ok b2, bnd_ok b3, bnd_ok q2]
      show some (Rs.ok (D.lst (cutD (ts.map Ty.d) none (some ((names.length : Nat) : Int)))) ρ1 (some s1)) = _
      rw [cut_to, ← List.map_take]
    exact set_ok q3
  -- the standings
  obtain ⟨ys, s2, f3, p3', k2⟩ := mLc_draw (sa := sa) (ca := ca) (own := [8]) (bind := bName 8) (mi := bnd (getS 4) fun d => lft (itemsD d)) (me := mCall 2 ds (mCons (getS 1) (mCons (getS 8) mNil))) (ρ := ρ2) (s := s1) (e := Ty.d) (P := fun t d => ∃ x : St, d = x.d ∧ StOk t x) us k1 rfl (by rw [tl]; omega) fun t ht s hs => by
    obtain ⟨d, s', k, p, e⟩ := hds t (tk t ht).1 (tk t ht).2 s hs
    exact ⟨_, _, d, s', rfl, call2 (ρ1 := [.free, .val (.raw (.ref sa)), a2, .val R, .val (.lst (us.map Ty.d)), a5, a6, a7, .val t.d, a9, a10]) (ρ2 := [.free, .val (.raw (.ref sa)), a2, .val R, .val (.lst (us.map Ty.d)), a5, a6, a7, .val t.d, a9, a10]) rfl rfl e, rfl, p, k⟩
  obtain ⟨l, el, hl⟩ := sts_of p3'
  subst el
  have ll := hl.length
  let ρ3 : Rho := [.free, .val (.raw (.ref sa)), a2, .val R, .val (.lst (us.map Ty.d)), .val (stL l), a6, a7, .free, a9, a10]
  have p3 : mSet 5 (mLc [8] (bnd (getS 4) fun d => lft (itemsD d)) (bName 8) (ret true) (mCall 2 ds (mCons (getS 1) (mCons (getS 8) mNil)))) ρ2 (some s1) = some (.ok .nx ρ3 (some s2)) := set_ok f3
  -- those above
  have i4 : (bnd (mCons (getS 4) (mCons (getS 5) mNil)) fun ds => lft (zipD ds)) ρ3 (some s2) = some (.ok ((us.zip l).map fun (p : Ty × St) => D.pr p.1.d p.2.d) ρ3 (some s2)) := by
    rw [← zip_pr]
    rfl
  obtain ⟨zs, s3, f4, p4', k3⟩ := mLc_draw (sa := sa) (ca := ca) (own := [8, 9]) (bind := bTup 2 (bCons (bName 8) (bCons (bName 9) bNil))) (mi := bnd (mCons (getS 4) (mCons (getS 5) mNil)) fun ds => lft (zipD ds)) (me := mCall 3 ab (mCons (getS 1) (mCons (getS 8) (mCons (getS 9) mNil)))) (ρ := ρ3) (s := s2) (e := fun (p : Ty × St) => D.pr p.1.d p.2.d)
    (P := fun (p : Ty × St) d => ∃ y : St, d = y.d ∧ StOk p.1 y ∧ p.2.le y) (us.zip l) k2 i4 (by rw [List.length_zip]; have := Nat.min_le_left us.length l.length; omega) fun p hp s hs => by
    have tp := tk p.1 (List.of_mem_zip hp).1
    obtain ⟨d, s', k, q, e⟩ := hab p.1 tp.1 tp.2 p.2 (All2.zip (γ := Nat) hl p hp) s hs
    let ρ' : Rho := [.free, .val (.raw (.ref sa)), a2, .val R, .val (.lst (us.map Ty.d)), .val (stL l), a6, a7, .val p.1.d, .val p.2.d, a10]
    exact ⟨ρ', ρ', d, s', rfl, call3 (ρ1 := ρ') (ρ2 := ρ') (ρ3 := ρ') rfl rfl rfl e, rfl, q, k⟩
  obtain ⟨m, em, hm, up⟩ := up_of hl p4'
  subst em
  let ρ4 : Rho := [.free, .val (.raw (.ref sa)), a2, .val R, .val (.lst (us.map Ty.d)), .val (stL l), .val (stL m), a7, .free, .free, a10]
  have p4 : mSet 6 (mLc [8, 9] (bnd (mCons (getS 4) (mCons (getS 5) mNil)) fun ds => lft (zipD ds)) (bTup 2 (bCons (bName 8) (bCons (bName 9) bNil))) (ret true) (mCall 3 ab (mCons (getS 1) (mCons (getS 8) (mCons (getS 9) mNil))))) ρ3 (some s2) = some (.ok .nx ρ4 (some s3)) := set_ok f4
  -- the memory
  obtain ⟨t0, ht0⟩ : ∃ t, us[0]? = some t := ⟨us[0]'(by show 0 < (ts.take names.length).length; omega), List.getElem?_eq_getElem _⟩
  have m0 := List.mem_of_getElem? ht0
  obtain ⟨mem, s4, k4, hmem, f5⟩ := hdv t0 (tk t0 m0).1 (tk t0 m0).2 s3 k3
  let ρ5 : Rho := [.free, .val (.raw (.ref sa)), a2, .val R, .val (.lst (us.map Ty.d)), .val (stL l), .val (stL m), .val mem, .free, .free, a10]
  have p5 : mSet 7 (mCall 2 dv (mCons (getS 1) (mCons (mBin ixD (getS 4) (ret (.int 0))) mNil))) ρ4 (some s3) = some (.ok .nx ρ5 (some s4)) := by
    refine set_ok (call2 (ρ1 := ρ4) (ρ2 := ρ4) rfl (bin_ok (ρ1 := ρ4) (a := .lst (us.map Ty.d)) (b := .int 0) rfl rfl ?_) f5)
    show atI (us.map Ty.d) ((0 : Nat) : Int) = some t0.d
    exact atI_nat (by rw [List.getElem?_map, ht0]; rfl)
  have dmem : dat 50 mem = true := dat_to (t0.dat mem hmem) (by have := (tk t0 m0).2; omega)
  have gl : ∀ s ∈ l, s.ok := fun s hs => by
    obtain ⟨t, ht, h⟩ := hl.mem s hs
    exact h.ok (by have := (tk t ht).2; omega)
  have gm : ∀ s ∈ m, s.ok := fun s hs => by
    obtain ⟨t, ht, h⟩ := hm.mem s hs
    exact h.ok (by have := (tk t ht).2; omega)
  have lm := up.length
  -- no False among those
  have i6 : (bnd (mCons (getS 5) (mCons (getS 6) mNil)) fun ds => lft (zipD ds)) ρ5 (some s4) = some (.ok ((l.zip m).map fun (p : St × St) => D.pr p.1.d p.2.d) ρ5 (some s4)) := by
    rw [← zip_pr]
    rfl
  have f6 := mLc_map (own := [9, 10]) (bind := bTup 2 (bCons (bName 9) (bCons (bName 10) bNil))) (mi := bnd (mCons (getS 5) (mCons (getS 6) mNil)) fun ds => lft (zipD ds)) (me := mCall 2 be (mCons (getS 9) (mCons (getS 10) mNil))) (ρ := ρ5) (w0 := some s4) (w := some s4) (e := fun (p : St × St) => D.pr p.1.d p.2.d) (f := fun _ => D.bl true) (l.zip m) i6 (by rw [List.length_zip]; have := Nat.min_le_left l.length m.length; rw [ll] at this; omega) fun p hp => by
    have q := List.of_mem_zip hp
    let ρ' : Rho := [.free, .val (.raw (.ref sa)), a2, .val R, .val (.lst (us.map Ty.d)), .val (stL l), .val (stL m), .val mem, .free, .val p.1.d, .val p.2.d]
    exact ⟨ρ', ρ', rfl, call2 (ρ1 := ρ') (ρ2 := ρ') rfl rfl (hbe p.1 p.2 (gl _ q.1) (gm _ q.2) (All2.zip (γ := Nat) up p hp) (some s4)), rfl⟩
  let ρ6 : Rho := [.free, .val (.raw (.ref sa)), a2, .val R, .val (.lst (us.map Ty.d)), .val (stL l), .val (stL m), .val mem, .free, .free, .free]
  have p6 : mBinT inD (ret (.bl false)) (mLc [9, 10] (bnd (mCons (getS 5) (mCons (getS 6) mNil)) fun ds => lft (zipD ds)) (bTup 2 (bCons (bName 9) (bCons (bName 10) bNil))) (ret true) (mCall 2 be (mCons (getS 9) (mCons (getS 10) mNil)))) ρ5 (some s4) = some (.ok false ρ6 (some s4)) := by
    have q : inD (.bl false) (.lst ((l.zip m).map fun _ => D.bl true)) = some (.bl false) := by
      show (if dat 60 (.bl false) && dats 59 ((l.zip m).map fun _ => D.bl true) then some (D.bl (memD (.bl false) ((l.zip m).map fun _ => D.bl true))) else none) = _
      rw [dats_true, mem_false]
      rfl
    have b0 : (ret (D.bl false) : M D) ρ5 (some s4) = some (.ok (.bl false) ρ5 (some s4)) := rfl
    unfold mBinT
    rw [bnd_ok b0, bnd_ok f6, q]
    rfl
  -- and their standings
  obtain ⟨r, rise, rok, runs⟩ := g5 mem dmem
  have e1 := runs l hl (some s4)
  have e2 := runs m hm (some s4)
  have le := stand_rises rise up
  have c1 : mCall 4 so (mCons (getS 3) (mCons (getS 4) (mCons (getS 5) (mCons (getS 7) mNil)))) ρ6 (some s4) = some (.ok (stand r l).d ρ6 (some s4)) := call4 rfl rfl rfl rfl e1
  have c2 : mCall 4 so (mCons (getS 3) (mCons (getS 4) (mCons (getS 6) (mCons (getS 7) mNil)))) ρ6 (some s4) = some (.ok (stand r m).d ρ6 (some s4)) := call4 rfl rfl rfl rfl e2
  have c3 := hbe _ _ (stand_ok (rok l hl)) (stand_ok (rok m hm)) le (some s4)
  have p7 : mNot (mVal (mCall 2 be (mCons (mCall 4 so (mCons (getS 3) (mCons (getS 4) (mCons (getS 5) (mCons (getS 7) mNil))))) (mCons (mCall 4 so (mCons (getS 3) (mCons (getS 4) (mCons (getS 6) (mCons (getS 7) mNil))))) mNil)))) ρ6 (some s4) = some (.ok false ρ6 (some s4)) := by
    unfold mNot
    rw [bnd_ok (mVal_ok (call2 c1 c2 c3))]
    rfl
  refine ⟨a2, .val R, .val (.lst (us.map Ty.d)), .val (stL l), .val (stL m), .val mem, .free, .free, .free, s4, k4, ?_⟩
  show lapM dr oo ds ab dv be so ρ0 (some s) = some (.ok .nx ρ6 (some s4))
  unfold lapM
  refine (seq_nx p1).trans ((seq_nx p2).trans ((seq_nx p3).trans ((seq_nx p4).trans ((seq_nx p5).trans ((seq_if_no p6).trans ?_)))))
  exact (ite_run p7).trans rfl
end DL
set_option Elab.async false
set_option linter.all false
set_option maxRecDepth 100000
set_option maxHeartbeats 4000001
/-! DLXH: operands of right sides. -/
namespace DL
open PySem PyProof.Rows PySem.Spec L2 RZ StX
def shapesD : List (Str × Option D) := [("const", some (.tup [.str "kind", .str "value", .str "stream"])), ("op", some (.tup [.str "op", .str "streams"])), ("table", some (.tup [.str "kind", .str "results", .str "streams"])), ("held", some (.tup [.str "kind", .str "value", .str "stream", .str "stream"])), ("when", some (.tup [.str "stream", .str "stream", .str "word"])), ("choose", some (.tup [.str "stream", .str "streams"])), ("call", some (.tup [.str "word", .str "streams", .str "again"])), ("input", none), ("arg", none), ("as", none)]
def addedD : List (Str × Option D) := [("input", some (.tup [.str "kind"])), ("arg", some (.tup [.str "streams", .str "place"])), ("as", some (.tup [.str "stream"])), ("const", none), ("held", none), ("op", none), ("table", none), ("when", none), ("choose", none), ("call", none)]
def partsM : M Fl := (mSeq (mSet 1 (mBin ixD (getS 0) (ret (.int 0)))) (mSeq (mSet 2 (mIte (bnd (getS 1) fun d => lft (kdIn false shapesD d)) (bnd (getS 1) fun d => lft (kdGet shapesD d)) (bnd (getS 1) fun d => lft (kdGet addedD d)))) (mRet (mLZip (mCons (getS 2) (mCons (mSl (getS 0) (bnd (ret (.int 1)) (kInt fun i => ret (some i))) (ret none)) mNil))))))
def partsF : Fn1 := gOf 1 3 partsM
def operM : M Fl := (mSeq (bnd (nLst mNil) fun ds => setN 1 ds) (mSeq (mFor (bnd (mCall 1 partsF (mCons (getS 0) mNil)) fun d => lft (itemsD d)) (bTup 2 (bCons (bName 2) (bCons (bName 3) bNil))) (mIte (mBinT eqD (getS 2) (ret (.str "stream"))) (mDrop (mMeth 1 (mCons (getS 3) mNil) appendD)) (mIte (mBinT eqD (getS 2) (ret (.str "streams"))) (mDrop (mMeth 1 (mCons (getS 3) mNil) extendD)) (mIte (mAnd (mBinT eqD (getS 2) (ret (.str "again"))) (mBinT (isN true) (getS 3) (ret .non))) (mDrop (mMeth 1 (mCons (mBin ixD (getS 3) (ret (.int 0))) mNil) appendD)) (ret .nx))))) (mRet (getS 1))))
def operF : Fn1 := gOf 1 4 operM
def opsM : M Fl := (mRet (bnd (mCons (mCall 1 operF (mCons (getS 0) mNil)) mNil) fun ds => lft (tupleD ds)))
def opsF : Fn1 := gOf 1 1 opsM
theorem ops_op2 (x a b : D) (w : Wo) : opsF [.tup [.str "op", x, .tup [a, b]]] w = some (.ok (.tup [a, b]) w) := by rfl
/-! ### all rules together -/
def rulesD : List (Str × Option D) := [("const", some (.fn "of_const")), ("held", some (.fn "of_held")), ("op", some (.fn "of_values")), ("table", some (.fn "of_values")), ("arg", some (.fn "of_arg")), ("when", some (.fn "of_when")), ("choose", some (.fn "of_choose")), ("as", some (.fn "of_as")), ("input", none), ("call", none)]
def hereF : Fn1 := gOf 1 1 hereM
def partF : Fn1 := gOf 1 2 (partM hereF)
theorem hereF_ok : HereOk hereF := fun s hs w => here_spec s hs w
theorem partF_ok : PartOk partF := part_spec hereF_ok
def valueF (pl1 pl2 c : Fn1) : Fn1 := gOf 3 3 (valueM (opF (compF pl1)) (gOf 3 6 (tabM pl2 c)))
def standTb (pl1 pl2 c : Fn1) : Tb := [("of_const", 4, gOf 4 5 (constM hereF)), ("of_held", 4, gOf 4 5 (heldM partF hereF)), ("of_values", 4, gOf 4 7 (valsM partF hereF (valueF pl1 pl2 c))), ("of_arg", 4, gOf 4 6 (argM partF hereF)), ("of_when", 4, gOf 4 6 (whenM partF)), ("of_choose", 4, gOf 4 10 (chooseM partF hereF)), ("of_as", 4, gOf 4 4 asM)]
def standF (pl1 pl2 c : Fn1) : Fn1 := gOf 4 5 (standM rulesD (standTb pl1 pl2 c))
theorem good_of {ts : List Ty} (hk : ∀ t ∈ ts, t.small ∧ t.deep ≤ 2) (hl : ts.length ≤ 10) {l : List St} (h : All2 StOk ts l) : Good l := ⟨by rw [h.length]; omega, fun s hs => by
  obtain ⟨t, ht, q⟩ := h.mem s hs
  exact q.ok (by have := (hk t ht).2; omega)⟩
theorem vals_in : ∀ {ts : List Ty} {l : List St}, All2 StOk ts l → l.all St.isVal = true → All2 (fun (t : Ty) d => d ∈ t.vals) ts (l.map St.v)
  | _, _, .nil, _ => .nil
  | _, _, .cons (b := s) h r, c => by
    rw [List.all_cons, Bool.and_eq_true] at c
    rw [List.map_cons]
    refine .cons ?_ (vals_in r c.2)
    cases s with
    | val d => exact h d rfl
    | _ => cases c.1
theorem ofVals_ok {f : List D → D} {l : List St} (h : l.all St.isVal = true → dat 50 (f (l.map St.v)) = true) : (ofVals f l).ok := by
  unfold ofVals
  split
  · exact trivial
  · split
    · exact trivial
    · split
      · rename_i c
        exact h c
      · split <;> exact trivial
section
variable {pl1 pl2 c : Fn1} {R : D} {ts : List Ty}
/-- ops and tables -/
theorem rt_vals {names : List D} {x : Str} (hk : ∀ t ∈ ts, t.small ∧ t.deep ≤ 2) (ho : ∀ w, opsF [R] w = some (.ok (.tup names) w)) (hn : names.length = ts.length) (h1 : 1 ≤ ts.length) (h10 : ts.length ≤ 10) (hR : ixD R (.int 0) = some (.str x)) (hx : kdGet rulesD (.str x) = some (.fn "of_values"))
    (hv : ∀ vs, All2 (fun (t : Ty) d => d ∈ t.vals) ts vs → Tells (valueF pl1 pl2 c) [R, .lst (ts.map Ty.d), .lst vs]) : RtOk (standF pl1 pl2 c) opsF R ts := by
  refine ⟨hk, names, ho, by omega, by omega, by omega, fun mem _ => ?_⟩
  rw [hn, List.take_length]
  refine ⟨ofVals (told (valueF pl1 pl2 c) R (.lst (ts.map Ty.d))), rises_vals _, fun l hl => ofVals_ok fun b => (hv _ (vals_in hl b)).value.2, fun l hl => ?_⟩
  exact stand_runs (good_of hk h10 hl) hR hx rfl fun _ => vals_runs partF_ok hereF_ok (good_of hk h10 hl) fun b => (hv _ (vals_in hl b)).value.1
/-- the others -/
theorem rt_rule {names : List D} {x f : Str} {gr : Fn1} (hk : ∀ t ∈ ts, t.small ∧ t.deep ≤ 2) (ho : ∀ w, opsF [R] w = some (.ok (.tup names) w)) (h1 : 1 ≤ names.length) (h2 : names.length ≤ ts.length) (h10 : names.length ≤ 10) (hR : ixD R (.int 0) = some (.str x)) (hx : kdGet rulesD (.str x) = some (.fn f)) (hf : (standTb pl1 pl2 c).lookup f = some (4, gr))
    (hr : ∀ mem, dat 50 mem = true → ∃ r : Rl, Rises r ∧ (∀ l, All2 StOk (ts.take names.length) l → (r l).ok) ∧ ∀ l, All2 StOk (ts.take names.length) l → RunsTo gr R (.lst ((ts.take names.length).map Ty.d)) mem r l) : RtOk (standF pl1 pl2 c) opsF R ts := by
  refine ⟨hk, names, ho, h1, h2, h10, fun mem hm => ?_⟩
  obtain ⟨r, a, b, d⟩ := hr mem hm
  have hk' : ∀ t ∈ ts.take names.length, t.small ∧ t.deep ≤ 2 := fun t ht => hk t (List.mem_of_mem_take ht)
  exact ⟨r, a, b, fun l hl => stand_runs (good_of hk' (by rw [List.length_take]; omega) hl) hR hx hf fun _ => d l hl⟩
theorem k_const : kdGet rulesD (.str "const") = some (.fn "of_const") := by rfl
theorem k_held : kdGet rulesD (.str "held") = some (.fn "of_held") := by rfl
theorem k_op : kdGet rulesD (.str "op") = some (.fn "of_values") := by rfl
theorem k_table : kdGet rulesD (.str "table") = some (.fn "of_values") := by rfl
theorem k_arg : kdGet rulesD (.str "arg") = some (.fn "of_arg") := by rfl
theorem k_when : kdGet rulesD (.str "when") = some (.fn "of_when") := by rfl
theorem k_choose : kdGet rulesD (.str "choose") = some (.fn "of_choose") := by rfl
theorem k_as : kdGet rulesD (.str "as") = some (.fn "of_as") := by rfl
/-! ### the roads -/
theorem rt_const {one other : Ty} (h1 : one.small ∧ one.deep ≤ 2) (h2 : other.small ∧ other.deep ≤ 2) {v : D} (hv : v ∈ one.vals) : RtOk (standF pl1 pl2 c) opsF (.tup [.str "const", one.d, v, .str "x"]) [other] := by
  have dv : dat 50 v = true := dat_to (one.dat v hv) (by have := h1.2; omega)
  refine rt_rule (names := [.str "x"]) (fun t ht => by rw [List.mem_singleton.mp ht]; exact h2) (fun w => by rfl) (by decide) (by show 1 ≤ 1; decide) (by decide) (at0 _ _) k_const rfl fun mem _ => ⟨ofConst v, rises_const v, fun l hl => ?_, fun l hl => ?_⟩
  · cases hl with
    | cons h r =>
      rename_i s _
      show (if s.here = true then St.val v else s).ok
      split
      · exact dv
      · exact h.ok (by have := h2.2; omega)
  · cases hl with
    | cons h r => exact const_runs hereF_ok (show ixD (.tup [.str "const", one.d, v, .str "x"]) (.int 2) = some v from at2 _ _ _ _) (h.ok (by have := h2.2; omega))
theorem rt_held {one other : Ty} (h1 : one.small ∧ one.deep ≤ 2) (h2 : other.small ∧ other.deep ≤ 2) (v z : D) : RtOk (standF pl1 pl2 c) opsF (.tup [.str "held", one.d, v, .str "x", .str "y", z]) [one, other] := by
  have hk : ∀ t ∈ [one, other], t.small ∧ t.deep ≤ 2 := fun t ht => by
    rcases List.mem_cons.mp ht with e | e
    · rw [e]; exact h1
    · rw [List.mem_singleton.mp e]; exact h2
  refine rt_rule (names := [.str "x", .str "y"]) hk (fun w => by rfl) (by decide) (by show 2 ≤ 2; decide) (by decide) (at0 _ _) k_held rfl fun mem hm => ⟨ofHeld mem, rises_held mem, fun l hl => ?_, fun l hl => ?_⟩
  · cases hl with
    | cons ha r =>
      cases r with
      | cons hb r =>
        cases r
        rename_i a b
        show (if part [a, b] = true then St.cla else if b.here = true then .val mem else b).ok
        split
        · exact trivial
        · split
          · exact hm
          · exact hb.ok (by have := h2.2; omega)
  · cases hl with
    | cons ha r =>
      cases r with
      | cons hb r =>
        cases r
        exact held_runs partF_ok hereF_ok (ha.ok (by have := h1.2; omega)) (hb.ok (by have := h2.2; omega))
theorem rt_as {one : Ty} (h1 : one.small ∧ one.deep ≤ 2) : RtOk (standF pl1 pl2 c) opsF (.tup [.str "as", .str "x.y"]) [one] := by
  refine rt_rule (names := [.str "x.y"]) (fun t ht => by rw [List.mem_singleton.mp ht]; exact h1) (fun w => by rfl) (by decide) (by show 1 ≤ 1; decide) (by decide) (at0 _ _) k_as rfl fun mem _ => ⟨ofAs, rises_as, fun l hl => ?_, fun l hl => ?_⟩
  · cases hl with
    | cons h r => exact h.ok (by have := h1.2; omega)
  · cases hl with
    | cons h r => exact as_runs
theorem tyW_ok : tyW.small ∧ tyW.deep ≤ 2 := ⟨⟨by decide, by decide⟩, by decide⟩
theorem at3 (a b c d : D) (r : List D) : atI (a :: b :: c :: d :: r) 3 = some d := atI_nat (j := 3) rfl
theorem rt_when {one : Ty} (h1 : one.small ∧ one.deep ≤ 2) (z : Str) : RtOk (standF pl1 pl2 c) opsF (.tup [.str "when", .str "x", .str "y", .str z]) [one, tyW] := by
  have hk : ∀ t ∈ [one, tyW], t.small ∧ t.deep ≤ 2 := fun t ht => by
    rcases List.mem_cons.mp ht with e | e
    · rw [e]; exact h1
    · rw [List.mem_singleton.mp e]; exact tyW_ok
  refine rt_rule (names := [.str "x", .str "y"]) hk (fun w => by rfl) (by decide) (by show 2 ≤ 2; decide) (by decide) (at0 _ _) k_when rfl fun mem hm => ⟨ofWhen (.str z), rises_when _, fun l hl => ?_, fun l hl => ?_⟩
  · cases hl with
    | cons ha r =>
      cases r with
      | cons hb r =>
        cases r
        rename_i a b
        show (if part [a, b] = true then St.cla else if [a, b].any St.isAbs = true then .abs else if b.isVal = false then .unk else if deq b.v (.str z) = true then a else .abs).ok
        split
        · exact trivial
        · split
          · exact trivial
          · split
            · exact trivial
            · split
              · exact ha.ok (by have := h1.2; omega)
              · exact trivial
  · have g := good_of hk (by show 2 ≤ 10; decide) hl
    cases hl with
    | cons ha r =>
      cases r with
      | cons hb r =>
        cases r
        exact when_runs partF_ok g (show ixD (.tup [.str "when", .str "x", .str "y", .str z]) (.int 3) = some (.str z) from at3 _ _ _ _ _) (by simp [dat])
theorem ofCh_ok {f : D → Nat} {q : St} {bs : List St} (hq : q.ok) (hb : ∀ s ∈ bs, s.ok) : (ofCh f q bs).ok := by
  unfold ofCh
  split
  · split <;> exact trivial
  · split
    · exact hq
    · split
      · exact trivial
      · rename_i o ho
        split
        · exact trivial
        · split
          · exact hb o (List.mem_of_getElem? ho)
          · exact trivial
theorem rt_choose {one : Ty} (h1 : one.small ∧ one.deep ≤ 2) : RtOk (standF pl1 pl2 c) opsF (.tup [.str "choose", .str "x", .tup [.str "y", .str "z", .str "w"]]) [tyW, one, one, one] := by
  have hk : ∀ t ∈ [tyW, one, one, one], t.small ∧ t.deep ≤ 2 := fun t ht => by
    rcases List.mem_cons.mp ht with e | e
    · rw [e]; exact tyW_ok
    · rcases List.mem_cons.mp
          e with e | e
      · rw [e]; exact h1
      · rcases List.mem_cons.mp
            e with e | e
        · rw [e]; exact h1
        · rw [List.mem_singleton.mp e]; exact h1
  refine rt_rule (names := [.str "x", .str "y", .str "z", .str "w"]) hk (fun w => by rfl) (by decide) (by show 4 ≤ 4; decide) (by decide) (at0 _ _) k_choose rfl fun mem hm => ⟨ofChoose (atW ["c", "a", "b"]), rises_choose _, fun l hl => ?_, fun l hl => ?_⟩
  · have g := good_of hk (by show 4 ≤ 10; decide) hl
    cases hl with
    | cons ha r =>
      rename_i q bs
      exact ofCh_ok (g.2 q List.mem_cons_self) fun s hs => g.2 s (List.mem_cons_of_mem _ hs)
  · have g := good_of hk (by show 4 ≤ 10; decide) hl
    cases hl with
    | cons ha r =>
      have lr := r.length
      refine choose_runs partF_ok hereF_ok g fun d e => ?_
      have hd := ha d e
      unfold tyW Ty.vals at hd
      obtain ⟨z, hz, ez⟩ := List.mem_map.mp hd
      obtain ⟨j, f1, f2⟩ := firstAt_mem hz
      exact ⟨z, j, ez.symm, f1, by rw [lr]; exact f2⟩
theorem rt_arg {one other : Ty} (h1 : one.small ∧ one.deep ≤ 2) (h2 : other.small ∧ other.deep ≤ 2) {names : List D} (hn : names = [.str "x", .str "y"] ∨ names = [.str "x", .str "y", .str "z"]) {k : Nat} (lk : k < 2) : RtOk (standF pl1 pl2 c) opsF (.tup [.str "arg", .tup names, .int (k : Nat)]) [one, other, tyW] := by
  have hk : ∀ t ∈ [one, other, tyW], t.small ∧ t.deep ≤ 2 := fun t ht => by
    rcases List.mem_cons.mp ht with e | e
    · rw [e]; exact h1
    · rcases List.mem_cons.mp
          e with e | e
      · rw [e]; exact h2
      · rw [List.mem_singleton.mp e]; exact tyW_ok
  have hk' : ∀ n : Nat, ∀ t ∈ [one, other, tyW].take n, t.small ∧ t.deep ≤ 2 := fun n t ht => hk t (List.mem_of_mem_take ht)
  have nl : 2 ≤ names.length ∧ names.length ≤ 3 := by
    rcases hn with e | e <;> rw [e] <;> decide
  have tl : ([one, other, tyW].take names.length).length = names.length := by
    rw [List.length_take]
    show min names.length 3 = names.length
    omega
  refine rt_rule (names := names) hk (fun w => by rcases hn with e | e <;> subst e <;> rfl) (by omega) (by show names.length ≤ 3; omega) (by omega) (at0 _ _) k_arg rfl fun mem hm => ⟨ofArg k, rises_arg k, fun l hl => ?_, fun l hl => ?_⟩
  · have g := good_of (hk' _) (by omega) hl
    unfold ofArg
    split
    · exact trivial
    · rename_i o ho
      split
      · exact trivial
      · split
        · exact trivial
        · split
          · exact g.2 o (List.mem_of_getElem? ho)
          · split <;> exact trivial
  · have g := good_of (hk' _) (by omega) hl
    have ll := hl.length
    have lt : k < l.length := by omega
    exact arg_runs partF_ok hereF_ok g (show ixD (.tup [.str "arg", .tup names, .int (k : Nat)]) (.int 2) = some (.int (k : Nat)) from at2 _ _ _ _) (List.getElem?_eq_getElem lt)
end
end DL
set_option Elab.async false
set_option linter.all false
set_option maxRecDepth 100000
set_option maxHeartbeats 4000001
/-! DLXI: ops and tables as right sides. -/
namespace DL
open PySem PyProof.Rows PySem.Spec L2 RZ StX
abbrev Sm (t : Ty) : Prop := t.small ∧ t.deep ≤ 2
theorem sm_all {ts : List Ty} (h : ∀ t ∈ ts, Sm t) : ∀ t ∈ ts, t.small ∧ t.deep ≤ 2 := h
theorem sm1 {a : Ty} (h : Sm a) : ∀ t ∈ [a], t.small ∧ t.deep ≤ 2 := fun t ht => by
  rw [List.mem_singleton.mp ht]
  exact h
theorem sm2 {a b : Ty} (h : Sm a) (g : Sm b) : ∀ t ∈ [a, b], t.small ∧ t.deep ≤ 2 := fun t ht => by
  rcases List.mem_cons.mp ht with e | e
  · rw [e]; exact h
  · rw [List.mem_singleton.mp e]; exact g
theorem tyYN_ok : Sm tyYN := ⟨⟨by decide, by decide⟩, by decide⟩
theorem yn_str {d : D} (h : d ∈ tyYN.vals) : ∃ z, d = .str z := by
  unfold tyYN Ty.vals at h
  obtain ⟨z, _, e⟩ := List.mem_map.mp h
  exact ⟨z, e.symm⟩
theorem in1 {a : Ty} {vs : List D} (h : All2 (fun (t : Ty) d => d ∈ t.vals) [a] vs) : ∃ x, vs = [x] ∧ x ∈ a.vals := by
  cases h with
  | cons h r => cases r; exact ⟨_, rfl, h⟩
theorem in2 {a b : Ty} {vs : List D} (h : All2 (fun (t : Ty) d => d ∈ t.vals) [a, b] vs) : ∃ x y, vs = [x, y] ∧ x ∈ a.vals ∧ y ∈ b.vals := by
  cases h with
  | cons h r =>
    obtain ⟨y, e, g⟩ := in1 r
    rw [e]
    exact ⟨_, y, rfl, h, g⟩
theorem pair_in {a b : Ty} {d : D} (h : d ∈ (Ty.pair a b).vals) : ∃ x y, d = .tup [x, y] ∧ x ∈ a.vals ∧ y ∈ b.vals := by
  unfold Ty.vals at h
  obtain ⟨x, hx, h⟩ := List.mem_flatMap.mp h
  obtain ⟨y, hy, e⟩ := List.mem_map.mp h
  exact ⟨x, y, e.symm, hx, hy⟩
theorem in_dat {t : Ty} {d : D} {n : Nat} (h : d ∈ t.vals) (hd : t.deep ≤ 2) (hn : 3 ≤ n) : dat n d = true := dat_to (t.dat d h) (by omega)
section
variable {pl1 pl2 c : Fn1}
theorem rt_not : RtOk (standF pl1 pl2 c) opsF (.tup [.str "op", .str "not", .tup [.str "x"]]) [tyYN] :=
  rt_vals (names := [.str "x"]) (sm1 tyYN_ok) (fun w => by rfl) rfl (by simp) (by simp) (at0 _ _) k_op fun vs h => by
    obtain ⟨x, e, hx⟩ := in1 h
    obtain ⟨z, ez⟩ := yn_str hx
    subst e ez
    exact value_op (at0 _ _) (at1 _ _ _) (op_not _ _ z)
theorem rt_and : RtOk (standF pl1 pl2 c) opsF (.tup [.str "op", .str "and", .tup [.str "x", .str "y"]]) [tyYN, tyYN] :=
  rt_vals (names := [.str "x", .str "y"]) (sm2 tyYN_ok tyYN_ok) (fun w => by rfl) rfl (by simp) (by simp) (at0 _ _) k_op fun vs h => by
    obtain ⟨x, y, e, hx, hy⟩ := in2 h
    obtain ⟨z, ez⟩ := yn_str hx
    obtain ⟨u, eu⟩ := yn_str hy
    subst e ez eu
    exact value_op (at0 _ _) (at1 _ _ _) (op_join _ _ _ z u (.inl (by decide +kernel)) (by decide +kernel) (by decide +kernel) (by decide +kernel) (by decide +kernel) (by decide +kernel) (by decide +kernel))
theorem rt_or : RtOk (standF pl1 pl2 c) opsF (.tup [.str "op", .str "or", .tup [.str "x", .str "y"]]) [tyYN, tyYN] :=
  rt_vals (names := [.str "x", .str "y"]) (sm2 tyYN_ok tyYN_ok) (fun w => by rfl) rfl (by simp) (by simp) (at0 _ _) k_op fun vs h => by
    obtain ⟨x, y, e, hx, hy⟩ := in2 h
    obtain ⟨z, ez⟩ := yn_str hx
    obtain ⟨u, eu⟩ := yn_str hy
    subst e ez eu
    exact value_op (at0 _ _) (at1 _ _ _) (op_join _ _ _ z u (.inr (by decide +kernel)) (by decide +kernel) (by decide +kernel) (by decide +kernel) (by decide +kernel) (by decide +kernel) (by decide +kernel))
theorem rt_first {a b : Ty} (h : Sm (.pair a b)) : RtOk (standF pl1 pl2 c) opsF (.tup [.str "op", .str "first", .tup [.str "x"]]) [.pair a b] :=
  rt_vals (names := [.str "x"]) (sm1 h) (fun w => by rfl) rfl (by simp) (by simp) (at0 _ _) k_op fun vs hv => by
    obtain ⟨x, e, hx⟩ := in1 hv
    obtain ⟨p, q, ep, hp, hq⟩ := pair_in hx
    subst e ep
    have hd : max a.deep b.deep + 1 ≤ 2 := h.2
    exact value_op (at0 _ _) (at1 _ _ _) (op_first _ _ p q (in_dat hp (by omega) (by decide)))
theorem rt_second {a b : Ty} (h : Sm (.pair a b)) : RtOk (standF pl1 pl2 c) opsF (.tup [.str "op", .str "second", .tup [.str "x"]]) [.pair a b] :=
  rt_vals (names := [.str "x"]) (sm1 h) (fun w => by rfl) rfl (by simp) (by simp) (at0 _ _) k_op fun vs hv => by
    obtain ⟨x, e, hx⟩ := in1 hv
    obtain ⟨p, q, ep, hp, hq⟩ := pair_in hx
    subst e ep
    have hd : max a.deep b.deep + 1 ≤ 2 := h.2
    exact value_op (at0 _ _) (at1 _ _ _) (op_second _ _ p q (in_dat hq (by omega) (by decide)))
theorem rt_pair {a b : Ty} (ha : Sm a) (hb : Sm b) : RtOk (standF pl1 pl2 c) opsF (.tup [.str "op", .str "pair", .tup [.str "x", .str "y"]]) [a, b] :=
  rt_vals (names := [.str "x", .str "y"]) (sm2 ha hb) (fun w => by rfl) rfl (by simp) (by simp) (at0 _ _) k_op fun vs h => by
    obtain ⟨x, y, e, hx, hy⟩ := in2 h
    subst e
    exact value_op (at0 _ _) (at1 _ _ _) (op_pair _ _ x y (in_dat hx ha.2 (by decide)) (in_dat hy hb.2 (by decide)))
theorem rt_plus {n : Int} (h1 : 1 ≤ n) (h2 : n ≤ 1000) : RtOk (standF pl1 pl2 c) opsF (.tup [.str "op", .str "plus", .tup [.str "x", .str "y"]]) [.cnt n, .cnt n] :=
  have hs : Sm (.cnt n) := ⟨⟨h1, h2⟩, Nat.zero_le 2⟩
  rt_vals (names := [.str "x", .str "y"]) (sm2 hs hs) (fun w => by rfl) rfl (by simp) (by simp) (at0 _ _) k_op fun vs h => by
    obtain ⟨x, y, e, hx, hy⟩ := in2 h
    subst e
    unfold Ty.vals rgs at hx hy
    obtain ⟨i, _, ei⟩ := List.mem_map.mp hx
    obtain ⟨j, _, ej⟩ := List.mem_map.mp hy
    subst ei ej
    exact value_op (at0 _ _) (at1 _ _ _) (op_plus _ _ _ _ n (by omega))
theorem rt_same {k : Ty} (hk : Sm k) : RtOk (standF pl1 pl2 c) opsF (.tup [.str "op", .str "same", .tup [.str "x", .str "y"]]) [k, k] :=
  rt_vals (names := [.str "x", .str "y"]) (sm2 hk hk) (fun w => by rfl) rfl (by simp) (by simp) (at0 _ _) k_op fun vs h => by
    obtain ⟨x, y, e, hx, hy⟩ := in2 h
    subst e
    exact value_op (at0 _ _) (at1 _ _ _) (op_comp (by decide +kernel) (by decide +kernel) (by decide +kernel) (by decide +kernel) (by decide +kernel) (by decide +kernel) ⟨_, fun w => comp_same _ _ x y (in_dat hx hk.2 (by decide)) (in_dat hy hk.2 (by decide)) w⟩)
theorem rt_less {k : Ty} (hk : Sm k) (hp : PlaceOk pl1 k) : RtOk (standF pl1 pl2 c) opsF (.tup [.str "op", .str "less", .tup [.str "x", .str "y"]]) [k, k] :=
  rt_vals (names := [.str "x", .str "y"]) (sm2 hk hk) (fun w => by rfl) rfl (by simp) (by simp) (at0 _ _) k_op fun vs h => by
    obtain ⟨x, y, e, hx, hy⟩ := in2 h
    subst e
    exact value_op (at0 _ _) (at1 _ _ _) (op_comp (by decide +kernel) (by decide +kernel) (by decide +kernel) (by decide +kernel) (by decide +kernel) (by decide +kernel) (comp_less hp hx hy))
theorem tab_all {ts : List Ty} (hs : ∀ t ∈ ts, Sm t) (hp : ∀ t, Sm t → PlaceOk pl2 t) (hc : ∀ t, Sm t → CountOk c t) : ∀ {vs : List D}, All2 (fun (t : Ty) d => d ∈ t.vals) ts vs → All2 (fun (t : Ty) d => t.small ∧ PlaceOk pl2 t ∧ CountOk c t ∧ d ∈ t.vals) ts vs := by
  intro vs h
  induction h with
  | nil => exact .nil
  | cons h _ ih =>
    have q := hs _ List.mem_cons_self
    exact .cons ⟨q.1, hp _ q, hc _ q, h⟩ (ih fun t ht => hs t (List.mem_cons_of_mem _ ht))
theorem rt_table {K : D} {ts : List Ty} {rs names : List D} (hs : ∀ t ∈ ts, Sm t) (hp : ∀ t, Sm t → PlaceOk pl2 t) (hc : ∀ t, Sm t → CountOk c t) (hl : (rs.length : Int) = prodT ts) (hr : ∀ d ∈ rs, dat 50 d = true) (h1 : 1 ≤ ts.length) (h3 : ts.length ≤ 3) (hn : names.length = ts.length)
    (ho : ∀ w, opsF [.tup [.str "table", K, .tup rs, .tup names]] w = some (.ok (.tup names) w)) : RtOk (standF pl1 pl2 c) opsF (.tup [.str "table", K, .tup rs, .tup names]) ts :=
  rt_vals (names := names) hs ho hn h1 (by omega) (at0 _ _) k_table fun vs h => value_tab (at0 _ _) (at2 _ _ _ _) (tab_tells (tab_all hs hp hc h) hl hr)
end
end DL
set_option Elab.async false
set_option linter.all false
set_option maxRecDepth 100000
set_option maxHeartbeats 4000001
/-! DLXJ: right sides drawn. -/
namespace DL
open PySem PyProof.Rows PySem.Spec L2 RZ StX
def drA (dt cp cv dv : Fn1) : M Fl := (mAsg (mTup (mCons (mTup (mCons (ret (.str "lot")) (mCons (mTup (mCons (ret (.str "no")) (mCons (ret (.str "yes")) mNil))) mNil))) (mCons (mTup (mCons (ret (.str "lot")) (mCons (mTup (mCons (ret (.str "c")) (mCons (ret (.str "a")) (mCons (ret (.str "b")) mNil)))) mNil))) mNil))) (bTup 2 (bCons (bName 1) (bCons (bName 2) bNil))))
def drB (dt cp cv dv : Fn1) : M Fl := (mPar 3 4 (mCons (mCall 1 dt (mCons (getS 0) mNil)) (mCons (mCall 1 dt (mCons (getS 0) mNil)) mNil)))
def drC (dt cp cv dv : Fn1) : M Fl := (mAsg (mTup (mCons (mTup (mCons (ret (.str "pair")) (mCons (getS 3) (mCons (getS 4) mNil)))) (mCons (mCall 2 cp (mCons (getS 0) (mCons (ret (.int 16)) mNil))) mNil))) (bTup 2 (bCons (bName 5) (bCons (bName 6) bNil))))
def drOp (dt cp cv dv : Fn1) : M Fl := (mIte (mBinT ltD (getS 6) (ret (.int 6))) (mSeq (mSet 7 (mLst (mCons (mTup (mCons (ret (.str "not")) (mCons (mLst (mCons (getS 1) mNil)) mNil))) (mCons (mTup (mCons (ret (.str "and")) (mCons (mBin mulD (mLst (mCons (getS 1) mNil)) (ret (.int 2))) mNil))) (mCons (mTup (mCons (ret (.str "or")) (mCons (mBin mulD (mLst (mCons (getS 1) mNil)) (ret (.int 2))) mNil))) (mCons (mTup (mCons (ret (.str "first")) (mCons (mLst (mCons (getS 5) mNil)) mNil))) (mCons (mTup (mCons (ret (.str "second")) (mCons (mLst (mCons (getS 5) mNil)) mNil))) mNil))))))) (mSeq (mAsg (mBin ixD (mBin addD (getS 7) (mLst (mCons (mTup (mCons (ret (.str "pair")) (mCons (mLst (mCons (getS 3) (mCons (getS 4) mNil))) mNil))) mNil))) (getS 6)) (bTup 2 (bCons (bName 8) (bCons (bName 9) bNil)))) (mRet (mTup (mCons (mTup (mCons (ret (.str "op")) (mCons (getS 8) (mCons (mSl (mTup (mCons (ret (.str "x")) (mCons (ret (.str "y")) mNil))) (ret none) (bnd (bnd (mCons (getS 9) mNil) fun ds => lft (lenD ds)) (kInt fun i => ret (some i)))) mNil)))) (mCons (getS 9) mNil)))))) (ret .nx))
def drCmp (dt cp cv dv : Fn1) : M Fl := (mIte (mBinT ltD (getS 6) (ret (.int 9))) (mSeq (mSet 10 (mTup (mCons (ret (.str "count")) (mCons (mBin addD (ret (.int 2)) (mCall 2 cp (mCons (getS 0) (mCons (ret (.int 5)) mNil)))) mNil)))) (mSeq (mSet 11 (mBin ixD (mLst (mCons (getS 3) (mCons (mBin ixD (mLst (mCons (getS 3) (mCons (getS 2) (mCons (getS 5) mNil)))) (mCall 2 cp (mCons (getS 0) (mCons (ret (.int 3)) mNil)))) (mCons (getS 10) mNil)))) (mBin subD (getS 6) (ret (.int 6))))) (mRet (mTup (mCons (mTup (mCons (ret (.str "op")) (mCons (mBin ixD (mLst (mCons (ret (.str "same")) (mCons (ret (.str "less")) (mCons (ret (.str "plus")) mNil)))) (mBin subD (getS 6) (ret (.int 6)))) (mCons (mTup (mCons (ret (.str "x")) (mCons (ret (.str "y")) mNil))) mNil)))) (mCons (mLst (mCons (getS 11) (mCons (getS 11) mNil))) mNil)))))) (ret .nx))
def drTab (dt cp cv dv : Fn1) : M Fl := (mIte (mBinT eqD (getS 6) (ret (.int 9))) (mSeq (mSet 9 (mSl (mLst (mCons (getS 2) (mCons (getS 3) (mCons (getS 4) mNil)))) (ret none) (bnd (mBin addD (ret (.int 1)) (mCall 2 cp (mCons (getS 0) (mCons (ret (.int 3)) mNil)))) (kInt fun i => ret (some i))))) (mSeq (mSet 12 (ret (.int 1))) (mSeq (mFor (bnd (getS 9) fun d => lft (itemsD d)) (bName 11) (mSet 12 (mBin mulD (getS 12) (bnd (mCons (mCall 1 cv (mCons (getS 11) mNil)) mNil) fun ds => lft (lenD ds))))) (mSeq (mSet 13 (bnd (mCons (mLc [14] (bnd (mCons (getS 12) mNil) fun ds => lft (rng1 ds)) (bName 14) (ret true) (mCall 2 dv (mCons (getS 0) (mCons (getS 5) mNil)))) mNil) fun ds => lft (tupleD ds))) (mRet (mTup (mCons (mTup (mCons (ret (.str "table")) (mCons (getS 5) (mCons (getS 13) (mCons (mSl (mTup (mCons (ret (.str "x")) (mCons (ret (.str "y")) (mCons (ret (.str "z")) mNil)))) (ret none) (bnd (bnd (mCons (getS 9) mNil) fun ds => lft (lenD ds)) (kInt fun i => ret (some i)))) mNil))))) (mCons (getS 9) mNil)))))))) (ret .nx))
def drConst (dt cp cv dv : Fn1) : M Fl := (mIte (mBinT eqD (getS 6) (ret (.int 10))) (mRet (mTup (mCons (mTup (mCons (ret (.str "const")) (mCons (getS 3) (mCons (mCall 2 dv (mCons (getS 0) (mCons (getS 3) mNil))) (mCons (ret (.str "x")) mNil))))) (mCons (mLst (mCons (getS 4) mNil)) mNil)))) (ret .nx))
def drHeld (dt cp cv dv : Fn1) : M Fl := (mIte (mBinT eqD (getS 6) (ret (.int 11))) (mRet (mTup (mCons (mTup (mCons (ret (.str "held")) (mCons (getS 3) (mCons (mCall 2 dv (mCons (getS 0) (mCons (getS 3) mNil))) (mCons (ret (.str "x")) (mCons (ret (.str "y")) (mCons (mTup (mCons (mTup (mCons (ret (.str "z")) (mCons (ret (.str "yes")) mNil))) mNil)) mNil))))))) (mCons (mLst (mCons (getS 3) (mCons (getS 4) mNil))) mNil)))) (ret .nx))
def drWhen (dt cp cv dv : Fn1) : M Fl := (mIte (mBinT eqD (getS 6) (ret (.int 12))) (mRet (mTup (mCons (mTup (mCons (ret (.str "when")) (mCons (ret (.str "x")) (mCons (ret (.str "y")) (mCons (mBin ixD (mLst (mCons (ret (.str "c")) (mCons (ret (.str "a")) (mCons (ret (.str "b")) mNil)))) (mCall 2 cp (mCons (getS 0) (mCons (ret (.int 3)) mNil)))) mNil))))) (mCons (mLst (mCons (getS 3) (mCons (getS 2) mNil))) mNil)))) (ret .nx))
def drChoose (dt cp cv dv : Fn1) : M Fl := (mIte (mBinT eqD (getS 6) (ret (.int 13))) (mRet (mTup (mCons (mTup (mCons (ret (.str "choose")) (mCons (ret (.str "x")) (mCons (mTup (mCons (ret (.str "y")) (mCons (ret (.str "z")) (mCons (ret (.str "w")) mNil)))) mNil)))) (mCons (mLst (mCons (getS 2) (mCons (getS 3) (mCons (getS 3) (mCons (getS 3) mNil))))) mNil)))) (ret .nx))
def drAs (dt cp cv dv : Fn1) : M Fl := (mIte (mBinT eqD (getS 6) (ret (.int 14))) (mRet (mTup (mCons (mTup (mCons (ret (.str "as")) (mCons (ret (.str "x.y")) mNil))) (mCons (mLst (mCons (getS 3) mNil)) mNil)))) (ret .nx))
def drArg (dt cp cv dv : Fn1) : M Fl := (mRet (mTup (mCons (mTup (mCons (ret (.str "arg")) (mCons (mSl (mTup (mCons (ret (.str "x")) (mCons (ret (.str "y")) (mCons (ret (.str "z")) mNil)))) (ret none) (bnd (mBin addD (ret (.int 2)) (mCall 2 cp (mCons (getS 0) (mCons (ret (.int 2)) mNil)))) (kInt fun i => ret (some i)))) (mCons (mCall 2 cp (mCons (getS 0) (mCons (ret (.int 2)) mNil))) mNil)))) (mCons (mLst (mCons (getS 3) (mCons (getS 4) (mCons (getS 2) mNil)))) mNil))))
def drawRM (dt cp cv dv : Fn1) : M Fl := mSeq (drA dt cp cv dv) (mSeq (drB dt cp cv dv) (mSeq (drC dt cp cv dv) (mSeq (drOp dt cp cv dv) (mSeq (drCmp dt cp cv dv) (mSeq (drTab dt cp cv dv) (mSeq (drConst dt cp cv dv) (mSeq (drHeld dt cp cv dv) (mSeq (drWhen dt cp cv dv) (mSeq (drChoose dt cp cv dv) (mSeq (drAs dt cp cv dv) (drArg dt cp cv dv)))))))))))
/-- the frame once the road is drawn -/
def dF (sa : Addr) (one other : Ty) (k : Nat) : Rho := [.val (.raw (.ref sa)), .val tyYN.d, .val tyW.d, .val one.d, .val other.d, .val (Ty.pair one other).d, .val (.int (k : Nat)), .free, .free, .free, .free, .free, .free, .free, .free]
/-- what a road gives from that frame -/
def Road (sa ca : Addr) (so oo : Fn1) (m : M Fl) (ρ : Rho) : Prop := ∀ s, Sok sa ca s → ∃ R ts s' ρ', Sok sa ca s' ∧ RtOk so oo R ts ∧ m ρ (some s) = some (.ok (.rt (.tup [R, .lst (ts.map Ty.d)])) ρ' (some s'))
theorem Road.pass {sa ca : Addr} {so oo : Fn1} {mc : M Bool} {m k : M Fl} {ρ : Rho} (h : ∀ w, mc ρ w = some (.ok false ρ w)) (g : Road sa ca so oo k ρ) : Road sa ca so oo (mSeq (mIte mc m (ret .nx)) k) ρ := fun s hs => by
  obtain ⟨R, ts, s', ρ', a, b, e⟩ := g s hs
  exact ⟨R, ts, s', ρ', a, b, (seq_if_no (h _)).trans e⟩
theorem Road.take {sa ca : Addr} {so oo : Fn1} {mc : M Bool} {m k : M Fl} {ρ : Rho} (h : ∀ w, mc ρ w = some (.ok true ρ w)) (g : Road sa ca so oo m ρ) : Road sa ca so oo (mSeq (mIte mc m (ret .nx)) k) ρ := fun s hs => by
  obtain ⟨R, ts, s', ρ', a, b, e⟩ := g s hs
  exact ⟨R, ts, s', ρ', a, b, seq_rt ((ite_run (h _)).trans e)⟩
theorem Base.sm {t : Ty} (h : Base t) : Sm t := ⟨h.small.1, by rw [h.small.2.2]; decide⟩
theorem Base.pair {a b : Ty} (ha : Base a) (hb : Base b) : Sm (.pair a b) := by
  have h1 := ha.small
  have h2 := hb.small
  have m1 := (a.many_le h1.1).1
  have m2 := (b.many_le h2.1).1
  refine ⟨⟨h1.1, h2.1, ?_⟩, ?_⟩
  · have := Int.mul_le_mul h1.2.1 h2.2.1 (by omega) (by decide)
    omega
  · show max a.deep b.deep + 1 ≤ 2
    rw [h1.2.2, h2.2.2]
    decide
section
variable {sa ca : Addr} {dt cp cv dv pl1 pl2 c : Fn1} {one other : Ty}
theorem road_const (h1 : Base one) (h2 : Base other) (hd : Gives sa ca dv [.raw (.ref sa), one.d] fun d => d ∈ one.vals) (k : Nat) : Road sa ca (standF pl1 pl2 c) opsF (mRet (mTup (mCons (mTup (mCons (ret (.str "const")) (mCons (getS 3) (mCons (mCall 2 dv (mCons (getS 0) (mCons (getS 3) mNil))) (mCons (ret (.str "x")) mNil))))) (mCons (mLst (mCons (getS 4) mNil)) mNil)))) (dF sa one other k) := fun s hs => by
  obtain ⟨v, s1, k1, hv, e⟩ := hd s hs
  refine ⟨_, [other], s1, dF sa one other k, k1, rt_const h1.sm h2.sm hv, ret_ok ?_⟩
  have e2 : mTup (mCons (ret (.str "const")) (mCons (getS 3) (mCons (mCall 2 dv (mCons (getS 0) (mCons (getS 3) mNil))) (mCons (ret (.str "x")) mNil)))) (dF sa one other k) (some s) = some (.ok (.tup [.str "const", one.d, v, .str "x"]) (dF sa one other k) (some s1)) := by
    unfold mTup
    rw [bnd_ok (cons_ok (d := .str "const") (ρ1 := dF sa one other k) (w1 := some s) rfl (cons_ok (d := one.d) (ρ1 := dF sa one other k) (w1 := some s) rfl (cons_ok (call2 (ρ1 := dF sa one other k) (ρ2 := dF sa one other k) rfl rfl e) rfl)))]
    rfl
  unfold mTup
  unfold mTup at e2
  rw [bnd_ok (cons_ok e2 rfl)]
  rfl
theorem road_held (h1 : Base one) (h2 : Base other) (hd : Gives sa ca dv [.raw (.ref sa), one.d] fun d => d ∈ one.vals) (k : Nat) : Road sa ca (standF pl1 pl2 c) opsF (mRet (mTup (mCons (mTup (mCons (ret (.str "held")) (mCons (getS 3) (mCons (mCall 2 dv (mCons (getS 0) (mCons (getS 3) mNil))) (mCons (ret (.str "x")) (mCons (ret (.str "y")) (mCons (mTup (mCons (mTup (mCons (ret (.str "z")) (mCons (ret (.str "yes")) mNil))) mNil)) mNil))))))) (mCons (mLst (mCons (getS 3) (mCons (getS 4) mNil))) mNil)))) (dF sa one other k) := fun s hs => by
  obtain ⟨v, s1, k1, hv, e⟩ := hd s hs
  refine ⟨_, [one, other], s1, dF sa one other k, k1, rt_held h1.sm h2.sm v (.tup [.tup [.str "z", .str "yes"]]), ret_ok ?_⟩
  have e2 : mTup (mCons (ret (.str "held")) (mCons (getS 3) (mCons (mCall 2 dv (mCons (getS 0) (mCons (getS 3) mNil))) (mCons (ret (.str "x")) (mCons (ret (.str "y")) (mCons (mTup (mCons (mTup (mCons (ret (.str "z")) (mCons (ret (.str "yes")) mNil))) mNil)) mNil)))))) (dF sa one other k) (some s) = some (.ok (.tup [.str "held", one.d, v, .str "x", .str "y", .tup [.tup [.str "z", .str "yes"]]]) (dF sa one other k) (some s1)) := by
    unfold mTup
    rw [bnd_ok (cons_ok (d := .str "held") (ρ1 := dF sa one other k) (w1 := some s) rfl (cons_ok (d := one.d) (ρ1 := dF sa one other k) (w1 := some s) rfl (cons_ok (call2 (ρ1 := dF sa one other k) (ρ2 := dF sa one other k) rfl rfl e) rfl)))]
    rfl
  unfold mTup
  unfold mTup at e2
  rw [bnd_ok (cons_ok e2 rfl)]
  rfl
theorem road_choose (h1 : Base one) (k : Nat) : Road sa ca (standF pl1 pl2 c) opsF (mRet (mTup (mCons (mTup (mCons (ret (.str "choose")) (mCons (ret (.str "x")) (mCons (mTup (mCons (ret (.str "y")) (mCons (ret (.str "z")) (mCons (ret (.str "w")) mNil)))) mNil)))) (mCons (mLst (mCons (getS 2) (mCons (getS 3) (mCons (getS 3) (mCons (getS 3) mNil))))) mNil)))) (dF sa one other k) := fun s hs =>
  ⟨_, [tyW, one, one, one], s, dF sa one other k, hs, rt_choose h1.sm, rfl⟩
theorem road_as (h1 : Base one) (k : Nat) : Road sa ca (standF pl1 pl2 c) opsF (mRet (mTup (mCons (mTup (mCons (ret (.str "as")) (mCons (ret (.str "x.y")) mNil))) (mCons (mLst (mCons (getS 3) mNil)) mNil)))) (dF sa one other k) := fun s hs =>
  ⟨_, [one], s, dF sa one other k, hs, rt_as h1.sm, rfl⟩
theorem road_when (hp : PickOk sa ca cp) (h1 : Base one) (k : Nat) : Road sa ca (standF pl1 pl2 c) opsF (mRet (mTup (mCons (mTup (mCons (ret (.str "when")) (mCons (ret (.str "x")) (mCons (ret (.str "y")) (mCons (mBin ixD (mLst (mCons (ret (.str "c")) (mCons (ret (.str "a")) (mCons (ret (.str "b")) mNil)))) (mCall 2 cp (mCons (getS 0) (mCons (ret (.int 3)) mNil)))) mNil))))) (mCons (mLst (mCons (getS 3) (mCons (getS 2) mNil))) mNil)))) (dF sa one other k) := fun s hs => by
  obtain ⟨d, s1, k1, ⟨j, ej, hj⟩, e⟩ := hp 3 (by decide) s hs
  subst ej
  have lj : j < 3 := by omega
  obtain ⟨z, hz⟩ : ∃ z, ixD (.lst [.str "c", .str "a", .str "b"]) (.int (j : Nat)) = some (.str z) := by
    match j, lj with
    | 0, _ => exact ⟨_, atI_nat (j := 0) rfl⟩
    | 1, _ => exact ⟨_, atI_nat (j := 1) rfl⟩
    | 2, _ => exact ⟨_, atI_nat (j := 2) rfl⟩
  refine ⟨_, [one, tyW], s1, dF sa one other k, k1, rt_when h1.sm z, ret_ok ?_⟩
  have e1 : mBin ixD (mLst (mCons (ret (.str "c")) (mCons (ret (.str "a")) (mCons (ret (.str "b")) mNil)))) (mCall 2 cp (mCons (getS 0) (mCons (ret (.int 3)) mNil))) (dF sa one other k) (some s) = some (.ok (.str z) (dF sa one other k) (some s1)) :=
    bin_ok (a := .lst [.str "c", .str "a", .str "b"]) (b := .int (j : Nat)) (ρ1 := dF sa one other k) (w1 := some s) rfl (call2 (ρ1 := dF sa one other k) (ρ2 := dF sa one other k) (a := .raw (.ref sa)) (b := .int 3) rfl rfl e) hz
  have e2 : mTup (mCons (ret (.str "when")) (mCons (ret (.str "x")) (mCons (ret (.str "y")) (mCons (mBin ixD (mLst (mCons (ret (.str "c")) (mCons (ret (.str "a")) (mCons (ret (.str "b")) mNil)))) (mCall 2 cp (mCons (getS 0) (mCons (ret (.int 3)) mNil)))) mNil)))) (dF sa one other k) (some s) = some (.ok (.tup [.str "when", .str "x", .str "y", .str z]) (dF sa one other k) (some s1)) := by
    unfold mTup
    rw [bnd_ok (cons_ok (d := .str "when") (ρ1 := dF sa one other k) (w1 := some s) rfl (cons_ok (d := .str "x") (ρ1 := dF sa one other k) (w1 := some s) rfl (cons_ok (d := .str "y") (ρ1 := dF sa one other k) (w1 := some s) rfl (cons_ok e1 rfl))))]
    rfl
  unfold mTup
  unfold mTup at e2
  rw [bnd_ok (cons_ok e2 rfl)]
  rfl
end
end DL
set_option Elab.async false
set_option linter.all false
set_option maxRecDepth 100000
set_option maxHeartbeats 4000001
/-! DLXK: roads of ops and of arguments. -/
namespace DL
open PySem PyProof.Rows PySem.Spec L2 RZ StX
/-- what an op's branch runs -/
def opB : M Fl := (mSeq (mSet 7 (mLst (mCons (mTup (mCons (ret (.str "not")) (mCons (mLst (mCons (getS 1) mNil)) mNil))) (mCons (mTup (mCons (ret (.str "and")) (mCons (mBin mulD (mLst (mCons (getS 1) mNil)) (ret (.int 2))) mNil))) (mCons (mTup (mCons (ret (.str "or")) (mCons (mBin mulD (mLst (mCons (getS 1) mNil)) (ret (.int 2))) mNil))) (mCons (mTup (mCons (ret (.str "first")) (mCons (mLst (mCons (getS 5) mNil)) mNil))) (mCons (mTup (mCons (ret (.str "second")) (mCons (mLst (mCons (getS 5) mNil)) mNil))) mNil))))))) (mSeq (mAsg (mBin ixD (mBin addD (getS 7) (mLst (mCons (mTup (mCons (ret (.str "pair")) (mCons (mLst (mCons (getS 3) (mCons (getS 4) mNil))) mNil))) mNil))) (getS 6)) (bTup 2 (bCons (bName 8) (bCons (bName 9) bNil)))) (mRet (mTup (mCons (mTup (mCons (ret (.str "op")) (mCons (getS 8) (mCons (mSl (mTup (mCons (ret (.str "x")) (mCons (ret (.str "y")) mNil))) (ret none) (bnd (bnd (mCons (getS 9) mNil) fun ds => lft (lenD ds)) (kInt fun i => ret (some i)))) mNil)))) (mCons (getS 9) mNil))))))
def argB (cp : Fn1) : M Fl := (mRet (mTup (mCons (mTup (mCons (ret (.str "arg")) (mCons (mSl (mTup (mCons (ret (.str "x")) (mCons (ret (.str "y")) (mCons (ret (.str "z")) mNil)))) (ret none) (bnd (mBin addD (ret (.int 2)) (mCall 2 cp (mCons (getS 0) (mCons (ret (.int 2)) mNil)))) (kInt fun i => ret (some i)))) (mCons (mCall 2 cp (mCons (getS 0) (mCons (ret (.int 2)) mNil))) mNil)))) (mCons (mLst (mCons (getS 3) (mCons (getS 4) (mCons (getS 2) mNil)))) mNil))))
theorem sl_ok {m : M D} {mh : M (Option Int)} {ρ ρ1 ρ2 : Rho} {w w1 w2 : Wo} {x d : D} {h : Option Int} (e : m ρ w = some (.ok x ρ1 w1)) (g : mh ρ1 w1 = some (.ok h ρ2 w2)) (q : slD none h x = some d) : mSl m (ret none) mh ρ w = some (.ok d ρ2 w2) := by
  unfold mSl
  rw [bnd_ok e, bnd_ok (a := none) (ρ' := ρ1) (w' := w1) rfl, bnd_ok g, q]
  rfl
theorem int_ok {m : M D} {ρ ρ1 : Rho} {w w1 : Wo} {i : Int} (e : m ρ w = some (.ok (.int i) ρ1 w1)) : bnd m (kInt fun i => ret (some i)) ρ w = some (.ok (some i) ρ1 w1) := by
  rw [bnd_ok e]
  rfl
section
variable {sa ca : Addr} {dt cp cv dv pl1 pl2 c : Fn1} {one other : Ty}
theorem road_op (h1 : Base one) (h2 : Base other) : ∀ k < 6, Road sa ca (standF pl1 pl2 c) opsF opB (dF sa one other k)
  | 0, _ => fun s hs => ⟨_, [tyYN], s, _, hs, rt_not, rfl⟩
  | 1, _ => fun s hs => ⟨_, [tyYN, tyYN], s, _, hs, rt_and, rfl⟩
  | 2, _ => fun s hs => ⟨_, [tyYN, tyYN], s, _, hs, rt_or, rfl⟩
  | 3, _ => fun s hs => ⟨_, [.pair one other], s, _, hs, rt_first (Base.pair h1 h2), rfl⟩
  | 4, _ => fun s hs => ⟨_, [.pair one other], s, _, hs, rt_second (Base.pair h1 h2), rfl⟩
  | 5, _ => fun s hs => ⟨_, [one, other], s, _, hs, rt_pair h1.sm h2.sm, rfl⟩
  | k + 6, h => absurd h (by omega)
theorem pick2 {j : Nat} (lj : j < 2) : j = 0 ∨ j = 1 := by omega
theorem road_arg (hp : PickOk sa ca cp) (h1 : Base one) (h2 : Base other) (k : Nat) : Road sa ca (standF pl1 pl2 c) opsF (argB cp) (dF sa one other k) := fun s hs => by
  obtain ⟨d, s1, k1, ⟨j, ej, hj⟩, e⟩ := hp 2 (by decide) s hs
  obtain ⟨d2, s2, k2, ⟨i, ei, hi⟩, e2⟩ := hp 2 (by decide) s1 k1
  subst ej ei
  have li : i < 2 := by omega
  have lj : j < 2 := by omega
  have c1 : mCall 2 cp (mCons (getS 0) (mCons (ret (.int 2)) mNil)) (dF sa one other k) (some s) = some (.ok (.int (j : Nat)) (dF sa one other k) (some s1)) := call2 (ρ1 := dF sa one other k) (ρ2 := dF sa one other k) (a := .raw (.ref sa)) (b := .int 2) rfl rfl e
  have c2 : mCall 2 cp (mCons (getS 0) (mCons (ret (.int 2)) mNil)) (dF sa one other k) (some s1) = some (.ok (.int (i : Nat)) (dF sa one other k) (some s2)) := call2 (ρ1 := dF sa one other k) (ρ2 := dF sa one other k) (a := .raw (.ref sa)) (b := .int 2) rfl rfl e2
  have names : ∃ ns, (ns = [D.str "x", .str "y"] ∨ ns = [D.str "x", .str "y", .str "z"]) ∧ mSl (mTup (mCons (ret (.str "x")) (mCons (ret (.str "y")) (mCons (ret (.str "z")) mNil)))) (ret none) (bnd (mBin addD (ret (.int 2)) (mCall 2 cp (mCons (getS 0) (mCons (ret (.int 2)) mNil)))) (kInt fun i => ret (some i))) (dF sa one other k) (some s) = some (.ok (.tup ns) (dF sa one other k) (some s1)) := by
    have b1 : mBin addD (ret (.int 2)) (mCall 2 cp (mCons (getS 0) (mCons (ret (.int 2)) mNil))) (dF sa one other k) (some s) = some (.ok (.int (2 + (j : Nat))) (dF sa one other k) (some s1)) := bin_ok (a := .int 2) (b := .int (j : Nat)) (ρ1 := dF sa one other k) (w1 := some s) rfl c1 rfl
    rcases pick2 lj with e | e <;> subst e
    · exact ⟨_, .inl rfl, sl_ok (x := .tup [.str "x", .str "y", .str "z"]) (ρ1 := dF sa one other k) (w1 := some s) rfl (int_ok b1) rfl⟩
    · exact ⟨_, .inr rfl, sl_ok (x := .tup [.str "x", .str "y", .str "z"]) (ρ1 := dF sa one other k) (w1 := some s) rfl (int_ok b1) rfl⟩
  obtain ⟨ns, hn, en⟩ := names
  refine ⟨_, [one, other, tyW], s2, dF sa one other k, k2, rt_arg h1.sm h2.sm hn li, ?_⟩
  have e3 : mTup (mCons (ret (.str "arg")) (mCons (mSl (mTup (mCons (ret (.str "x")) (mCons (ret (.str "y")) (mCons (ret (.str "z")) mNil)))) (ret none) (bnd (mBin addD (ret (.int 2)) (mCall 2 cp (mCons (getS 0) (mCons (ret (.int 2)) mNil)))) (kInt fun i => ret (some i)))) (mCons (mCall 2 cp (mCons (getS 0) (mCons (ret (.int 2)) mNil))) mNil))) (dF sa one other k) (some s) = some (.ok (.tup [.str "arg", .tup ns, .int (i : Nat)]) (dF sa one other k) (some s2)) := by
    unfold mTup
    unfold mTup at en
    rw [bnd_ok (cons_ok (d := .str "arg") (ρ1 := dF sa one other k) (w1 := some s) rfl (cons_ok en (cons_ok c2 rfl)))]
    rfl
  unfold argB
  refine ret_ok ?_
  unfold mTup
  unfold mTup at e3
  rw [bnd_ok (cons_ok e3 rfl)]
  rfl
end
end DL
set_option Elab.async false
set_option linter.all false
set_option maxRecDepth 100000
set_option maxHeartbeats 4000001
/-! DLXL: roads of comparisons. -/
namespace DL
open PySem PyProof.Rows PySem.Spec L2 RZ StX
def cmpB (cp : Fn1) : M Fl := (mSeq (mSet 10 (mTup (mCons (ret (.str "count")) (mCons (mBin addD (ret (.int 2)) (mCall 2 cp (mCons (getS 0) (mCons (ret (.int 5)) mNil)))) mNil)))) (mSeq (mSet 11 (mBin ixD (mLst (mCons (getS 3) (mCons (mBin ixD (mLst (mCons (getS 3) (mCons (getS 2) (mCons (getS 5) mNil)))) (mCall 2 cp (mCons (getS 0) (mCons (ret (.int 3)) mNil)))) (mCons (getS 10) mNil)))) (mBin subD (getS 6) (ret (.int 6))))) (mRet (mTup (mCons (mTup (mCons (ret (.str "op")) (mCons (mBin ixD (mLst (mCons (ret (.str "same")) (mCons (ret (.str "less")) (mCons (ret (.str "plus")) mNil)))) (mBin subD (getS 6) (ret (.int 6)))) (mCons (mTup (mCons (ret (.str "x")) (mCons (ret (.str "y")) mNil))) mNil)))) (mCons (mLst (mCons (getS 11) (mCons (getS 11) mNil))) mNil))))))
theorem lst_ok {ms : M (List D)} {ρ ρ1 : Rho} {w w1 : Wo} {ds : List D} (h : ms ρ w = some (.ok ds ρ1 w1)) (hl : ds.length.ble 100000 = true := by rfl) : mLst ms ρ w = some (.ok (.lst ds) ρ1 w1) := by
  unfold mLst
  rw [bnd_ok h, if_pos (Nat.le_of_ble_eq_true hl)]
  rfl
theorem tup_ok {ms : M (List D)} {ρ ρ1 : Rho} {w w1 : Wo} {ds : List D} (h : ms ρ w = some (.ok ds ρ1 w1)) (hl : ds.length.ble 100000 = true := by rfl) : mTup ms ρ w = some (.ok (.tup ds) ρ1 w1) := by
  unfold mTup
  rw [bnd_ok h, if_pos (Nat.le_of_ble_eq_true hl)]
  rfl
section
variable {sa ca : Addr} {dt cp cv dv pl1 pl2 c : Fn1} {one other : Ty}
theorem road_cmp (hp : PickOk sa ca cp) (hpl : ∀ t, Sm t → PlaceOk pl1 t) (h1 : Base one) (h2 : Base other) (q : Nat) (lq : q < 3) : Road sa ca (standF pl1 pl2 c) opsF (cmpB cp) (dF sa one other (6 + q)) := fun s hs => by
  obtain ⟨d, s1, k1, ⟨j, ej, hj⟩, e⟩ := hp 5 (by decide) s hs
  obtain ⟨d2, s2, k2, ⟨i, ei, hi⟩, e2⟩ := hp 3 (by decide) s1 k1
  subst ej ei
  have li : i < 3 := by omega
  have lj : j < 5 := by omega
  let ρ0 := dF sa one other (6 + q)
  let C : Ty := .cnt (2 + (j : Nat))
  let ρ1 := ρ0.set 10 (.val C.d)
  have p1 : mSet 10 (mTup (mCons (ret (.str "count")) (mCons (mBin addD (ret (.int 2)) (mCall 2 cp (mCons (getS 0) (mCons (ret (.int 5)) mNil)))) mNil))) ρ0 (some s) = some (.ok .nx ρ1 (some s1)) :=
    set_ok (tup_ok (cons_ok (d := .str "count") (ρ1 := ρ0) (w1 := some s) rfl (cons_ok (bin_ok (a := .int 2) (b := .int (j : Nat)) (ρ1 := ρ0) (w1 := some s) rfl (call2 (ρ1 := ρ0) (ρ2 := ρ0) (a := .raw (.ref sa)) (b := .int 5) rfl rfl e) rfl) rfl)))
  obtain ⟨U, hU, eU⟩ : ∃ U : Ty, Sm U ∧ ixD (.lst [one.d, tyW.d, (Ty.pair one other).d]) (.int (i : Nat)) = some U.d := by
    match i, li with
    | 0, _ => exact ⟨one, h1.sm, atI_nat (j := 0) rfl⟩
    | 1, _ => exact ⟨tyW, tyW_ok, atI_nat (j := 1) rfl⟩
    | 2, _ => exact ⟨.pair one other, Base.pair h1 h2, atI_nat (j := 2) rfl⟩
  have p2 : mLst (mCons (getS 3) (mCons (mBin ixD (mLst (mCons (getS 3) (mCons (getS 2) (mCons (getS 5) mNil)))) (mCall 2 cp (mCons (getS 0) (mCons (ret (.int 3)) mNil)))) (mCons (getS 10) mNil))) ρ1 (some s1) = some (.ok (.lst [one.d, U.d, C.d]) ρ1 (some s2)) :=
    lst_ok (cons_ok (d := one.d) (ρ1 := ρ1) (w1 := some s1) rfl (cons_ok (bin_ok (a := .lst [one.d, tyW.d, (Ty.pair one other).d]) (b := .int (i : Nat)) (ρ1 := ρ1) (w1 := some s1) rfl (call2 (ρ1 := ρ1) (ρ2 := ρ1) (a := .raw (.ref sa)) (b := .int 3) rfl rfl e2) eU) rfl))
  obtain ⟨T, z, hT, eT, eR⟩ : ∃ (T : Ty) (z : Str), RtOk (standF pl1 pl2 c) opsF (.tup [.str "op", .str z, .tup [.str "x", .str "y"]]) [T, T] ∧ ixD (.lst [one.d, U.d, C.d]) (.int (q : Nat)) = some T.d ∧ ixD (.lst [.str "same", .str "less", .str "plus"]) (.int (q : Nat)) = some (.str z) := by
    match q, lq with
    | 0, _ => exact ⟨one, _, rt_same h1.sm, atI_nat (j := 0) rfl, atI_nat (j := 0) rfl⟩
    | 1, _ => exact ⟨U, _, rt_less hU (hpl U hU), atI_nat (j := 1) rfl, atI_nat (j := 1) rfl⟩
    | 2, _ => exact ⟨C, _, rt_plus (by omega) (by omega), atI_nat (j := 2) rfl, atI_nat (j := 2) rfl⟩
  have es : subD (.int ((6 + q : Nat) : Int)) (.int 6) = some (.int (q : Nat)) := by
    show some (D.int (((6 + q : Nat) : Int) - 6)) = _
    congr 2
    omega
  let ρ2 := ρ1.set 11 (.val T.d)
  have p3 : ∀ {ρ : Rho} {w : Wo}, getS 6 ρ w = some (.ok (.int ((6 + q : Nat) : Int)) ρ w) → mBin subD (getS 6) (ret (.int 6)) ρ w = some (.ok (.int (q : Nat)) ρ w) := fun {ρ w} h => bin_ok (b := .int 6) (ρ1 := ρ) (w1 := w) h rfl es
  have p4 := set_ok (i := 11) (bin_ok p2 (p3 (ρ := ρ1) (w := some s2) rfl) eT)
  refine ⟨_, [T, T], s2, ρ2, k2, hT, ?_⟩
  unfold cmpB
  refine (seq_nx p1).trans ((seq_nx p4).trans (ret_ok ?_))
  exact tup_ok (cons_ok (tup_ok (cons_ok (d := .str "op") (ρ1 := ρ2) (w1 := some s2) rfl (cons_ok (bin_ok (a := .lst [.str "same", .str "less", .str "plus"]) (ρ1 := ρ2) (w1 := some s2) rfl (p3 (ρ := ρ2) (w := some s2) rfl) eR) rfl))) rfl)
end
end DL
set_option Elab.async false
set_option linter.all false
set_option maxRecDepth 100000
set_option maxHeartbeats 4000001
/-! DLXM: the road of tables. -/
namespace DL
open PySem PyProof.Rows PySem.Spec L2 RZ StX
def tblB (cp cv dv : Fn1) : M Fl := (mSeq (mSet 9 (mSl (mLst (mCons (getS 2) (mCons (getS 3) (mCons (getS 4) mNil)))) (ret none) (bnd (mBin addD (ret (.int 1)) (mCall 2 cp (mCons (getS 0) (mCons (ret (.int 3)) mNil)))) (kInt fun i => ret (some i))))) (mSeq (mSet 12 (ret (.int 1))) (mSeq (mFor (bnd (getS 9) fun d => lft (itemsD d)) (bName 11) (mSet 12 (mBin mulD (getS 12) (bnd (mCons (mCall 1 cv (mCons (getS 11) mNil)) mNil) fun ds => lft (lenD ds))))) (mSeq (mSet 13 (bnd (mCons (mLc [14] (bnd (mCons (getS 12) mNil) fun ds => lft (rng1 ds)) (bName 14) (ret true) (mCall 2 dv (mCons (getS 0) (mCons (getS 5) mNil)))) mNil) fun ds => lft (tupleD ds))) (mRet (mTup (mCons (mTup (mCons (ret (.str "table")) (mCons (getS 5) (mCons (getS 13) (mCons (mSl (mTup (mCons (ret (.str "x")) (mCons (ret (.str "y")) (mCons (ret (.str "z")) mNil)))) (ret none) (bnd (bnd (mCons (getS 9) mNil) fun ds => lft (lenD ds)) (kInt fun i => ret (some i)))) mNil))))) (mCons (getS 9) mNil))))))))
theorem Base.m3 {t : Ty} (h : Base t) : Sm t ∧ t.many ≤ 3 := ⟨h.sm, h.small.2.1⟩
theorem tyW_m3 : Sm tyW ∧ tyW.many ≤ 3 := ⟨tyW_ok, by decide⟩
theorem prodT_le : ∀ (ts : List Ty), (∀ t ∈ ts, Sm t ∧ t.many ≤ 3) → 1 ≤ prodT ts ∧ prodT ts ≤ 3 ^ ts.length
  | [], _ => by decide
  | t :: ts, h => by
    obtain ⟨a, b⟩ := prodT_le ts fun u hu => h u (List.mem_cons_of_mem _ hu)
    obtain ⟨c, d⟩ := h t List.mem_cons_self
    have e := (t.many_le c.1).1
    have f := Int.mul_le_mul e a (by decide) (by omega)
    have g := Int.mul_le_mul d b (by omega) (by decide)
    refine ⟨by show 1 ≤ t.many * prodT ts; omega, ?_⟩
    show t.many * prodT ts ≤ 3 ^ (ts.length + 1)
    rw [Int.pow_succ]
    omega
section
variable {sa ca : Addr} {dt cp cv dv pl1 pl2 c : Fn1} {one other : Ty}
/-- the frame within the product's loop -/
def tF (sa : Addr) (one other : Ty) (ks : D) (x : Slot) (p : Int) : Rho := [.val (.raw (.ref sa)), .val tyYN.d, .val tyW.d, .val one.d, .val other.d, .val (Ty.pair one other).d, .val (.int 9), .free, .free, .val ks, .free, x, .val (.int p), .free, .free]
theorem prod_loop (hcv : ∀ t, Sm t → ValsOk cv t) (ks : D) (w : Wo) : ∀ (ts : List Ty), (∀ t ∈ ts, Sm t ∧ t.many ≤ 3) → ∀ (x : Slot) (p : Int), ∃ x', forL (bName 11) (mSet 12 (mBin mulD (getS 12) (bnd (mCons (mCall 1 cv (mCons (getS 11) mNil)) mNil) fun ds => lft (lenD ds)))) (ts.map Ty.d) (tF sa one other ks x p) w = some (.ok .nx (tF sa one other ks x' (p * prodT ts)) w)
  | [], _, x, p => ⟨x, by rw [show p * prodT [] = p from Int.mul_one p]; rfl⟩
  | t :: ts, h, x, p => by
    obtain ⟨c, d⟩ := h t List.mem_cons_self
    obtain ⟨x', e⟩ := prod_loop hcv ks w ts (fun u hu => h u (List.mem_cons_of_mem _ hu)) (.val t.d) (p * t.many)
    refine ⟨x', ?_⟩
    have f := t.vals_len c.1
    have g := t.many_le c.1
    let ρ := tF sa one other ks (.val t.d) p
    have e1 : mSet 12 (mBin mulD (getS 12) (bnd (mCons (mCall 1 cv (mCons (getS 11) mNil)) mNil) fun ds => lft (lenD ds))) ρ w = some (.ok .nx (tF sa one other ks (.val t.d) (p * t.many)) w) := by
      refine set_ok (ρ1 := ρ) (bin_ok (a := .int p) (b := .int t.many) (ρ1 := ρ) (w1 := w) rfl ?_ ?_)
      · rw [bnd_ok (cons_ok (call1 (a := t.d) (ρ1 := ρ) rfl (hcv t c w)) rfl)]
        show some (Rs.ok (D.int (t.vals.length : Nat)) ρ w) = _
        rw [f]
      · show (if inB p || inB t.many then some (D.int (p * t.many)) else none) = _
        rw [inB_small (i := t.many) (by omega), Bool.or_true]
        rfl
    show forL (bName 11) (mSet 12 (mBin mulD (getS 12) (bnd (mCons (mCall 1 cv (mCons (getS 11) mNil)) mNil) fun ds => lft (lenD ds)))) (t.d :: ts.map Ty.d) (tF sa one other ks x p) w = _
    unfold forL
    show (match (mSet 12 (mBin mulD (getS 12) (bnd (mCons (mCall 1 cv (mCons (getS 11) mNil)) mNil) fun ds => lft (lenD ds)))) ρ w with
      | some (.ok .nx ρ1 w1) => forL (bName 11) (mSet 12 (mBin mulD (getS 12) (bnd (mCons (mCall 1 cv (mCons (getS 11) mNil)) mNil) fun ds => lft (lenD ds)))) (ts.map Ty.d) ρ1 w1
      | some (.ok .ct ρ1 w1) => forL (bName 11) (mSet 12 (mBin mulD (getS 12) (bnd (mCons (mCall 1 cv (mCons (getS 11) mNil)) mNil) fun ds => lft (lenD ds)))) (ts.map Ty.d) ρ1 w1
      | some (.ok .br ρ1 w1) => some (.ok .nx ρ1 w1)
      | some (.ok (.rt d') ρ1 w1) => some (.ok (.rt d') ρ1 w1)
      | some (.exc x ρ1 w1) => some (.exc x ρ1 w1)
      | none => none) = _
    rw [e1]
    rw [show p * prodT (t :: ts) = p * t.many * prodT ts from (Int.mul_assoc ..).symm]
    exact e
end
end DL
set_option Elab.async false
set_option linter.all false
set_option maxRecDepth 100000
set_option maxHeartbeats 4000001
/-! DLXN: the road of tables. -/
namespace DL
open PySem PyProof.Rows PySem.Spec L2 RZ StX
section
variable {sa ca : Addr} {dt cp cv dv pl1 pl2 c : Fn1} {one other : Ty}
theorem tab_road (hcv : ∀ t, Sm t → ValsOk cv t) (hp2 : ∀ t, Sm t → PlaceOk pl2 t) (hc : ∀ t, Sm t → CountOk c t) (h1 : Base one) (h2 : Base other) (hd : Gives sa ca dv [.raw (.ref sa), (Ty.pair one other).d] fun d => d ∈ (Ty.pair one other).vals)
    {ts : List Ty} {names : List D} (h3 : ∀ t ∈ ts, Sm t ∧ t.many ≤ 3) (l1 : 1 ≤ ts.length) (l3 : ts.length ≤ 3) (ln : names.length = ts.length) (hn : slD none (some (ts.length : Nat)) (.tup [.str "x", .str "y", .str "z"]) = some (.tup names)) (ho : ∀ rs w, opsF [.tup [.str "table", (Ty.pair one other).d, .tup rs, .tup names]] w = some (.ok (.tup names) w))
    {s : Src} {s1 : Src} (k1 : Sok sa ca s1) (es : (mSl (mLst (mCons (getS 2) (mCons (getS 3) (mCons (getS 4) mNil)))) (ret none) (bnd (mBin addD (ret (.int 1)) (mCall 2 cp (mCons (getS 0) (mCons (ret (.int 3)) mNil)))) (kInt fun i => ret (some i)))) (dF sa one other 9) (some s) = some (.ok (.lst (ts.map Ty.d)) (dF sa one other 9) (some s1))) :
    ∃ R ts s' ρ', Sok sa ca s' ∧ RtOk (standF pl1 pl2 c) opsF R ts ∧ tblB cp cv dv (dF sa one other 9) (some s) = some (.ok (.rt (.tup [R, .lst (ts.map Ty.d)])) ρ' (some s')) := by
  let ks : D := .lst (ts.map Ty.d)
  obtain ⟨x', el⟩ := prod_loop (sa := sa) (one := one) (other := other) hcv ks (some s1) ts h3 .free 1
  rw [Int.one_mul] at el
  obtain ⟨pl, pu⟩ := prodT_le ts h3
  have p27 : (3 : Int) ^ ts.length ≤ 27 := by
    rcases (show ts.length = 1 ∨ ts.length = 2 ∨ ts.length = 3 by omega) with e | e | e <;> rw [e] <;> decide
  let ρ := tF sa one other ks x' (prodT ts)
  obtain ⟨ys, s2, ey, hy, k2⟩ := mLc_draw (sa := sa) (ca := ca) (own := [14]) (bind := bName 14) (mi := bnd (mCons (getS 12) mNil) fun ds => lft (rng1 ds)) (me := mCall 2 dv (mCons (getS 0) (mCons (getS 5) mNil))) (ρ := ρ) (s := s1) (e := fun i : Nat => D.int (0 + (i : Nat))) (P := fun _ d => d ∈ (Ty.pair one other).vals) (List.range (prodT ts).toNat) k1 (by
      rw [bnd_ok (cons_ok (d := .int (prodT ts)) (ρ1 := ρ) (w1 := some s1) rfl rfl)]
      show lft (if 0 ≤ prodT ts ∧ prodT ts ≤ 100000 then some (rgs 0 (prodT ts).toNat) else none) ρ (some s1) = _
      rw [if_pos (by omega)]
      rfl) (by rw [List.length_range]; omega) fun i _ s hs => by
        obtain ⟨d, s', a, b, e⟩ := hd s hs
        let ρ4 := ρ.set 14 (.val (.int (0 + (i : Nat))))
        exact ⟨ρ4, ρ4, d, s', rfl, call2 (ρ1 := ρ4) (ρ2 := ρ4) (a := .raw (.ref sa)) (b := (Ty.pair one other).d) rfl rfl e, rfl, b, a⟩
  have ly := hy.length
  rw [List.length_range] at ly
  have hp := Base.pair h1 h2
  have hdt : ∀ d ∈ ys, dat 50 d = true := fun d m => by
    obtain ⟨_, _, g⟩ := hy.mem d m
    exact in_dat g hp.2 (by decide)
  refine ⟨.tup [.str "table", (Ty.pair one other).d, .tup ys, .tup names], ts, s2, ρ.set 13 (.val (.tup ys)), k2, rt_table (fun t m => (h3 t m).1) hp2 hc (by omega) hdt l1 l3 ln (ho ys), ?_⟩
  let ρ5 := ρ.set 13 (.val (.tup ys))
  have e1 : mSet 9 (mSl (mLst (mCons (getS 2) (mCons (getS 3) (mCons (getS 4) mNil)))) (ret none) (bnd (mBin addD (ret (.int 1)) (mCall 2 cp (mCons (getS 0) (mCons (ret (.int 3)) mNil)))) (kInt fun i => ret (some i)))) (dF sa one other 9) (some s) = some (.ok .nx ((dF sa one other 9).set 9 (.val ks)) (some s1)) := set_ok es
  have e2 : mSet 12 (ret (.int 1)) ((dF sa one other 9).set 9 (.val ks)) (some s1) = some (.ok .nx (tF sa one other ks .free 1) (some s1)) := rfl
  have e3 : mFor (bnd (getS 9) fun d => lft (itemsD d)) (bName 11) (mSet 12 (mBin mulD (getS 12) (bnd (mCons (mCall 1 cv (mCons (getS 11) mNil)) mNil) fun ds => lft (lenD ds)))) (tF sa one other ks .free 1) (some s1) = some (.ok .nx ρ (some s1)) := by
    unfold mFor
    rw [bnd_ok (a := ts.map Ty.d) (ρ' := tF sa one other ks .free 1) (w' := some s1) rfl]
    exact el
  have e4 : mSet 13 (bnd (mCons (mLc [14] (bnd (mCons (getS 12) mNil) fun ds => lft (rng1 ds)) (bName 14) (ret true) (mCall 2 dv (mCons (getS 0) (mCons (getS 5) mNil)))) mNil) fun ds => lft (tupleD ds)) ρ (some s1) = some (.ok .nx ρ5 (some s2)) := by
    refine set_ok (ρ1 := ρ) ?_
    rw [bnd_ok (cons_ok ey rfl)]
    rfl
  have e5 : (mSl (mTup (mCons (ret (.str "x")) (mCons (ret (.str "y")) (mCons (ret (.str "z")) mNil)))) (ret none) (bnd (bnd (mCons (getS 9) mNil) fun ds => lft (lenD ds)) (kInt fun i => ret (some i)))) ρ5 (some s2) = some (.ok (.tup names) ρ5 (some s2)) := by
    refine sl_ok (x := .tup [.str "x", .str "y", .str "z"]) (ρ1 := ρ5) (w1 := some s2) rfl (int_ok (i := (ts.length : Nat)) ?_) hn
    rw [bnd_ok (cons_ok (d := ks) (ρ1 := ρ5) (w1 := some s2) rfl rfl)]
    show some (Rs.ok (D.int ((ts.map Ty.d).length : Nat)) ρ5 (some s2)) = _
    rw [List.length_map]
  unfold tblB
  refine (seq_nx e1).trans ((seq_nx e2).trans ((seq_nx e3).trans ((seq_nx e4).trans (ret_ok ?_))))
  exact tup_ok (cons_ok (tup_ok (cons_ok (d := .str "table") (ρ1 := ρ5) (w1 := some s2) rfl (cons_ok (d := (Ty.pair one other).d) (ρ1 := ρ5) (w1 := some s2) rfl (cons_ok (d := .tup ys) (ρ1 := ρ5) (w1 := some s2) rfl (cons_ok e5 rfl))))) rfl)
theorem road_tab (hp : PickOk sa ca cp) (hcv : ∀ t, Sm t → ValsOk cv t) (hp2 : ∀ t, Sm t → PlaceOk pl2 t) (hc : ∀ t, Sm t → CountOk c t) (h1 : Base one) (h2 : Base other) (hd : Gives sa ca dv [.raw (.ref sa), (Ty.pair one other).d] fun d => d ∈ (Ty.pair one other).vals) : Road sa ca (standF pl1 pl2 c) opsF (tblB cp cv dv) (dF sa one other 9) := fun s hs => by
  obtain ⟨d, s1, k1, ⟨j, ej, hj⟩, e⟩ := hp 3 (by decide) s hs
  subst ej
  have lj : j < 3 := by omega
  let ρ := dF sa one other 9
  have b1 : mBin addD (ret (.int 1)) (mCall 2 cp (mCons (getS 0) (mCons (ret (.int 3)) mNil))) ρ (some s) = some (.ok (.int (1 + (j : Nat))) ρ (some s1)) := bin_ok (a := .int 1) (b := .int (j : Nat)) (ρ1 := ρ) (w1 := some s) rfl (call2 (ρ1 := ρ) (ρ2 := ρ) (a := .raw (.ref sa)) (b := .int 3) rfl rfl e) rfl
  have m0 := tyW_m3
  have m1 := h1.m3
  have m2 := h2.m3
  match j, lj with
  | 0, _ => exact tab_road (pl1 := pl1) (ts := [tyW]) (names := [.str "x"]) hcv hp2 hc h1 h2 hd (fun t m => by simp at m; subst m; assumption) (by decide) (by decide) rfl rfl (fun rs w => rfl) k1 (sl_ok (x := .lst [tyW.d, one.d, other.d]) (ρ1 := ρ) (w1 := some s) rfl (int_ok b1) rfl)
  | 1, _ => exact tab_road (pl1 := pl1) (ts := [tyW, one]) (names := [.str "x", .str "y"]) hcv hp2 hc h1 h2 hd (fun t m => by simp at m; rcases m with m | m <;> subst m <;> assumption) (by show 1 ≤ 2; decide) (by show 2 ≤ 3; decide) rfl rfl (fun rs w => rfl) k1 (sl_ok (x := .lst [tyW.d, one.d, other.d]) (ρ1 := ρ) (w1 := some s) rfl (int_ok b1) rfl)
  | 2, _ => exact tab_road (pl1 := pl1) (ts := [tyW, one, other]) (names := [.str "x", .str "y", .str "z"]) hcv hp2 hc h1 h2 hd (fun t m => by simp at m; rcases m with m | m | m <;> subst m <;> assumption) (by show 1 ≤ 3; decide) (by show 3 ≤ 3; decide) rfl rfl (fun rs w => rfl) k1 (sl_ok (x := .lst [tyW.d, one.d, other.d]) (ρ1 := ρ) (w1 := some s) rfl (int_ok b1) rfl)
end
end DL
set_option Elab.async false
set_option linter.all false
set_option maxRecDepth 100000
set_option maxHeartbeats 4000001
/-! DLXO: right sides drawn, whole. -/
namespace DL
open PySem PyProof.Rows PySem.Spec L2 RZ StX
section
variable {sa ca : Addr} {dt cp cv dv pl1 pl2 c : Fn1} {one other : Ty}
/-- the branches of the drawing -/
def drRest (dt cp cv dv : Fn1) : M Fl := mSeq (drOp dt cp cv dv) (mSeq (drCmp dt cp cv dv) (mSeq (drTab dt cp cv dv) (mSeq (drConst dt cp cv dv) (mSeq (drHeld dt cp cv dv) (mSeq (drWhen dt cp cv dv) (mSeq (drChoose dt cp cv dv) (mSeq (drAs dt cp cv dv) (drArg dt cp cv dv))))))))
theorem road_all (hp : PickOk sa ca cp) (hdv : ∀ t, Sm t → Gives sa ca dv [.raw (.ref sa), t.d] fun d => d ∈ t.vals) (hcv : ∀ t, Sm t → ValsOk cv t) (hpl : ∀ t, Sm t → PlaceOk pl1 t) (hp2 : ∀ t, Sm t → PlaceOk pl2 t) (hc : ∀ t, Sm t → CountOk c t) (h1 : Base one) (h2 : Base other) (k : Nat) (lk : k < 16) : Road sa ca (standF pl1 pl2 c) opsF (drRest dt cp cv dv) (dF sa one other k) := by
  unfold drRest
  match k, lk with
  | 0, _ => exact Road.take (m := opB) (fun w => rfl) (road_op h1 h2 0 (by decide))
  | 1, _ => exact Road.take (m := opB) (fun w => rfl) (road_op h1 h2 1 (by decide))
  | 2, _ => exact Road.take (m := opB) (fun w => rfl) (road_op h1 h2 2 (by decide))
  | 3, _ => exact Road.take (m := opB) (fun w => rfl) (road_op h1 h2 3 (by decide))
  | 4, _ => exact Road.take (m := opB) (fun w => rfl) (road_op h1 h2 4 (by decide))
  | 5, _ => exact Road.take (m := opB) (fun w => rfl) (road_op h1 h2 5 (by decide))
  | 6, _ => exact Road.pass (fun w => rfl) (Road.take (m := cmpB cp) (fun w => rfl) (road_cmp hp hpl h1 h2 0 (by decide)))
  | 7, _ => exact Road.pass (fun w => rfl) (Road.take (m := cmpB cp) (fun w => rfl) (road_cmp hp hpl h1 h2 1 (by decide)))
  | 8, _ => exact Road.pass (fun w => rfl) (Road.take (m := cmpB cp) (fun w => rfl) (road_cmp hp hpl h1 h2 2 (by decide)))
  | 9, _ => exact Road.pass (fun w => rfl) (Road.pass (fun w => rfl) (Road.take (m := tblB cp cv dv) (fun w => rfl) (road_tab hp hcv hp2 hc h1 h2 (hdv _ (Base.pair h1 h2)))))
  | 10, _ => exact Road.pass (fun w => rfl) (Road.pass (fun w => rfl) (Road.pass (fun w => rfl) (Road.take (fun w => rfl) (road_const h1 h2 (hdv _ h1.sm) 10))))
  | 11, _ => exact Road.pass (fun w => rfl) (Road.pass (fun w => rfl) (Road.pass (fun w => rfl) (Road.pass (fun w => rfl) (Road.take (fun w => rfl) (road_held h1 h2 (hdv _ h1.sm) 11)))))
  | 12, _ => exact Road.pass (fun w => rfl) (Road.pass (fun w => rfl) (Road.pass (fun w => rfl) (Road.pass (fun w => rfl) (Road.pass (fun w => rfl) (Road.take (fun w => rfl) (road_when hp h1 12))))))
  | 13, _ => exact Road.pass (fun w => rfl) (Road.pass (fun w => rfl) (Road.pass (fun w => rfl) (Road.pass (fun w => rfl) (Road.pass (fun w => rfl) (Road.pass (fun w => rfl) (Road.take (fun w => rfl) (road_choose h1 13)))))))
  | 14, _ => exact Road.pass (fun w => rfl) (Road.pass (fun w => rfl) (Road.pass (fun w => rfl) (Road.pass (fun w => rfl) (Road.pass (fun w => rfl) (Road.pass (fun w => rfl) (Road.pass (fun w => rfl) (Road.take (fun w => rfl) (road_as h1 14))))))))
  | 15, _ => exact Road.pass (fun w => rfl) (Road.pass (fun w => rfl) (Road.pass (fun w => rfl) (Road.pass (fun w => rfl) (Road.pass (fun w => rfl) (Road.pass (fun w => rfl) (Road.pass (fun w => rfl) (Road.pass (fun w => rfl) (road_arg hp h1 h2 15))))))))
  | k + 16, h => exact absurd h (by omega)
theorem drawR_spec (hp : PickOk sa ca cp) (hdt : Gives sa ca dt [.raw (.ref sa)] fun d => ∃ t, d = t.d ∧ Base t) (hdv : ∀ t, Sm t → Gives sa ca dv [.raw (.ref sa), t.d] fun d => d ∈ t.vals) (hcv : ∀ t, Sm t → ValsOk cv t) (hpl : ∀ t, Sm t → PlaceOk pl1 t) (hp2 : ∀ t, Sm t → PlaceOk pl2 t) (hc : ∀ t, Sm t → CountOk c t) : Gives sa ca (gOf 1 15 (drawRM dt cp cv dv)) [.raw (.ref sa)] fun d => ∃ R ts, d = .tup [R, .lst (ts.map Ty.d)] ∧ RtOk (standF pl1 pl2 c) opsF R ts := fun s hs => by
  obtain ⟨d1, s1, k1, ⟨one, e1, h1⟩, g1⟩ := hdt s hs
  obtain ⟨d2, s2, k2, ⟨other, e2, h2⟩, g2⟩ := hdt s1 k1
  obtain ⟨d3, s3, k3, ⟨k, e3, hk⟩, g3⟩ := hp 16 (by decide) s2 k2
  subst e1 e2 e3
  have lk : k < 16 := by omega
  obtain ⟨R, ts, s4, ρ', k4, hR, g4⟩ := road_all (dt := dt) hp hdv hcv hpl hp2 hc h1 h2 k lk s3 k3
  refine ⟨_, s4, k4, ⟨R, ts, rfl, hR⟩, gOf_rt (ρ' := ρ') rfl ?_⟩
  let ρA : Rho := [.val (.raw (.ref sa)), .val tyYN.d, .val tyW.d, .free, .free, .free, .free, .free, .free, .free, .free, .free, .free, .free, .free]
  let ρB : Rho := [.val (.raw (.ref sa)), .val tyYN.d, .val tyW.d, .val one.d, .val other.d, .free, .free, .free, .free, .free, .free, .free, .free, .free, .free]
  have a1 : drA dt cp cv dv [.val (.raw (.ref sa)), .free, .free, .free, .free, .free, .free, .free, .free, .free, .free, .free, .free, .free, .free] (some s) = some (.ok .nx ρA (some s)) := rfl
  have a2 : drB dt cp cv dv ρA (some s) = some (.ok .nx ρB (some s2)) := by
    unfold drB mPar
    rw [bnd_ok (cons_ok (call1 (a := .raw (.ref sa)) (ρ1 := ρA) (w1 := some s) rfl g1) (cons_ok (call1 (a := .raw (.ref sa)) (ρ1 := ρA) (w1 := some s1) rfl g2) rfl))]
    rfl
  have a3 : drC dt cp cv dv ρB (some s2) = some (.ok .nx (dF sa one other k) (some s3)) := by
    unfold drC mAsg
    rw [bnd_ok (tup_ok (cons_ok (d := (Ty.pair one other).d) (ρ1 := ρB) (w1 := some s2) rfl (cons_ok (call2 (ρ1 := ρB) (ρ2 := ρB) (a := .raw (.ref sa)) (b := .int 16) rfl rfl g3) rfl)))]
    rfl
  exact (seq_nx a1).trans ((seq_nx a2).trans ((seq_nx a3).trans g4))
end
end DL
set_option Elab.async false
set_option linter.all false
set_option maxRecDepth 100000
set_option maxHeartbeats 4000001
/-! DM1: the rules of standings as they run, over tuples. -/
namespace DL
open PySem PyProof.Rows PySem.Spec L2 RZ StX
namespace T
def stL (l : List St) : D := .tup (l.map St.d)
theorem in_abs (l : List St) (h : ∀ s ∈ l, s.ok) : inD (St.d .abs) (stL l) = some (.bl (l.any St.isAbs)) := by
  unfold inD stL
  simp only
  rw [St.dat60 .abs trivial, sts_dats l h, mem_abs]
  rfl
theorem in_cla (l : List St) (h : ∀ s ∈ l, s.ok) : inD (St.d .cla) (stL l) = some (.bl (l.any St.isCla)) := by
  unfold inD stL
  simp only
  rw [St.dat60 .cla trivial, sts_dats l h, mem_cla]
  rfl
def PartOk (c : Fn1) : Prop := ∀ (l : List St), l.length ≤ 1000 → (∀ s ∈ l, s.ok) → ∀ w, c [stL l] w = some (.ok (.bl (part l)) w)
theorem part_spec {c : Fn1} (hc : HereOk c) : PartOk (gOf 1 2 (partM c)) := fun l hl ho w => by
  have e1 := in_abs l ho
  have e2 := anyHere hc (i := 1) (mi := bnd (getS 0) fun d => lft (itemsD d)) (ρ := [.val (stL l), .free]) (w0 := w) (w := w) l hl ho (by simp [bnd, getS, lft, itemsD, stL]) (by show 1 < 2; decide)
  have e0 : mBin inD (ret (St.d .abs)) (getS 0) [.val (stL l), .free] w = some (.ok (.bl (l.any St.isAbs)) [.val (stL l), .free] w) := by
    simp [mBin, bnd, ret, getS, lft, e1]
  show (match partM c [.val (stL l), .free] w with
    | some (.ok .nx _ w') => some (Fr.ok .non w')
    | some (.ok (.rt d) _ w') => some (.ok d w')
    | some (.exc x _ w') => some (.exc x w')
    | _ => none) = _
  unfold partM mRet mAndV part
  cases ha : l.any St.isAbs with
  | false =>
    rw [ha] at e0
    have e3 : bnd (mBin inD (ret (St.d .abs)) (getS 0)) (kBool fun c_1 => if c_1 = true then (bnd (mCons (mLc [1] (bnd (getS 0) fun d => lft (itemsD d)) (bName 1) (ret true) (mCall 1 c (mCons (getS 1) mNil))) mNil) fun ds => lft (anyD ds)) else ret (.bl false)) [.val (stL l), .free] w = some (.ok (.bl false) [.val (stL l), .free] w) := by
      rw [bnd_ok e0]
      rfl
    rw [bnd_ok e3]
    rfl
  | true =>
    rw [ha] at e0
    have e3 : bnd (mBin inD (ret (St.d .abs)) (getS 0)) (kBool fun c_1 => if c_1 = true then (bnd (mCons (mLc [1] (bnd (getS 0) fun d => lft (itemsD d)) (bName 1) (ret true) (mCall 1 c (mCons (getS 1) mNil))) mNil) fun ds => lft (anyD ds)) else ret (.bl false)) [.val (stL l), .free] w = some (.ok (.bl (l.any St.here)) [.val (stL l), .free] w) := by
      rw [bnd_ok e0]
      exact e2
    rw [bnd_ok e3]
    rfl
def RunsTo (g : Fn1) (R Ks m : D) (r : Rl) (l : List St) : Prop := ∀ w, g [R, Ks, stL l, m] w = some (.ok (r l).d w)
theorem st0 (s : St) (r : List St) : ixD (stL (s :: r)) (.int 0) = some s.d := at0 _ _
theorem st1 (s t : St) (r : List St) : ixD (stL (s :: t :: r)) (.int 1) = some t.d := at1 _ _ _
theorem const_runs {c : Fn1} (hc : HereOk c) {R Ks m v : D} (hv : ixD R (.int 2) = some v) {s : St} {r : List St} (hs : s.ok) : RunsTo (gOf 4 5 (constM c)) R Ks m (ofConst v) (s :: r) := fun w => by
  have h := hc s hs w
  have e0 := st0 s r
  show gOf 4 5 (constM c) [R, Ks, stL (s :: r), m] w = some (.ok (if s.here = true then St.val v else s).d w)
  by_cases b : s.here = true
  · rw [if_pos b]
    rw [b] at h
    simp [gOf, constM, mSeq, mSet, setS, mRet, mIte, mVal, mCall, mTup, mBin, mCons, mNil, bnd, getS, ret, lft, asB, e0, h, hv, valD]
  · rw [if_neg b]
    rw [Bool.not_eq_true] at b
    rw [b] at h
    simp [gOf, constM, mSeq, mSet, setS, mRet, mIte, mVal, mCall, mTup, mBin, mCons, mNil, bnd, getS, ret, lft, asB, e0, h]
theorem held_runs {p c : Fn1} (hp : PartOk p) (hc : HereOk c) {R Ks m : D} {a b : St} (ha : a.ok) (hb : b.ok) : RunsTo (gOf 4 5 (heldM p c)) R Ks m (ofHeld m) [a, b] := fun w => by
  have h1 := hp [a, b] (by show 2 ≤ 1000; decide) (fun s hs => by
    rcases List.mem_cons.mp hs with q | q
    · rw [q]; exact ha
    · rcases List.mem_cons.mp
          q with q | q
      · rw [q]; exact hb
      · cases q) w
  have h2 := hc b hb w
  have e0 := st1 a b []
  show gOf 4 5 (heldM p c) [R, Ks, stL [a, b], m] w = some (.ok (if part [a, b] = true then St.cla else if b.here = true then .val m else b).d w)
  by_cases q : part [a, b] = true
  · rw [if_pos q]
    rw [q] at h1
    simp [gOf, heldM, mSeq, mSet, setS, mRet, mIte, mVal, mCall, mTup, mBin, mCons, mNil, bnd, getS, ret, lft, asB, e0, h1]
  · rw [if_neg q]
    rw [Bool.not_eq_true] at q
    rw [q] at h1
    by_cases x : b.here = true
    · rw [if_pos x]
      rw [x] at h2
      simp [gOf, heldM, mSeq, mSet, setS, mRet, mIte, mVal, mCall, mTup, mBin, mCons, mNil, bnd, getS, ret, lft, asB, e0, h1, h2, valD]
    · rw [if_neg x]
      rw [Bool.not_eq_true] at x
      rw [x] at h2
      simp [gOf, heldM, mSeq, mSet, setS, mRet, mIte, mVal, mCall, mTup, mBin, mCons, mNil, bnd, getS, ret, lft, asB, e0, h1, h2]
theorem as_runs {R Ks m : D} {s : St} {r : List St} : RunsTo (gOf 4 4 asM) R Ks m ofAs (s :: r) := fun w => by
  have e0 := st0 s r
  show gOf 4 4 asM [R, Ks, stL (s :: r), m] w = some (.ok s.d w)
  simp [gOf, asM, mRet, mBin, bnd, getS, ret, lft, e0]
theorem st_at {l : List St} {k : Nat} {s : St} (h : l[k]? = some s) : ixD (stL l) (.int (k : Nat)) = some s.d := by
  show atI (l.map St.d) (k : Nat) = some s.d
  exact atI_nat (by rw [List.getElem?_map, h]; rfl)
theorem arg_runs {p c : Fn1} (hp : PartOk p) (hc : HereOk c) {R Ks m : D} {l : List St} (g : Good l) {k : Nat} {o : St} (hR : ixD R (.int 2) = some (.int (k : Nat))) (ho : l[k]? = some o) : RunsTo (gOf 4 6 (argM p c)) R Ks m (ofArg k) l := fun w => by
  have h1 := hp l g.1 g.2 w
  have e0 := st_at ho
  have e1 := in_abs l g.2
  obtain ⟨x, e2, e3⟩ := ix_head o
  have e4 := anyHere hc (i := 5) (mi := bnd (getS 2) fun d => lft (itemsD d)) (ρ := [.val R, .val Ks, .val (stL l), .val m, .val o.d, .free]) (w0 := w) (w := w) l g.1 g.2 (by simp [bnd, getS, lft, itemsD, stL]) (by show 5 < 6; decide)
  show gOf 4 6 (argM p c) [R, Ks, stL l, m] w = some (.ok (ofArg k l).d w)
  unfold ofArg
  rw [ho]
  dsimp only
  by_cases q : part l = true
  · rw [if_pos q]
    rw [q] at h1
    simp [gOf, argM, mSeq, mSet, setS, mRet, mIte, mVal, mCall, mBin, mCons, mNil, bnd, getS, ret, lft, asB, e0, hR, h1]
  · rw [if_neg q]
    rw [Bool.not_eq_true] at q
    rw [q] at h1
    by_cases a : l.any St.isAbs = true
    · rw [if_pos a]
      rw [a] at e1
      simp [gOf, argM, mSeq, mSet, setS, mRet, mIte, mVal, mCall, mBin, mBinT, mCons, mNil, bnd, getS, ret, lft, asB, e0, hR, h1, e1]
    · rw [if_neg a]
      rw [Bool.not_eq_true] at a
      rw [a] at e1
      by_cases v : o.isVal = true
      · rw [if_pos v]
        rw [v] at e3
        simp [gOf, argM, mSeq, mSet, setS, mRet, mIte, mVal, mCall, mBin, mBinT, mCons, mNil, bnd, getS, ret, lft, asB, e0, hR, h1, e1, e2, eq_str, e3]
      · rw [if_neg v]
        rw [Bool.not_eq_true] at v
        rw [v] at e3
        have pre : ∀ k : M Fl, (mSeq (mSet 4 (mBin ixD (getS 2) (mBin ixD (getS 0) (ret (.int 2))))) (mSeq (mIte (mVal (mCall 1 p (mCons (getS 2) mNil))) (mRet (ret (St.d .cla))) (ret .nx)) (mSeq (mIte (mBinT inD (ret (St.d .abs)) (getS 2)) (mRet (ret (St.d .abs))) (ret .nx)) (mSeq (mIte (mBinT eqD (mBin ixD (getS 4) (ret (.int 0))) (ret (.str "value"))) (mRet (getS 4)) (ret .nx)) k)))) [.val R, .val Ks, .val (stL l), .val m, .free, .free] w = k [.val R, .val Ks, .val (stL l), .val m, .val o.d, .free] w := fun k => by
          simp [mSeq, mSet, setS, mRet, mIte, mVal, mCall, mBin, mBinT, mCons, mNil, bnd, getS, ret, lft, asB, e0, hR, h1, e1, e2, eq_str, e3]
        have run : argM p c [.val R, .val Ks, .val (stL l), .val m, .free, .free] w = some (.ok (.rt (if l.any St.here = true then St.thr else St.unk).d) [.val R, .val Ks, .val (stL l), .val m, .val o.d, .free] w) := by
          unfold argM
          rw [pre]
          cases b : l.any St.here with
          | true =>
            rw [b] at e4
            refine seq_rt ((ite_run (b := true) (ρ' := [.val R, .val Ks, .val (stL l), .val m, .val o.d, .free]) (w' := w) ?_).trans rfl)
            unfold mVal
            rw [bnd_ok e4]
            rfl
          | false =>
            rw [b] at e4
            rw [seq_nx (ρ' := [.val R, .val Ks, .val (stL l), .val m, .val o.d, .free]) (w' := w) ((ite_run (b := false) (ρ' := [.val R, .val Ks, .val (stL l), .val m, .val o.d, .free]) (w' := w) (by
              unfold mVal
              rw [bnd_ok e4]
              rfl)).trans rfl)]
            rfl
        show (match argM p c [.val R, .val Ks, .val (stL l), .val m, .free, .free] w with
          | some (.ok .nx _ w') => some (Fr.ok .non w')
          | some (.ok (.rt d) _ w') => some (.ok d w')
          | some (.exc x _ w') => some (.exc x w')
          | _ => none) = _
        rw [run]
theorem when_runs {p : Fn1} (hp : PartOk p) {R Ks m : D} {s c : St} (g : Good [s, c]) {x : D} (hR : ixD R (.int 3) = some x) (hx : dat 60 x = true) : RunsTo (gOf 4 6 (whenM p)) R Ks m (ofWhen x) [s, c] := fun w => by
  have h1 := hp [s, c] g.1 g.2 w
  have e1 := in_abs [s, c] g.2
  obtain ⟨y, e2, e3⟩ := ix_head c
  have e5 : stL [s, c] = .tup [s.d, c.d] := rfl
  show gOf 4 6 (whenM p) [R, Ks, stL [s, c], m] w = some (.ok (if part [s, c] = true then St.cla else if [s, c].any St.isAbs = true then .abs else if c.isVal = false then .unk else if deq c.v x = true then s else .abs).d w)
  rw [e5] at h1 e1 ⊢
  by_cases q : part [s, c] = true
  · rw [if_pos q]
    rw [q] at h1
    simp [gOf, whenM, mSeq, mAsg, bTup, bCons, bName, bNil, mRet, mIte, mVal, mCall, mCons, mNil, bnd, getS, ret, lft, asB, h1]
  · rw [if_neg q]
    rw [Bool.not_eq_true] at q
    rw [q] at h1
    by_cases a : [s, c].any St.isAbs = true
    · rw [if_pos a]
      rw [a] at e1
      simp [gOf, whenM, mSeq, mAsg, bTup, bCons, bName, bNil, mRet, mIte, mVal, mCall, mBinT, mCons, mNil, bnd, getS, ret, lft, asB, h1, e1]
    · rw [if_neg a]
      rw [Bool.not_eq_true] at a
      rw [a] at e1
      by_cases v : c.isVal = false
      · rw [if_pos v]
        rw [v] at e3
        simp [gOf, whenM, mSeq, mAsg, bTup, bCons, bName, bNil, mRet, mIte, mVal, mCall, mBin, mBinT, mCons, mNil, bnd, getS, ret, lft, asB, h1, e1, e2, ne_str, e3]
      · rw [if_neg v]
        cases c with
        | val d =>
          have hd : dat 60 d = true := dat_to (g.2 (.val d) (List.mem_cons_of_mem _ List.mem_cons_self)) (by decide)
          have e7 : eqD d x = some (.bl (deq d x)) := by
            unfold eqD
            rw [hd, hx]
            rfl
          have e6 : St.v (.val d) = d := rfl
          have e8 : St.d (.val d) = .tup [.str "value", d] := rfl
          rw [e8] at h1 e1 ⊢
          rw [e6]
          by_cases z : deq d x = true
          · rw [if_pos z]
            rw [z] at e7
            simp [gOf, whenM, mSeq, mAsg, bTup, bCons, bName, bNil, mRet, mIte, mVal, mCall, mBin, mBinT, mCons, mNil, bnd, getS, ret, lft, asB, h1, e1, ixt0, ixt1, ne_str, hR, e7]
          · rw [if_neg z]
            rw [Bool.not_eq_true] at z
            rw [z] at e7
            simp [gOf, whenM, mSeq, mAsg, bTup, bCons, bName, bNil, mRet, mIte, mVal, mCall, mBin, mBinT, mCons, mNil, bnd, getS, ret, lft, asB, h1, e1, ixt0, ixt1, ne_str, hR, e7]
        | _ => exact absurd rfl v
theorem vals_runs {p c v : Fn1} (hp : PartOk p) (hc : HereOk c) {R Ks m : D} {l : List St} (g : Good l) {f : List D → D} (hv : l.all St.isVal = true → ValueOk v R Ks f (l.map St.v)) : RunsTo (gOf 4 7 (valsM p c v)) R Ks m (ofVals f) l := fun w => by
  let ρ : Rho := [.val R, .val Ks, .val (stL l), .val m, .free, .free, .free]
  have h1 : mVal (mCall 1 p (mCons (getS 2) mNil)) ρ w = some (.ok (part l) ρ w) := mVal_ok (by simp [ρ, mCall, bnd, mCons, mNil, getS, ret, hp l g.1 g.2 w])
  have h2 : mBinT inD (ret (St.d .abs)) (getS 2) ρ w = some (.ok (l.any St.isAbs) ρ w) := by simp [ρ, mBinT, bnd, ret, getS, asB, in_abs l g.2]
  have hi : (bnd (getS 2) fun d => lft (itemsD d)) ρ w = some (.ok (l.map St.d) ρ w) := by simp [ρ, bnd, getS, lft, itemsD, stL]
  have h3 := mVal_ok (allVal (i := 4) (mi := bnd (getS 2) fun d => lft (itemsD d)) (ρ := ρ) (w0 := w) (w := w) l g.1 hi (by show 4 < 7; decide))
  have h4 := mVal_ok (anyHere hc (i := 4) (mi := bnd (getS 2) fun d => lft (itemsD d)) (ρ := ρ) (w0 := w) (w := w) l g.1 g.2 hi (by show 4 < 7; decide))
  have fr : ρ.set 4 .free = ρ := rfl
  rw [fr] at h3 h4
  have run : valsM p c v ρ w = some (.ok (.rt (ofVals f l).d) ρ w) := by
    unfold valsM ofVals
    by_cases q : part l = true
    · rw [if_pos q]
      rw [q] at h1
      exact seq_if_yes h1 rfl
    · rw [if_neg q]
      rw [Bool.not_eq_true] at q
      rw [q] at h1
      rw [seq_if_no h1]
      by_cases a : l.any St.isAbs = true
      · rw [if_pos a]
        rw [a] at h2
        exact seq_if_yes h2 rfl
      · rw [if_neg a]
        rw [Bool.not_eq_true] at a
        rw [a] at h2
        rw [seq_if_no h2]
        by_cases b : l.all St.isVal = true
        · rw [if_pos b]
          rw [b] at h3
          have e := vals_back b
          have lc := mLc_map (own := [5, 6]) (bind := bTup 2 (bCons (bName 5) (bCons (bName 6) bNil))) (mi := bnd (getS 2) fun d => lft (itemsD d)) (me := getS 6) (ρ := ρ) (w0 := w) (w := w) (e := fun d => St.d (.val d)) (f := fun d => d) (l.map St.v) (by
              rw [hi]
              congr 2
              have := congrArg (List.map St.d) e
              rw [this, List.map_map, List.map_map]
              simp [Function.comp_def]) (by rw [List.length_map]; have := g.1; omega) fun d _ => ⟨[.val R, .val Ks, .val (stL l), .val m, .free, .val (.str "value"), .val d], [.val R, .val Ks, .val (stL l), .val m, .free, .val (.str "value"), .val d], rfl, rfl, rfl⟩
          rw [List.map_id'] at lc
          have fr2 : wipeR ρ [5, 6] = ρ := rfl
          rw [fr2] at lc
          have a1 : mCons (getS 0) (mCons (getS 1) (mCons (mLc [5, 6] (bnd (getS 2) fun d => lft (itemsD d)) (bTup 2 (bCons (bName 5) (bCons (bName 6) bNil))) (ret true) (getS 6)) mNil)) ρ w = some (.ok [R, Ks, .lst (l.map St.v)] ρ w) := cons_ok rfl (cons_ok rfl (cons_ok lc rfl))
          have a2 : mCall 3 v (mCons (getS 0) (mCons (getS 1) (mCons (mLc [5, 6] (bnd (getS 2) fun d => lft (itemsD d)) (bTup 2 (bCons (bName 5) (bCons (bName 6) bNil))) (ret true) (getS 6)) mNil))) ρ w = some (.ok (f (l.map St.v)) ρ w) := by
            unfold mCall
            rw [bnd_ok a1]
            show (match v [R, Ks, .lst (l.map St.v)] w with
              | some (.ok d w') => some (Rs.ok d ρ w')
              | some (.exc x w') => some (.exc x ρ w')
              | none => none) = _
            rw [hv b w]
          refine seq_if_yes h3 ?_
          unfold mTup
          rw [bnd_ok (cons_ok (rfl : ret (.str "value") ρ w = some (.ok (.str "value") ρ w)) (cons_ok a2 rfl))]
          rfl
        · rw [if_neg b]
          rw [Bool.not_eq_true] at b
          rw [b] at h3
          rw [seq_if_no h3]
          by_cases x : l.any St.here = true
          · rw [if_pos x]
            rw [x] at h4
            exact seq_if_yes h4 rfl
          · rw [if_neg x]
            rw [Bool.not_eq_true] at x
            rw [x] at h4
            rw [seq_if_no h4]
            rfl
  show (match valsM p c v ρ w with
    | some (.ok .nx _ w') => some (Fr.ok .non w')
    | some (.ok (.rt d) _ w') => some (.ok d w')
    | some (.exc x _ w') => some (.exc x w')
    | _ => none) = _
  rw [run]
theorem stand_runs {rules : List (Str × Option D)} {tb : Tb} {R Ks m : D} {l : List St} (g : Good l) {x f : Str} {gr : Fn1} {r : Rl} (hR : ixD R (.int 0) = some (.str x)) (hx : kdGet rules (.str x) = some (.fn f)) (hf : tb.lookup f = some (4, gr)) (hr : l.any St.isCla = false → RunsTo gr R Ks m r l) : RunsTo (gOf 4 5 (standM rules tb)) R Ks m (stand r) l := fun w => by
  have e1 := in_cla l g.2
  let ρ : Rho := [.val R, .val Ks, .val (stL l), .val m, .free]
  let ρ1 : Rho := [.val R, .val Ks, .val (stL l), .val m, .val (.fn f)]
  have h1 : mBinT inD (ret (St.d .cla)) (getS 2) ρ w = some (.ok (l.any St.isCla) ρ w) := by simp [ρ, mBinT, bnd, ret, getS, asB, e1]
  have run : ∃ ρ', standM rules tb ρ w = some (.ok (.rt (stand r l).d) ρ' w) := by
    unfold standM stand
    by_cases c : l.any St.isCla = true
    · rw [if_pos c]
      rw [c] at h1
      exact ⟨ρ, seq_if_yes h1 rfl⟩
    · rw [if_neg c]
      rw [Bool.not_eq_true] at c
      rw [c] at h1
      rw [seq_if_no h1]
      have h2 : mSet 4 (bnd (mBin ixD (getS 0) (ret (.int 0))) fun d => lft (kdGet rules d)) ρ w = some (.ok .nx ρ1 w) := by simp [ρ, ρ1, mSet, setS, mBin, bnd, getS, ret, lft, hR, hx]
      rw [seq_nx h2]
      refine ⟨ρ1, ret_ok ?_⟩
      have h3 : mCons (getS 0) (mCons (getS 1) (mCons (getS 2) (mCons (getS 3) mNil))) ρ1 w = some (.ok [R, Ks, stL l, m] ρ1 w) := rfl
      show (match tb.lookup f with
        | some (k, g) => bnd (mCons (getS 0) (mCons (getS 1) (mCons (getS 2) (mCons (getS 3) mNil)))) (kCallV k g) ρ1 w
        | none => none) = _
      rw [hf]
      dsimp only
      rw [bnd_ok h3]
      show (match gr [R, Ks, stL l, m] w with
        | some (.ok d w') => some (Rs.ok d ρ1 w')
        | _ => none) = _
      rw [hr c w]
  obtain ⟨ρ', run⟩ := run
  show (match standM rules tb ρ w with
    | some (.ok .nx _ w') => some (Fr.ok .non w')
    | some (.ok (.rt d) _ w') => some (.ok d w')
    | some (.exc x _ w') => some (.exc x w')
    | _ => none) = _
  rw [run]
end T
end DL
set_option Elab.async false
set_option linter.all false
set_option maxRecDepth 100000
set_option maxHeartbeats 4000001
/-! DM2: choose with index of words, over lists and tuples. -/
namespace DL
open PySem PyProof.Rows PySem.Spec L2 RZ StX
def chooseX (p c : Fn1) : M Fl := (mSeq (mPar 4 5 (mCons (mBin ixD (getS 2) (ret (.int 0))) (mCons (mSl (getS 2) (bnd (ret (.int 1)) (kInt fun i => ret (some i))) (ret none)) mNil))) (mSeq (mIte (mBinT eqD (getS 4) (ret (St.d .abs))) (mRet (mIte (mVal (mCall 1 p (mCons (getS 2) mNil))) (ret (St.d .cla)) (ret (St.d .abs)))) (ret .nx)) (mSeq (mIte (mBinT neD (mBin ixD (getS 4) (ret (.int 0))) (ret (.str "value"))) (mRet (getS 4)) (ret .nx)) (mSeq (mSet 6 (mIx (mBin ixD (mBin ixD (getS 1) (ret (.int 0))) (ret (.int 1))) (mCons (mBin ixD (getS 4) (ret (.int 1))) mNil))) (mSeq (mSet 7 (mBin ixD (getS 5) (getS 6))) (mSeq (mSet 8 (othM 5 6)) (mSeq (mIte (mOr (mBinT eqD (getS 7) (ret (St.d .abs))) (mVal (bnd (mCons (mLc [9] (bnd (getS 8) fun d => lft (itemsD d)) (bName 9) (ret true) (mCall 1 c (mCons (getS 9) mNil))) mNil) fun ds => lft (anyD ds)))) (mRet (ret (St.d .cla))) (ret .nx)) (mRet (mIte (mBinT eqD (mBin ixD (getS 7) (ret (.int 0))) (ret (.str "value"))) (getS 7) (ret (St.d .thr)))))))))))
theorem chooseX_runs {p c : Fn1} (hp : PartOk p) (hc : HereOk c) {R m : D} {Ks : D} {ws : List Str} (t0 : ixD Ks (.int 0) = some (Ty.d (.lot ws))) {q : St} {bs : List St} (g : Good (q :: bs)) (hz : ∀ d, q = .val d → ∃ z j, d = .str z ∧ firstAt z ws = some j ∧ j < bs.length) :
    RunsTo (gOf 4 10 (chooseX p c)) R Ks m (ofChoose (atW ws)) (q :: bs) := fun w => by
  have gq : q.ok := g.2 q List.mem_cons_self
  have gb : ∀ s ∈ bs, s.ok := fun s hs => g.2 s (List.mem_cons_of_mem _ hs)
  have lb : bs.length ≤ 1000 := by have := g.1; rw [List.length_cons] at this; omega
  let ρ0 : Rho := [.val R, .val Ks, .val (stL (q :: bs)), .val m, .free, .free, .free, .free, .free, .free]
  let ρ1 : Rho := [.val R, .val Ks, .val (stL (q :: bs)), .val m, .val q.d, .val (stL bs), .free, .free, .free, .free]
  have p1 : mPar 4 5 (mCons (mBin ixD (getS 2) (ret (.int 0))) (mCons (mSl (getS 2) (bnd (ret (.int 1)) (kInt fun i => ret (some i))) (ret none)) mNil)) ρ0 w = some (.ok .nx ρ1 w) := by
    have e1 : mBin ixD (getS 2) (ret (.int 0)) ρ0 w = some (.ok q.d ρ0 w) := by simp [ρ0, mBin, bnd, getS, ret, lft, st0]
    have e2 : mSl (getS 2) (bnd (ret (.int 1)) (kInt fun i => ret (some i))) (ret none) ρ0 w = some (.ok (stL bs) ρ0 w) := by
      have := cut_from ((q :: bs).map St.d) 1
      simp [ρ0, mSl, bnd, getS, ret, kInt, lft, slD, stL] at this ⊢
      exact this
    unfold mPar
    rw [bnd_ok (cons_ok e1 (cons_ok e2 rfl))]
    rfl
  have h2 : mBinT eqD (getS 4) (ret (St.d .abs)) ρ1 w = some (.ok q.isAbs ρ1 w) := by
    have e := eqSt q .abs gq trivial
    rw [dq_abs] at e
    simp [ρ1, mBinT, bnd, getS, ret, asB, e]
  have h3 : mVal (mCall 1 p (mCons (getS 2) mNil)) ρ1 w = some (.ok (part (q :: bs)) ρ1 w) := mVal_ok (by simp [ρ1, mCall, bnd, mCons, mNil, getS, ret, hp (q :: bs) g.1 g.2 w])
  obtain ⟨x, hx1, hx2⟩ := ix_head q
  have h4 : mBinT neD (mBin ixD (getS 4) (ret (.int 0))) (ret (.str "value")) ρ1 w = some (.ok (!q.isVal) ρ1 w) := by simp [ρ1, mBinT, mBin, bnd, getS, ret, asB, lft, hx1, ne_str, hx2]
  have run : ∃ ρ', chooseX p c ρ0 w = some (.ok (.rt (ofCh (atW ws) q bs).d) ρ' w) := by
    unfold chooseX ofCh
    rw [seq_nx p1]
    by_cases a : q.isAbs = true
    · rw [if_pos a]
      rw [a] at h2
      refine ⟨ρ1, seq_if_yes h2 ?_⟩
      by_cases b : part (q :: bs) = true
      · rw [if_pos b]
        rw [b] at h3
        unfold mIte
        rw [bnd_ok h3]
        rfl
      · rw [if_neg b]
        rw [Bool.not_eq_true] at b
        rw [b] at h3
        unfold mIte
        rw [bnd_ok h3]
        rfl
    · rw [if_neg a]
      rw [Bool.not_eq_true] at a
      rw [a] at h2
      rw [seq_if_no h2]
      by_cases v : q.isVal = false
      · rw [if_pos v]
        rw [v] at h4
        exact ⟨ρ1, seq_if_yes h4 rfl⟩
      · rw [if_neg v]
        rw [Bool.not_eq_false] at v
        rw [v] at h4
        rw [seq_if_no h4]
        cases q with
        | val d =>
          obtain ⟨z, j, ed, hj, lj⟩ := hz d rfl
          subst ed
          obtain ⟨o, ho⟩ : ∃ o, bs[j]? = some o := ⟨bs[j], List.getElem?_eq_getElem lj⟩
          have go : o.ok := gb o (List.mem_of_getElem? ho)
          have ej : atW ws (St.v (.val (.str z))) = j := by
            show (firstAt z ws).getD 0 = j
            rw [hj]
            rfl
          rw [ej, ho]
          dsimp only
          let ρ2 : Rho := [.val R, .val Ks, .val (stL (.val (.str z) :: bs)), .val m, .val (St.d (.val (.str z))), .val (stL bs), .val (.int (j : Nat)), .free, .free, .free]
          let ρ3 : Rho := [.val R, .val Ks, .val (stL (.val (.str z) :: bs)), .val m, .val (St.d (.val (.str z))), .val (stL bs), .val (.int (j : Nat)), .val o.d, .free, .free]
          let ρ4 : Rho := [.val R, .val Ks, .val (stL (.val (.str z) :: bs)), .val m, .val (St.d (.val (.str z))), .val (stL bs), .val (.int (j : Nat)), .val o.d, .val (stL (bs.eraseIdx j)), .free]
          have t1 : ixD (Ty.d (.lot ws)) (.int 1) = some (.tup (ws.map .str)) := at1 _ _ _
          have t2 : tixD (.tup (ws.map .str)) [.str z] = some (.int (j : Nat)) := by
            show (dstrs (ws.map .str)).bind (fun ys => (firstAt z ys).map fun j => D.int (j : Nat)) = _
            rw [dstrs_map]
            show (firstAt z ws).map (fun j => D.int (j : Nat)) = _
            rw [hj]
            rfl
          have s6 : mSet 6 (mIx (mBin ixD (mBin ixD (getS 1) (ret (.int 0))) (ret (.int 1))) (mCons (mBin ixD (getS 4) (ret (.int 1))) mNil)) ρ1 w = some (.ok .nx ρ2 w) := by
            simp [ρ1, ρ2, mSet, setS, mIx, mBin, bnd, mCons, mNil, getS, ret, lft, t0, t1, t2, valD, ixt1]
          have s7 : mSet 7 (mBin ixD (getS 5) (getS 6)) ρ2 w = some (.ok .nx ρ3 w) := by
            simp [ρ2, ρ3, mSet, setS, mBin, bnd, getS, ret, lft, st_at ho]
          have l1 : (bs.map St.d).length ≤ 1000 := by rw [List.length_map]; exact lb
          have c1 : mSl (getS 5) (ret none) (bnd (getS 6) (kInt fun i => ret (some i))) ρ3 w = some (.ok (.lst ((bs.map St.d).take j)) ρ3 w) := by
            simp [ρ3, mSl, bnd, getS, ret, kInt, lft, slD, stL, cut_to]
          have c2 : mSl (getS 5) (bnd (mBin addD (getS 6) (ret (.int 1))) (kInt fun i => ret (some i))) (ret none) ρ3 w = some (.ok (.lst ((bs.map St.d).drop (j + 1))) ρ3 w) := by
            have b0 : mBin addD (getS 6) (ret (.int 1)) ρ3 w = some (.ok (.int ((j + 1 : Nat) : Int)) ρ3 w) := rfl
            have b1 : bnd (mBin addD (getS 6) (ret (.int 1))) (kInt fun i => ret (some i)) ρ3 w = some (.ok (some ((j + 1 : Nat) : Int)) ρ3 w) := by
              rw [bnd_ok b0]
              rfl
            have b2 : getS 5 ρ3 w = some (.ok (stL bs) ρ3 w) := rfl
            have b3 : (ret none : M (Option Int)) ρ3 w = some (.ok none ρ3 w) := rfl
            unfold mSl
            rw [bnd_ok b2, bnd_ok b1, bnd_ok b3]
            show some (Rs.ok (D.lst (cutD (bs.map St.d) (some ((j + 1 : Nat) : Int)) none)) ρ3 w) = _
            rw [cut_from]
          have s8 : mSet 8 (othM 5 6) ρ3 w = some (.ok .nx ρ4 w) := by
            have e : (bs.map St.d).take j ++ ((bs.map St.d).drop (j + 1) ++ []) = (bs.eraseIdx j).map St.d := by
              rw [List.append_nil, ← List.map_take, ← List.map_drop, ← List.map_append, List.eraseIdx_eq_take_drop_succ]
            have a2 : mStar (mSl (getS 5) (bnd (mBin addD (getS 6) (ret (.int 1))) (kInt fun i => ret (some i))) (ret none)) mNil ρ3 w = some (.ok ((bs.map St.d).drop (j + 1) ++ []) ρ3 w) := by
              unfold mStar
              rw [bnd_ok c2]
              rfl
            have a1 : mStar (mSl (getS 5) (ret none) (bnd (getS 6) (kInt fun i => ret (some i)))) (mStar (mSl (getS 5) (bnd (mBin addD (getS 6) (ret (.int 1))) (kInt fun i => ret (some i))) (ret none)) mNil) ρ3 w = some (.ok ((bs.eraseIdx j).map St.d) ρ3 w) := by
              have b1 : ∀ (m1 : M D) (m2 : M (List D)) (xs ys : List D), m1 ρ3 w = some (.ok (.lst xs) ρ3 w) → m2 ρ3 w = some (.ok ys ρ3 w) → mStar m1 m2 ρ3 w = some (.ok (xs ++ ys) ρ3 w) := fun m1 m2 xs ys f1 f2 => by
                unfold mStar
                rw [bnd_ok f1]
                dsimp only
                rw [bnd_ok f2]
                rfl
              rw [← e]
              exact b1 _ _ _ _ c1 a2
            have a0 : othM 5 6 ρ3 w = some (.ok (stL (bs.eraseIdx j)) ρ3 w) := by
              show mLst _ ρ3 w = _
              unfold mLst
              rw [bnd_ok a1]
              rw [if_pos (by rw [List.length_map]; have := List.length_eraseIdx_le bs j; omega)]
              rfl
            unfold mSet
            rw [bnd_ok a0]
            rfl
          rw [seq_nx s6, seq_nx s7, seq_nx s8]
          have ge : ∀ s ∈ bs.eraseIdx j, s.ok := fun s hs => gb s (List.mem_of_mem_eraseIdx hs)
          have le : (bs.eraseIdx j).length ≤ 1000 := by have := List.length_eraseIdx_le bs j; omega
          have h9 := mVal_ok (anyHere hc (i := 9) (mi := bnd (getS 8) fun d => lft (itemsD d)) (ρ := ρ4) (w0 := w) (w := w) (bs.eraseIdx j) le ge (by simp [ρ4, bnd, getS, lft, itemsD, stL]) (by show 9 < 10; decide))
          have fr : ρ4.set 9 .free = ρ4 := rfl
          rw [fr] at h9
          have h10 : mBinT eqD (getS 7) (ret (St.d .abs)) ρ4 w = some (.ok o.isAbs ρ4 w) := by
            have e := eqSt o .abs go trivial
            rw [dq_abs] at e
            simp [ρ4, mBinT, bnd, getS, ret, asB, e]
          have h11 : mOr (mBinT eqD (getS 7) (ret (St.d .abs))) (mVal (bnd (mCons (mLc [9] (bnd (getS 8) fun d => lft (itemsD d)) (bName 9) (ret true) (mCall 1 c (mCons (getS 9) mNil))) mNil) fun ds => lft (anyD ds))) ρ4 w = some (.ok (o.isAbs || (bs.eraseIdx j).any St.here) ρ4 w) := by
            unfold mOr
            rw [bnd_ok h10]
            cases o.isAbs with
            | true => rfl
            | false => exact h9
          by_cases y : (o.isAbs || (bs.eraseIdx j).any St.here) = true
          · rw [if_pos y]
            rw [y] at h11
            exact ⟨ρ4, seq_if_yes h11 rfl⟩
          · rw [if_neg y]
            rw [Bool.not_eq_true] at y
            rw [y] at h11
            rw [seq_if_no h11]
            obtain ⟨x', k1, k2⟩ := ix_head o
            have h12 : mBinT eqD (mBin ixD (getS 7) (ret (.int 0))) (ret (.str "value")) ρ4 w = some (.ok o.isVal ρ4 w) := by simp [ρ4, mBinT, mBin, bnd, getS, ret, asB, lft, k1, eq_str, k2]
            by_cases u : o.isVal = true
            · rw [if_pos u]
              rw [u] at h12
              refine ⟨ρ4, ret_ok ?_⟩
              unfold mIte
              rw [bnd_ok h12]
              rfl
            · rw [if_neg u]
              rw [Bool.not_eq_true] at u
              rw [u] at h12
              refine ⟨ρ4, ret_ok ?_⟩
              unfold mIte
              rw [bnd_ok h12]
              rfl
        | _ => cases v
  obtain ⟨ρ', run⟩ := run
  show (match chooseX p c ρ0 w with
    | some (.ok .nx _ w') => some (Fr.ok .non w')
    | some (.ok (.rt d) _ w') => some (.ok d w')
    | some (.exc x _ w') => some (.exc x w')
    | _ => none) = _
  rw [run]
  rfl
namespace T
theorem chooseX_runs {p c : Fn1} (hp : PartOk p) (hc : HereOk c) {R m : D} {Ks : D} {ws : List Str} (t0 : ixD Ks (.int 0) = some (Ty.d (.lot ws))) {q : St} {bs : List St} (g : Good (q :: bs)) (hz : ∀ d, q = .val d → ∃ z j, d = .str z ∧ firstAt z ws = some j ∧ j < bs.length) :
    RunsTo (gOf 4 10 (chooseX p c)) R Ks m (ofChoose (atW ws)) (q :: bs) := fun w => by
  have gq : q.ok := g.2 q List.mem_cons_self
  have gb : ∀ s ∈ bs, s.ok := fun s hs => g.2 s (List.mem_cons_of_mem _ hs)
  have lb : bs.length ≤ 1000 := by have := g.1; rw [List.length_cons] at this; omega
  let ρ0 : Rho := [.val R, .val Ks, .val (stL (q :: bs)), .val m, .free, .free, .free, .free, .free, .free]
  let ρ1 : Rho := [.val R, .val Ks, .val (stL (q :: bs)), .val m, .val q.d, .val (stL bs), .free, .free, .free, .free]
  have p1 : mPar 4 5 (mCons (mBin ixD (getS 2) (ret (.int 0))) (mCons (mSl (getS 2) (bnd (ret (.int 1)) (kInt fun i => ret (some i))) (ret none)) mNil)) ρ0 w = some (.ok .nx ρ1 w) := by
    have e1 : mBin ixD (getS 2) (ret (.int 0)) ρ0 w = some (.ok q.d ρ0 w) := by simp [ρ0, mBin, bnd, getS, ret, lft, st0]
    have e2 : mSl (getS 2) (bnd (ret (.int 1)) (kInt fun i => ret (some i))) (ret none) ρ0 w = some (.ok (stL bs) ρ0 w) := by
      have := cut_from ((q :: bs).map St.d) 1
      simp [ρ0, mSl, bnd, getS, ret, kInt, lft, slD, stL] at this ⊢
      exact this
    unfold mPar
    rw [bnd_ok (cons_ok e1 (cons_ok e2 rfl))]
    rfl
  have h2 : mBinT eqD (getS 4) (ret (St.d .abs)) ρ1 w = some (.ok q.isAbs ρ1 w) := by
    have e := eqSt q .abs gq trivial
    rw [dq_abs] at e
    simp [ρ1, mBinT, bnd, getS, ret, asB, e]
  have h3 : mVal (mCall 1 p (mCons (getS 2) mNil)) ρ1 w = some (.ok (part (q :: bs)) ρ1 w) := mVal_ok (by simp [ρ1, mCall, bnd, mCons, mNil, getS, ret, hp (q :: bs) g.1 g.2 w])
  obtain ⟨x, hx1, hx2⟩ := ix_head q
  have h4 : mBinT neD (mBin ixD (getS 4) (ret (.int 0))) (ret (.str "value")) ρ1 w = some (.ok (!q.isVal) ρ1 w) := by simp [ρ1, mBinT, mBin, bnd, getS, ret, asB, lft, hx1, ne_str, hx2]
  have run : ∃ ρ', chooseX p c ρ0 w = some (.ok (.rt (ofCh (atW ws) q bs).d) ρ' w) := by
    unfold chooseX ofCh
    rw [seq_nx p1]
    by_cases a : q.isAbs = true
    · rw [if_pos a]
      rw [a] at h2
      refine ⟨ρ1, seq_if_yes h2 ?_⟩
      by_cases b : part (q :: bs) = true
      · rw [if_pos b]
        rw [b] at h3
        unfold mIte
        rw [bnd_ok h3]
        rfl
      · rw [if_neg b]
        rw [Bool.not_eq_true] at b
        rw [b] at h3
        unfold mIte
        rw [bnd_ok h3]
        rfl
    · rw [if_neg a]
      rw [Bool.not_eq_true] at a
      rw [a] at h2
      rw [seq_if_no h2]
      by_cases v : q.isVal = false
      · rw [if_pos v]
        rw [v] at h4
        exact ⟨ρ1, seq_if_yes h4 rfl⟩
      · rw [if_neg v]
        rw [Bool.not_eq_false] at v
        rw [v] at h4
        rw [seq_if_no h4]
        cases q with
        | val d =>
          obtain ⟨z, j, ed, hj, lj⟩ := hz d rfl
          subst ed
          obtain ⟨o, ho⟩ : ∃ o, bs[j]? = some o := ⟨bs[j], List.getElem?_eq_getElem lj⟩
          have go : o.ok := gb o (List.mem_of_getElem? ho)
          have ej : atW ws (St.v (.val (.str z))) = j := by
            show (firstAt z ws).getD 0 = j
            rw [hj]
            rfl
          rw [ej, ho]
          dsimp only
          let ρ2 : Rho := [.val R, .val Ks, .val (stL (.val (.str z) :: bs)), .val m, .val (St.d (.val (.str z))), .val (stL bs), .val (.int (j : Nat)), .free, .free, .free]
          let ρ3 : Rho := [.val R, .val Ks, .val (stL (.val (.str z) :: bs)), .val m, .val (St.d (.val (.str z))), .val (stL bs), .val (.int (j : Nat)), .val o.d, .free, .free]
          let ρ4 : Rho := [.val R, .val Ks, .val (stL (.val (.str z) :: bs)), .val m, .val (St.d (.val (.str z))), .val (stL bs), .val (.int (j : Nat)), .val o.d, .val (DL.stL (bs.eraseIdx j)), .free]
          have t1 : ixD (Ty.d (.lot ws)) (.int 1) = some (.tup (ws.map .str)) := at1 _ _ _
          have t2 : tixD (.tup (ws.map .str)) [.str z] = some (.int (j : Nat)) := by
            show (dstrs (ws.map .str)).bind (fun ys => (firstAt z ys).map fun j => D.int (j : Nat)) = _
            rw [dstrs_map]
            show (firstAt z ws).map (fun j => D.int (j : Nat)) = _
            rw [hj]
            rfl
          have s6 : mSet 6 (mIx (mBin ixD (mBin ixD (getS 1) (ret (.int 0))) (ret (.int 1))) (mCons (mBin ixD (getS 4) (ret (.int 1))) mNil)) ρ1 w = some (.ok .nx ρ2 w) := by
            simp [ρ1, ρ2, mSet, setS, mIx, mBin, bnd, mCons, mNil, getS, ret, lft, t0, t1, t2, valD, ixt1]
          have s7 : mSet 7 (mBin ixD (getS 5) (getS 6)) ρ2 w = some (.ok .nx ρ3 w) := by
            simp [ρ2, ρ3, mSet, setS, mBin, bnd, getS, ret, lft, st_at ho]
          have l1 : (bs.map St.d).length ≤ 1000 := by rw [List.length_map]; exact lb
          have c1 : mSl (getS 5) (ret none) (bnd (getS 6) (kInt fun i => ret (some i))) ρ3 w = some (.ok (.tup ((bs.map St.d).take j)) ρ3 w) := by
            simp [ρ3, mSl, bnd, getS, ret, kInt, lft, slD, stL, cut_to]
          have c2 : mSl (getS 5) (bnd (mBin addD (getS 6) (ret (.int 1))) (kInt fun i => ret (some i))) (ret none) ρ3 w = some (.ok (.tup ((bs.map St.d).drop (j + 1))) ρ3 w) := by
            have b0 : mBin addD (getS 6) (ret (.int 1)) ρ3 w = some (.ok (.int ((j + 1 : Nat) : Int)) ρ3 w) := rfl
            have b1 : bnd (mBin addD (getS 6) (ret (.int 1))) (kInt fun i => ret (some i)) ρ3 w = some (.ok (some ((j + 1 : Nat) : Int)) ρ3 w) := by
              rw [bnd_ok b0]
              rfl
            have b2 : getS 5 ρ3 w = some (.ok (stL bs) ρ3 w) := rfl
            have b3 : (ret none : M (Option Int)) ρ3 w = some (.ok none ρ3 w) := rfl
            unfold mSl
            rw [bnd_ok b2, bnd_ok b1, bnd_ok b3]
            show some (Rs.ok (D.tup (cutD (bs.map St.d) (some ((j + 1 : Nat) : Int)) none)) ρ3 w) = _
            rw [cut_from]
          have s8 : mSet 8 (othM 5 6) ρ3 w = some (.ok .nx ρ4 w) := by
            have e : (bs.map St.d).take j ++ ((bs.map St.d).drop (j + 1) ++ []) = (bs.eraseIdx j).map St.d := by
              rw [List.append_nil, ← List.map_take, ← List.map_drop, ← List.map_append, List.eraseIdx_eq_take_drop_succ]
            have a2 : mStar (mSl (getS 5) (bnd (mBin addD (getS 6) (ret (.int 1))) (kInt fun i => ret (some i))) (ret none)) mNil ρ3 w = some (.ok ((bs.map St.d).drop (j + 1) ++ []) ρ3 w) := by
              unfold mStar
              rw [bnd_ok c2]
              rfl
            have a1 : mStar (mSl (getS 5) (ret none) (bnd (getS 6) (kInt fun i => ret (some i)))) (mStar (mSl (getS 5) (bnd (mBin addD (getS 6) (ret (.int 1))) (kInt fun i => ret (some i))) (ret none)) mNil) ρ3 w = some (.ok ((bs.eraseIdx j).map St.d) ρ3 w) := by
              have b1 : ∀ (m1 : M D) (m2 : M (List D)) (xs ys : List D), m1 ρ3 w = some (.ok (.tup xs) ρ3 w) → m2 ρ3 w = some (.ok ys ρ3 w) → mStar m1 m2 ρ3 w = some (.ok (xs ++ ys) ρ3 w) := fun m1 m2 xs ys f1 f2 => by
                unfold mStar
                rw [bnd_ok f1]
                dsimp only
                rw [bnd_ok f2]
                rfl
              rw [← e]
              exact b1 _ _ _ _ c1 a2
            have a0 : othM 5 6 ρ3 w = some (.ok (DL.stL (bs.eraseIdx j)) ρ3 w) := by
              show mLst _ ρ3 w = _
              unfold mLst
              rw [bnd_ok a1]
              rw [if_pos (by rw [List.length_map]; have := List.length_eraseIdx_le bs j; omega)]
              rfl
            unfold mSet
            rw [bnd_ok a0]
            rfl
          rw [seq_nx s6, seq_nx s7, seq_nx s8]
          have ge : ∀ s ∈ bs.eraseIdx j, s.ok := fun s hs => gb s (List.mem_of_mem_eraseIdx hs)
          have le : (bs.eraseIdx j).length ≤ 1000 := by have := List.length_eraseIdx_le bs j; omega
          have h9 := mVal_ok (anyHere hc (i := 9) (mi := bnd (getS 8) fun d => lft (itemsD d)) (ρ := ρ4) (w0 := w) (w := w) (bs.eraseIdx j) le ge (by simp [ρ4, bnd, getS, lft, itemsD, stL, DL.stL]) (by show 9 < 10; decide))
          have fr : ρ4.set 9 .free = ρ4 := rfl
          rw [fr] at h9
          have h10 : mBinT eqD (getS 7) (ret (St.d .abs)) ρ4 w = some (.ok o.isAbs ρ4 w) := by
            have e := eqSt o .abs go trivial
            rw [dq_abs] at e
            simp [ρ4, mBinT, bnd, getS, ret, asB, e]
          have h11 : mOr (mBinT eqD (getS 7) (ret (St.d .abs))) (mVal (bnd (mCons (mLc [9] (bnd (getS 8) fun d => lft (itemsD d)) (bName 9) (ret true) (mCall 1 c (mCons (getS 9) mNil))) mNil) fun ds => lft (anyD ds))) ρ4 w = some (.ok (o.isAbs || (bs.eraseIdx j).any St.here) ρ4 w) := by
            unfold mOr
            rw [bnd_ok h10]
            cases o.isAbs with
            | true => rfl
            | false => exact h9
          by_cases y : (o.isAbs || (bs.eraseIdx j).any St.here) = true
          · rw [if_pos y]
            rw [y] at h11
            exact ⟨ρ4, seq_if_yes h11 rfl⟩
          · rw [if_neg y]
            rw [Bool.not_eq_true] at y
            rw [y] at h11
            rw [seq_if_no h11]
            obtain ⟨x', k1, k2⟩ := ix_head o
            have h12 : mBinT eqD (mBin ixD (getS 7) (ret (.int 0))) (ret (.str "value")) ρ4 w = some (.ok o.isVal ρ4 w) := by simp [ρ4, mBinT, mBin, bnd, getS, ret, asB, lft, k1, eq_str, k2]
            by_cases u : o.isVal = true
            · rw [if_pos u]
              rw [u] at h12
              refine ⟨ρ4, ret_ok ?_⟩
              unfold mIte
              rw [bnd_ok h12]
              rfl
            · rw [if_neg u]
              rw [Bool.not_eq_true] at u
              rw [u] at h12
              refine ⟨ρ4, ret_ok ?_⟩
              unfold mIte
              rw [bnd_ok h12]
              rfl
        | _ => cases v
  obtain ⟨ρ', run⟩ := run
  show (match chooseX p c ρ0 w with
    | some (.ok .nx _ w') => some (Fr.ok .non w')
    | some (.ok (.rt d) _ w') => some (.ok d w')
    | some (.exc x _ w') => some (.exc x w')
    | _ => none) = _
  rw [run]
  rfl
end T
end DL
set_option Elab.async false
set_option linter.all false
set_option maxRecDepth 100000
set_option maxHeartbeats 4000001
/-! DM3: places and rows, exactly. -/
namespace DL
open PySem PyProof.Rows PySem.Spec L2 RZ StX
def Ty.place : Ty → D → Nat
  | .lot ws, .str z => (firstAt z ws).getD 0
  | .cnt _, .int i => i.toNat
  | .pair a b, .tup [x, y] => a.place x * b.many.toNat + b.place y
  | _, _ => 0
def placeX (pl c : Fn1) : M Fl := (mSeq (mIte (mBinT eqD (mBin ixD (getS 0) (ret (.int 0))) (ret (.str "pair"))) (mRet (mBin addD (mBin mulD (mCall 2 pl (mCons (mBin ixD (getS 0) (ret (.int 1))) (mCons (mBin ixD (getS 1) (ret (.int 0))) mNil))) (mCall 1 c (mCons (mBin ixD (getS 0) (ret (.int 2))) mNil))) (mCall 2 pl (mCons (mBin ixD (getS 0) (ret (.int 2))) (mCons (mBin ixD (getS 1) (ret (.int 1))) mNil))))) (ret .nx)) (mSeq (mIte (mBinT eqD (mBin ixD (getS 0) (ret (.int 0))) (ret (.str "lot"))) (mRet (mIx (mBin ixD (getS 0) (ret (.int 1))) (mCons (getS 1) mNil))) (ret .nx)) (mRet (getS 1))))
theorem placeX_spec {pl c : Nat → Fn1} (hp : ∀ n, pl (n + 1) = gOf 2 2 (placeX (pl n) (c n))) (hc : ∀ n, c (n + 1) = gOf 1 1 (countM (c n))) : ∀ (t : Ty), t.small → ∀ n, t.deep + 1 < n → ∀ d ∈ t.vals, ((t.place d : Nat) : Int) < t.many ∧ ∀ w, pl n [t.d, d] w = some (.ok (.int (t.place d : Nat)) w)
  | _, _, 0, h, _, _ => absurd h (Nat.not_lt_zero _)
  | .lot ws, hs, n + 1, h, d, hd => by
    unfold Ty.vals at hd
    obtain ⟨z, hz, e⟩ := List.mem_map.mp hd
    subst e
    obtain ⟨j, h1, h2⟩ := firstAt_mem hz
    have t2 : tixD (.tup (ws.map .str)) [.str z] = some (.int (j : Nat)) := by
      show (dstrs (ws.map .str)).bind (fun ys => (firstAt z ys).map fun j => D.int (j : Nat)) = _
      rw [dstrs_map]
      show (firstAt z ws).map (fun j => D.int (j : Nat)) = _
      rw [h1]
      rfl
    have ep : (Ty.lot ws).place (.str z) = j := by
      show (firstAt z ws).getD 0 = j
      rw [h1]
      rfl
    rw [ep]
    refine ⟨by show ((j : Nat) : Int) < (ws.length : Nat); omega, fun w => ?_⟩
    rw [hp]
    simp [gOf, placeX, mSeq, mIte, mRet, mBinT, mBin, bnd, getS, ret, ixD, lft, Ty.d, at0, at1, eq_str, asB, mCons, mNil, mIx, s1, s5, t2]
  | .cnt k, hs, n + 1, h, d, hd => by
    unfold Ty.vals rgs at hd
    obtain ⟨i, hi, e⟩ := List.mem_map.mp hd
    subst e
    rw [List.mem_range] at hi
    have h1 := hs.1
    have ep : (Ty.cnt k).place (.int (0 + (i : Nat))) = i := by
      show (0 + (i : Int)).toNat = i
      omega
    rw [ep]
    refine ⟨by show (i : Int) < k; omega, fun w => ?_⟩
    rw [hp]
    simp [gOf, placeX, mSeq, mIte, mRet, mBinT, mBin, bnd, getS, ret, ixD, lft, Ty.d, at0, at1, eq_str, asB, mCons, mNil, s2, s3]
  | .pair a b, hs, n + 1, h, d, hd => by
    have hdp : max a.deep b.deep + 1 + 1 < n + 1 := h
    unfold Ty.vals at hd
    obtain ⟨x, hx, hd⟩ := List.mem_flatMap.mp hd
    obtain ⟨y, hy, e⟩ := List.mem_map.mp hd
    subst e
    obtain ⟨l1, e1⟩ := placeX_spec hp hc a hs.1 n (by omega) x hx
    obtain ⟨l2, e2⟩ := placeX_spec hp hc b hs.2.1 n (by omega) y hy
    have mb := b.many_le hs.2.1
    have ec := fun w => count_spec hc w b hs.2.1 n (by omega)
    obtain ⟨nb, hnb⟩ : ∃ nb : Nat, b.many = (nb : Nat) := ⟨b.many.toNat, (Int.toNat_of_nonneg (by omega)).symm⟩
    have ib : inB b.many = true := inB_small (by omega)
    have ep : (Ty.pair a b).place (.tup [x, y]) = a.place x * nb + b.place y := by
      show a.place x * b.many.toNat + b.place y = _
      rw [hnb]
      rfl
    rw [ep]
    generalize a.place x = p1 at l1 e1
    generalize b.place y = p2 at l2 e2
    refine ⟨?_, fun w => ?_⟩
    · show (((p1 * nb + p2 : Nat)) : Int) < a.many * b.many
      rw [hnb] at l2 ⊢
      have q1 : ((p1 : Int) + 1) * (nb : Nat) ≤ a.many * (nb : Nat) := Int.mul_le_mul_of_nonneg_right (by omega) (by omega)
      rw [Int.add_mul, Int.one_mul] at q1
      have q2 : ((p1 * nb + p2 : Nat) : Int) = (p1 : Int) * (nb : Nat) + p2 := by rw [Int.natCast_add, Int.natCast_mul]
      rw [q2]
      omega
    · have q : (p1 : Int) * b.many + p2 = ((p1 * nb + p2 : Nat) : Int) := by rw [hnb, Int.natCast_add, Int.natCast_mul]
      rw [hp, ← q]
      simp [gOf, placeX, mSeq, mIte, mRet, mBinT, mBin, bnd, getS, ret, ixD, lft, Ty.d, at0, at1, at2, eq_str, asB, mCons, mNil, mCall, s4, e1, e2, ec, mulD, addD, ib]

def PlaceX (pl : Fn1) (t : Ty) : Prop := ∀ d ∈ t.vals, ((t.place d : Nat) : Int) < t.many ∧ ∀ w, pl [t.d, d] w = some (.ok (.int (t.place d : Nat)) w)
/-! ### the place in the row of all values -/
def Ty.chk (t : Ty) : Bool := t.vals.all fun d => match firstEq d t.vals with
  | some j => j == t.place d
  | none => false
theorem chk_W : tyW.chk = true := by decide +kernel
theorem chk_base {t : Ty} (h : Base t) : t.chk = true := by
  rcases h with e | e | e | e | e <;> subst e <;> decide +kernel
theorem chk_pair {a b : Ty} (ha : Base a) (hb : Base b) : (Ty.pair a b).chk = true := by
  rcases ha with e | e | e | e | e <;> subst e <;> rcases hb with e | e | e | e | e <;> subst e <;> decide +kernel
theorem dats_all : ∀ {n : Nat} {l : List D}, (∀ d ∈ l, dat n d = true) → dats n l = true
  | _, [], _ => by simp [dats]
  | n, d :: l, h => by
    simp only [dats, Bool.and_eq_true]
    exact ⟨h d List.mem_cons_self, dats_all fun x hx => h x (List.mem_cons_of_mem _ hx)⟩
theorem idx_of {t : Ty} (hs : t.deep ≤ 2) (hc : t.chk = true) {d : D} (hd : d ∈ t.vals) : lixD (.lst t.vals) [d] = some (.int (t.place d : Nat)) := by
  unfold Ty.chk at hc
  rw [List.all_eq_true] at hc
  have h := hc d hd
  have h1 : dat 60 d = true := in_dat hd hs (by decide)
  have h2 : dats 59 t.vals = true := dats_all fun x hx => in_dat hx hs (by decide)
  show (if dat 60 d && dats 59 t.vals then (firstEq d t.vals).map fun j => D.int (j : Nat) else none) = _
  rw [h1, h2]
  cases hf : firstEq d t.vals with
  | none => rw [hf]
        at h; cases h
  | some j =>
    rw [hf] at h
    have e : j = t.place d := by simpa using h
    rw [e]
    rfl
/-! ### rows of a table -/
def rowN : List Ty → List D → Nat → Nat
  | t :: ts, d :: ds, p => rowN ts ds (p * t.many.toNat + t.place d)
  | _, _, p => p
abbrev Vs (ts : List Ty) (ds : List D) : Prop := All2 (fun (t : Ty) d => d ∈ t.vals) ts ds
theorem place_lt {t : Ty} (hs : t.small) {d : D} (hd : d ∈ t.vals) : ((t.place d : Nat) : Int) < t.many :=
  (placeX_spec (pl := fun n => Nat.rec (fun _ _ => none) (fun n q => gOf 2 2 (placeX q (Nat.rec (fun _ _ => none) (fun _ c => gOf 1 1 (countM c)) n))) n) (c := fun n => Nat.rec (fun _ _ => none) (fun _ c => gOf 1 1 (countM c)) n) (fun _ => rfl) (fun _ => rfl) t hs (t.deep + 2) (by omega) d hd).1
theorem rowN_lt : ∀ (ts : List Ty) (ds : List D), (∀ t ∈ ts, t.small) → All2 (fun (t : Ty) d => d ∈ t.vals) ts ds → ∀ p : Nat, ((rowN ts ds p : Nat) : Int) < ((p : Int) + 1) * prodT ts
  | _, _, _, .nil, p => by simp [rowN, prodT]; omega
  | t :: ts, d :: ds, hs, .cons hd rest, p => by
    have st := hs t List.mem_cons_self
    have hr : ∀ u ∈ ts, u.small := fun u hu => hs u (List.mem_cons_of_mem _ hu)
    have hm := t.many_le st
    have lk := place_lt st hd
    obtain ⟨m, hmn⟩ : ∃ m : Nat, t.many = (m : Nat) := ⟨t.many.toNat, (Int.toNat_of_nonneg (by omega)).symm⟩
    have lq := rowN_lt ts ds hr rest (p * m + t.place d)
    have em : t.many.toNat = m := by rw [hmn]; rfl
    show ((rowN ts ds (p * t.many.toNat + t.place d) : Nat) : Int) < ((p : Int) + 1) * (t.many * prodT ts)
    rw [em]
    have h1 : (((p * m + t.place d : Nat)) : Int) + 1 ≤ ((p : Int) + 1) * t.many := by
      rw [hmn] at lk ⊢
      rw [Int.natCast_add, Int.natCast_mul, Int.add_mul, Int.one_mul]
      omega
    have pos : 0 ≤ prodT ts := by have := prodT_pos ts hr; omega
    have h2 := Int.mul_le_mul_of_nonneg_right h1 pos
    rw [← Int.mul_assoc]
    omega
theorem tabX_loop {pl c : Fn1} (r ks vs : Slot) : ∀ (ts : List Ty) (ds : List D), All2 (fun (t : Ty) d => t.small ∧ PlaceX pl t ∧ CountOk c t ∧ d ∈ t.vals) ts ds → ∀ (p : Nat) (w : Wo) (x y : Slot), ∃ (x' y' : Slot),
    forL (bTup 2 (bCons (bName 4) (bCons (bName 5) bNil))) (tabB pl c) (((ts.map Ty.d).zip ds).map fun (p : D × D) => D.pr p.1 p.2) [r, ks, vs, .val (.int (p : Nat)), x, y] w = some (.ok .nx [r, ks, vs, .val (.int (rowN ts ds p : Nat)), x', y'] w)
  | _, _, .nil, p, w, x, y => ⟨x, y, rfl⟩
  | _, _, .cons (a := t) (b := d) (as := ts) (bs := ds) ⟨hs, hp, hc, hd⟩ rest, p, w, x, y => by
    obtain ⟨lk, ek⟩ := hp d hd
    have hm := t.many_le hs
    obtain ⟨m, hmn⟩ : ∃ m : Nat, t.many = (m : Nat) := ⟨t.many.toNat, (Int.toNat_of_nonneg (by omega)).symm⟩
    have em : t.many.toNat = m := by rw [hmn]; rfl
    have ib : inB t.many = true := inB_small (by omega)
    obtain ⟨x', y', eq⟩ := tabX_loop r ks vs ts ds rest (p * m + t.place d) w (.val t.d) (.val d)
    refine ⟨x', y', ?_⟩
    let ρ : Rho := [r, ks, vs, .val (.int (p : Nat)), .val t.d, .val d]
    have e1 : tabB pl c ρ w = some (.ok .nx [r, ks, vs, .val (.int ((p * m + t.place d : Nat) : Int)), .val t.d, .val d] w) := by
      have g1 : mBin mulD (getS 3) (mCall 1 c (mCons (getS 4) mNil)) ρ w = some (.ok (.int ((p : Int) * t.many)) ρ w) := bin_ok (ρ1 := ρ) (a := .int (p : Nat)) (b := .int t.many) rfl (call1 (ρ1 := ρ) rfl (hc w)) (by simp [mulD, ib])
      have g2 : mBin addD (mBin mulD (getS 3) (mCall 1 c (mCons (getS 4) mNil))) (mCall 2 pl (mCons (getS 4) (mCons (getS 5) mNil))) ρ w = some (.ok (.int ((p * m + t.place d : Nat) : Int)) ρ w) := bin_ok g1 (call2 (ρ1 := ρ) (ρ2 := ρ) rfl rfl (ek w)) (by rw [hmn]; simp [addD])
      exact set_ok g2
    show forL (bTup 2 (bCons (bName 4) (bCons (bName 5) bNil))) (tabB pl c) (D.pr t.d d :: ((ts.map Ty.d).zip ds).map fun (p : D × D) => D.pr p.1 p.2) [r, ks, vs, .val (.int (p : Nat)), x, y] w = some (.ok .nx [r, ks, vs, .val (.int (rowN ts ds (p * t.many.toNat + t.place d) : Nat)), x', y'] w)
    rw [em]
    unfold forL
    show (match tabB pl c ρ w with
      | some (.ok .nx ρ1 w1) => forL (bTup 2 (bCons (bName 4) (bCons (bName 5) bNil))) (tabB pl c) (((ts.map Ty.d).zip ds).map fun (p : D × D) => D.pr p.1 p.2) ρ1 w1
      | some (.ok .ct ρ1 w1) => forL (bTup 2 (bCons (bName 4) (bCons (bName 5) bNil))) (tabB pl c) (((ts.map Ty.d).zip ds).map fun (p : D × D) => D.pr p.1 p.2) ρ1 w1
      | some (.ok .br ρ1 w1) => some (.ok .nx ρ1 w1)
      | some (.ok (.rt d') ρ1 w1) => some (.ok (.rt d') ρ1 w1)
      | some (.exc x ρ1 w1) => some (.exc x ρ1 w1)
      | none => none) = _
    rw [e1]
    exact eq
def tabX (pl c : Fn1) : M Fl := (mSeq (mSet 3 (ret (.int 0))) (mSeq (mFor (bnd (mCons (getS 1) (mCons (getS 2) mNil)) fun ds => lft (zipMD ds)) (bTup 2 (bCons (bName 4) (bCons (bName 5) bNil))) (tabB pl c)) (mRet (mBin ixD (getS 0) (getS 3)))))
theorem tabX_run {pl c : Fn1} {ts : List Ty} {ds rs : List D} {ks : D} {d : D} (hk : seqOf ks = some (ts.map Ty.d)) (h : All2 (fun (t : Ty) d => t.small ∧ PlaceX pl t ∧ CountOk c t ∧ d ∈ t.vals) ts ds) (hx : rs[rowN ts ds 0]? = some d) (w : Wo) : gOf 3 6 (tabX pl c) [.tup rs, ks, .lst ds] w = some (.ok d w) := by
  obtain ⟨x', y', eq⟩ := tabX_loop (.val (.tup rs)) (.val ks) (.val (.lst ds)) ts ds h 0 w .free .free
  let ρ' : Rho := [.val (.tup rs), .val ks, .val (.lst ds), .val (.int (rowN ts ds 0 : Nat)), x', y']
  refine gOf_rt (ρ' := ρ') rfl ?_
  unfold tabX
  let ρ : Rho := [.val (.tup rs), .val ks, .val (.lst ds), .val (.int ((0 : Nat) : Int)), .free, .free]
  have e1 : mSet 3 (ret (.int 0)) [.val (.tup rs), .val ks, .val (.lst ds), .free, .free, .free] w = some (.ok .nx ρ w) := rfl
  have e0 : zipMD [ks, .lst ds] = some (((ts.map Ty.d).zip ds).map fun (p : D × D) => D.pr p.1 p.2) := by
    show ((seqOf ks).bind fun xs => (seqOf (.lst ds)).map fun ys => (xs.zip ys).map fun p => D.pr p.1 p.2) = _
    rw [hk]
    rfl
  have e2 : (bnd (mCons (getS 1) (mCons (getS 2) mNil)) fun ds => lft (zipMD ds)) ρ w = some (.ok (((ts.map Ty.d).zip ds).map fun (p : D × D) => D.pr p.1 p.2) ρ w) := by
    rw [bnd_ok (a := [ks, .lst ds]) (ρ' := ρ) (w' := w) rfl, e0]
    rfl
  have e3 : mFor (bnd (mCons (getS 1) (mCons (getS 2) mNil)) fun ds => lft (zipMD ds)) (bTup 2 (bCons (bName 4) (bCons (bName 5) bNil))) (tabB pl c) ρ w = some (.ok .nx ρ' w) := by
    unfold mFor
    rw [bnd_ok e2]
    exact eq
  refine (seq_nx e1).trans ((seq_nx e3).trans (ret_ok (bin_ok (a := .tup rs) (b := .int (rowN ts ds 0 : Nat)) (ρ1 := ρ') (ρ2 := ρ') rfl rfl ?_)))
  show atI rs (rowN ts ds 0 : Nat) = some d
  exact atI_nat hx
/-! ### the law's row number -/
def rowB (cv : Fn1) : M Fl := (mSeq (mSet 5 (mCall 1 cv (mCons (getS 4) mNil))) (mSet 2 (mBin addD (mBin mulD (getS 2) (bnd (mCons (getS 5) mNil) fun ds => lft (lenD ds))) (mIx (getS 5) (mCons (getS 3) mNil)))))
def rowM (cv : Fn1) : M Fl := (mSeq (mSet 2 (ret (.int 0))) (mSeq (mFor (bnd (mCons (getS 0) (mCons (getS 1) mNil)) fun ds => lft (zipMD ds)) (bTup 2 (bCons (bName 3) (bCons (bName 4) bNil))) (rowB cv)) (mRet (getS 2))))
theorem ix_ok {mo : M D} {m1 : M D} {ρ ρ1 ρ2 : Rho} {w w1 w2 : Wo} {ys : List D} {z d : D} (h : mo ρ w = some (.ok (.lst ys) ρ1 w1)) (h1 : m1 ρ1 w1 = some (.ok z ρ2 w2)) (e : lixD (.lst ys) [z] = some d) : mIx mo (mCons m1 mNil) ρ w = some (.ok d ρ2 w2) := by
  unfold mIx
  rw [bnd_ok h]
  dsimp only
  rw [bnd_ok (cons_ok h1 rfl), e]
  rfl
theorem row_loop {cv : Fn1} (v u : Slot) : ∀ (ts : List Ty) (ds : List D), All2 (fun (t : Ty) d => t.small ∧ t.deep ≤ 2 ∧ t.chk = true ∧ ValsOk cv t ∧ d ∈ t.vals) ts ds → ∀ (p : Nat) (w : Wo) (x y z : Slot), ∃ (x' y' z' : Slot),
    forL (bTup 2 (bCons (bName 3) (bCons (bName 4) bNil))) (rowB cv) ((ds.zip (ts.map Ty.d)).map fun (p : D × D) => D.pr p.1 p.2) [v, u, .val (.int (p : Nat)), x, y, z] w = some (.ok .nx [v, u, .val (.int (rowN ts ds p : Nat)), x', y', z'] w)
  | _, _, .nil, p, w, x, y, z => ⟨x, y, z, rfl⟩
  | _, _, .cons (a := t) (b := d) (as := ts) (bs := ds) ⟨hs, hd2, hc, hv, hd⟩ rest, p, w, x, y, z => by
    have hm := t.many_le hs
    have hl := t.vals_len hs
    obtain ⟨m, hmn⟩ : ∃ m : Nat, t.many = (m : Nat) := ⟨t.many.toNat, (Int.toNat_of_nonneg (by omega)).symm⟩
    have em : t.many.toNat = m := by rw [hmn]; rfl
    have ib : inB t.many = true := inB_small (by omega)
    obtain ⟨x', y', z', eq⟩ := row_loop v u ts ds rest (p * m + t.place d) w (.val d) (.val t.d) (.val (.lst t.vals))
    refine ⟨x', y', z', ?_⟩
    let ρ : Rho := [v, u, .val (.int (p : Nat)), .val d, .val t.d, z]
    let ρ1 : Rho := [v, u, .val (.int (p : Nat)), .val d, .val t.d, .val (.lst t.vals)]
    have e1 : rowB cv ρ w = some (.ok .nx [v, u, .val (.int ((p * m + t.place d : Nat) : Int)), .val d, .val t.d, .val (.lst t.vals)] w) := by
      have g0 : mSet 5 (mCall 1 cv (mCons (getS 4) mNil)) ρ w = some (.ok .nx ρ1 w) := set_ok (call1 (ρ1 := ρ) (a := t.d) rfl (hv w))
      have g3 : (bnd (mCons (getS 5) mNil) fun ds => lft (lenD ds)) ρ1 w = some (.ok (.int t.many) ρ1 w) := by
        rw [bnd_ok (cons_ok (d := .lst t.vals) (ρ1 := ρ1) (w1 := w) rfl rfl)]
        show some (Rs.ok (D.int (t.vals.length : Nat)) ρ1 w) = _
        rw [hl]
      have g1 : mBin mulD (getS 2) (bnd (mCons (getS 5) mNil) fun ds => lft (lenD ds)) ρ1 w = some (.ok (.int ((p : Int) * t.many)) ρ1 w) := bin_ok (ρ1 := ρ1) (a := .int (p : Nat)) (b := .int t.many) rfl g3 (by simp [mulD, ib])
      have g2 : mBin addD (mBin mulD (getS 2) (bnd (mCons (getS 5) mNil) fun ds => lft (lenD ds))) (mIx (getS 5) (mCons (getS 3) mNil)) ρ1 w = some (.ok (.int ((p * m + t.place d : Nat) : Int)) ρ1 w) := bin_ok g1 (ix_ok (ys := t.vals) (z := d) (ρ1 := ρ1) (w1 := w) rfl rfl (idx_of hd2 hc hd)) (by rw [hmn]; simp [addD])
      exact (seq_nx g0).trans (set_ok g2)
    show forL (bTup 2 (bCons (bName 3) (bCons (bName 4) bNil))) (rowB cv) (D.pr d t.d :: (ds.zip (ts.map Ty.d)).map fun (p : D × D) => D.pr p.1 p.2) [v, u, .val (.int (p : Nat)), x, y, z] w = some (.ok .nx [v, u, .val (.int (rowN ts ds (p * t.many.toNat + t.place d) : Nat)), x', y', z'] w)
    rw [em]
    unfold forL
    show (match rowB cv ρ w with
      | some (.ok .nx ρ1 w1) => forL (bTup 2 (bCons (bName 3) (bCons (bName 4) bNil))) (rowB cv) ((ds.zip (ts.map Ty.d)).map fun (p : D × D) => D.pr p.1 p.2) ρ1 w1
      | some (.ok .ct ρ1 w1) => forL (bTup 2 (bCons (bName 3) (bCons (bName 4) bNil))) (rowB cv) ((ds.zip (ts.map Ty.d)).map fun (p : D × D) => D.pr p.1 p.2) ρ1 w1
      | some (.ok .br ρ1 w1) => some (.ok .nx ρ1 w1)
      | some (.ok (.rt d') ρ1 w1) => some (.ok (.rt d') ρ1 w1)
      | some (.exc x ρ1 w1) => some (.exc x ρ1 w1)
      | none => none) = _
    rw [e1]
    exact eq
theorem row_run {cv : Fn1} {ts : List Ty} {ds : List D} (h : All2 (fun (t : Ty) d => t.small ∧ t.deep ≤ 2 ∧ t.chk = true ∧ ValsOk cv t ∧ d ∈ t.vals) ts ds) (w : Wo) : gOf 2 6 (rowM cv) [.lst ds, .lst (ts.map Ty.d)] w = some (.ok (.int (rowN ts ds 0 : Nat)) w) := by
  obtain ⟨x', y', z', eq⟩ := row_loop (.val (.lst ds)) (.val (.lst (ts.map Ty.d))) ts ds h 0 w .free .free .free
  let ρ' : Rho := [.val (.lst ds), .val (.lst (ts.map Ty.d)), .val (.int (rowN ts ds 0 : Nat)), x', y', z']
  refine gOf_rt (ρ' := ρ') rfl ?_
  unfold rowM
  let ρ : Rho := [.val (.lst ds), .val (.lst (ts.map Ty.d)), .val (.int ((0 : Nat) : Int)), .free, .free, .free]
  have e1 : mSet 2 (ret (.int 0)) [.val (.lst ds), .val (.lst (ts.map Ty.d)), .free, .free, .free, .free] w = some (.ok .nx ρ w) := rfl
  have e2 : (bnd (mCons (getS 0) (mCons (getS 1) mNil)) fun ds => lft (zipMD ds)) ρ w = some (.ok ((ds.zip (ts.map Ty.d)).map fun (p : D × D) => D.pr p.1 p.2) ρ w) := rfl
  have e3 : mFor (bnd (mCons (getS 0) (mCons (getS 1) mNil)) fun ds => lft (zipMD ds)) (bTup 2 (bCons (bName 3) (bCons (bName 4) bNil))) (rowB cv) ρ w = some (.ok .nx ρ' w) := by
    unfold mFor
    rw [bnd_ok e2]
    exact eq
  exact (seq_nx e1).trans ((seq_nx e3).trans (ret_ok rfl))
end DL
set_option Elab.async false
set_option linter.all false
set_option maxRecDepth 100000
set_option maxHeartbeats 4000001
/-! DM4: values of ops, on both sides. -/
namespace DL
open PySem PyProof.Rows PySem.Spec L2 RZ StX
def lopM (cv : Fn1) : M Fl := (mSeq (mPar 3 4 (mCons (mBin ixD (getS 2) (ret (.int 0))) (mCons (mBin ixD (getS 2) (mNeg (ret (.int 1)))) mNil))) (mSeq (mIte (mBinT eqD (getS 0) (ret (.str "plus"))) (mRet (mBin modD (mBin addD (getS 3) (getS 4)) (mBin ixD (mBin ixD (getS 1) (ret (.int 0))) (ret (.int 1))))) (ret .nx)) (mSeq (mIte (mBinT eqD (getS 0) (ret (.str "pair"))) (mRet (mTup (mCons (getS 3) (mCons (getS 4) mNil)))) (ret .nx)) (mSeq (mIte (mBinT inD (getS 0) (mTup (mCons (ret (.str "first")) (mCons (ret (.str "second")) mNil)))) (mRet (mBin ixD (getS 3) (bnd (mCons (mBin eqD (getS 0) (ret (.str "second"))) mNil) fun ds => lft (int1D ds)))) (ret .nx)) (mSeq (mIte (mBinT eqD (getS 0) (ret (.str "less"))) (mSet 5 (mBin ltD (mIx (mCall 1 cv (mCons (mBin ixD (getS 1) (ret (.int 0))) mNil)) (mCons (getS 3) mNil)) (mIx (mCall 1 cv (mCons (mBin ixD (getS 1) (ret (.int 0))) mNil)) (mCons (getS 4) mNil)))) (mSet 5 (mDget ["not", "and", "or", "same"] (mCons (mBin eqD (getS 3) (ret (.str "no"))) (mCons (mBin niD (ret (.str "no")) (getS 2)) (mCons (mBin inD (ret (.str "yes")) (getS 2)) (mCons (mBin eqD (getS 3) (getS 4)) mNil)))) (getS 0)))) (mRet (mIte (mVal (getS 5)) (ret (.str "yes")) (ret (.str "no")))))))))
def lopF (cv : Fn1) : Fn1 := gOf 3 6 (lopM cv)
/-- both sides tell the same value of an op -/
def OpEq (co cv : Fn1) (x : Str) (ts : List Ty) (vs : List D) : Prop := ∃ d, dat 50 d = true ∧ (∀ Ks, ixD Ks (.int 0) = (ts.map Ty.d)[0]? → ∀ w, opF co [.str x, Ks, .lst vs] w = some (.ok d w)) ∧ ∀ w, lopF cv [.str x, .lst (ts.map Ty.d), .lst vs] w = some (.ok d w)
theorem yn_two {d : D} (h : d ∈ tyYN.vals) : d = .str "no" ∨ d = .str "yes" := by
  have h : d ∈ [D.str "no", D.str "yes"] := h
  simpa using h
section
variable {co cv : Fn1}
theorem oe_not {x : D} (h : x ∈ tyYN.vals) : OpEq co cv "not" [tyYN] [x] := by
  rcases yn_two h with e | e <;> subst e
  · exact ⟨.str "yes", by simp [dat], fun Ks _ w => by rfl, fun w => by rfl⟩
  · exact ⟨.str "no", by simp [dat], fun Ks _ w => by rfl, fun w => by rfl⟩
theorem oe_and {x y : D} (h : x ∈ tyYN.vals) (g : y ∈ tyYN.vals) : OpEq co cv "and" [tyYN, tyYN] [x, y] := by
  rcases yn_two h with e | e <;> subst e <;> rcases yn_two g with e | e <;> subst e
  · exact ⟨.str "no", by simp [dat], fun Ks _ w => by rfl, fun w => by rfl⟩
  · exact ⟨.str "no", by simp [dat], fun Ks _ w => by rfl, fun w => by rfl⟩
  · exact ⟨.str "no", by simp [dat], fun Ks _ w => by rfl, fun w => by rfl⟩
  · exact ⟨.str "yes", by simp [dat], fun Ks _ w => by rfl, fun w => by rfl⟩
theorem oe_or {x y : D} (h : x ∈ tyYN.vals) (g : y ∈ tyYN.vals) : OpEq co cv "or" [tyYN, tyYN] [x, y] := by
  rcases yn_two h with e | e <;> subst e <;> rcases yn_two g with e | e <;> subst e
  · exact ⟨.str "no", by simp [dat], fun Ks _ w => by rfl, fun w => by rfl⟩
  · exact ⟨.str "yes", by simp [dat], fun Ks _ w => by rfl, fun w => by rfl⟩
  · exact ⟨.str "yes", by simp [dat], fun Ks _ w => by rfl, fun w => by rfl⟩
  · exact ⟨.str "yes", by simp [dat], fun Ks _ w => by rfl, fun w => by rfl⟩
theorem oe_first {t : Ty} {a b : D} (ha : dat 50 a = true) : OpEq co cv "first" [t] [.tup [a, b]] := ⟨a, ha, fun Ks _ w => by rfl, fun w => by rfl⟩
theorem oe_second {t : Ty} {a b : D} (hb : dat 50 b = true) : OpEq co cv "second" [t] [.tup [a, b]] := ⟨b, hb, fun Ks _ w => by rfl, fun w => by rfl⟩
theorem oe_pair {t u : Ty} {a b : D} (ha : dat 49 a = true) (hb : dat 49 b = true) : OpEq co cv "pair" [t, u] [a, b] := ⟨.tup [a, b], by simp [dat, dats, ha, hb], fun Ks _ w => by rfl, fun w => by rfl⟩
/-- the remainder's expression -/
theorem plus_run {ρ : Rho} {w : Wo} {Ks : D} {i j n : Int} (hn : 0 < n) (g1 : getS 1 ρ w = some (.ok Ks ρ w)) (g3 : getS 3 ρ w = some (.ok (.int i) ρ w)) (g4 : getS 4 ρ w = some (.ok (.int j) ρ w)) (hK : ixD Ks (.int 0) = some (Ty.d (.cnt n))) :
    mBin modD (mBin addD (getS 3) (getS 4)) (mBin ixD (mBin ixD (getS 1) (ret (.int 0))) (ret (.int 1))) ρ w = some (.ok (.int ((i + j) % n)) ρ w) :=
  bin_ok (a := .int (i + j)) (b := .int n) (ρ1 := ρ) (w1 := w) (bin_ok g3 g4 rfl) (bin_ok (a := Ty.d (.cnt n)) (ρ1 := ρ) (w1 := w) (b := .int 1) (bin_ok (b := .int 0) g1 rfl hK) rfl (at1 _ _ _)) (by simp [modD, intD, hn])
theorem oe_plus {n : Int} (hn : 0 < n) (i j : Int) : OpEq co cv "plus" [.cnt n, .cnt n] [.int i, .int j] := by
  refine ⟨.int ((i + j) % n), by simp [dat], fun Ks hK w => ?_, fun w => ?_⟩
  · refine gOf_rt (ρ' := [.val (.str "plus"), .val Ks, .val (.lst [.int i, .int j]), .val (.int i), .val (.int j)]) rfl (op_two (by decide +kernel) (by decide +kernel) (by decide +kernel) ?_)
    exact (seq_if_no (word_run (by decide +kernel))).trans (seq_if_yes (word_run (by decide +kernel)) (plus_run hn rfl rfl rfl hK))
  · refine gOf_rt (ρ' := [.val (.str "plus"), .val (.lst [Ty.d (.cnt n), Ty.d (.cnt n)]), .val (.lst [.int i, .int j]), .val (.int i), .val (.int j), .free]) rfl ?_
    unfold lopM
    exact (seq_nx (ρ' := [.val (.str "plus"), .val (.lst [Ty.d (.cnt n), Ty.d (.cnt n)]), .val (.lst [.int i, .int j]), .val (.int i), .val (.int j), .free]) (w' := w) rfl).trans (seq_if_yes (word_run (by decide +kernel)) (plus_run hn rfl rfl rfl (at0 _ _)))
/-- op_value, where its last branch is reached -/
theorem op_comp' {x : Str} {k a b Ks d : D} {w : Wo} (h1 : (x == (Str.ofString "not")) = false) (h2 : (x == (Str.ofString "first")) = false) (h3 : (x == (Str.ofString "second")) = false) (h4 : (x == (Str.ofString "pair")) = false) (h5 : (x == (Str.ofString "plus")) = false) (h6 : ((Str.ofString "and") == x || (Str.ofString "or") == x) = false)
    (hK : ixD Ks (.int 0) = some k) (h : co [.str x, k, a, b] w = some (.ok d w)) : opF co [.str x, Ks, .lst [a, b]] w = some (.ok d w) := by
  let ρ : Rho := [.val (.str x), .val Ks, .val (.lst [a, b]), .val a, .val b]
  refine gOf_rt (ρ' := ρ) rfl (op_two h1 h2 h3 ?_)
  refine (seq_if_no (word_run h4)).trans ((seq_if_no (word_run h5)).trans ((seq_if_no (ρ' := ρ) (w' := w) ?_).trans (ret_ok ?_)))
  · have e := in_two x
    rw [h6] at e
    simp [mBinT, bnd, getS, ret, mTup, mCons, mNil, asB, e, ρ]
  · have b1 : mBin ixD (getS 1) (ret (.int 0)) ρ w = some (.ok k ρ w) := bin_ok (ρ1 := ρ) (a := Ks) (b := .int 0) rfl rfl hK
    have a1 : mCons (getS 0) (mCons (mBin ixD (getS 1) (ret (.int 0))) (mCons (getS 3) (mCons (getS 4) mNil))) ρ w = some (.ok [.str x, k, a, b] ρ w) := cons_ok (ρ1 := ρ) rfl (cons_ok b1 rfl)
    unfold mCall
    rw [bnd_ok a1]
    show (match co [.str x, k, a, b] w with
      | some (.ok d w') => some (Rs.ok d ρ w')
      | some (.exc x w') => some (.exc x ρ w')
      | none => none) = _
    rw [h]
theorem last_run {b : Bool} {ρ : Rho} {w : Wo} (h : getS 5 ρ w = some (.ok (.bl b) ρ w)) : (mRet (mIte (mVal (getS 5)) (ret (.str "yes")) (ret (.str "no")))) ρ w = some (.ok (.rt (yn b)) ρ w) := by
  refine ret_ok ?_
  unfold mIte
  rw [bnd_ok (mVal_ok h)]
  cases b <;> rfl
theorem oe_same {pl : Fn1} {t : Ty} {a b : D} (ht : t.deep ≤ 2) (ha : a ∈ t.vals) (hb : b ∈ t.vals) : OpEq (compF pl) cv "same" [t, t] [a, b] := by
  have da : dat 60 a = true := in_dat ha ht (by decide)
  have db : dat 60 b = true := in_dat hb ht (by decide)
  have da9 : dat 59 a = true := in_dat ha ht (by decide)
  have db9 : dat 59 b = true := in_dat hb ht (by decide)
  refine ⟨yn (deq a b), yn_dat _ _, fun Ks hK w => op_comp' (k := t.d) (by decide +kernel) (by decide +kernel) (by decide +kernel) (by decide +kernel) (by decide +kernel) (by decide +kernel) hK (comp_same _ _ a b da db w), fun w => ?_⟩
  let ρ : Rho := [.val (.str "same"), .val (.lst [t.d, t.d]), .val (.lst [a, b]), .val a, .val b, .free]
  let ρ' : Rho := [.val (.str "same"), .val (.lst [t.d, t.d]), .val (.lst [a, b]), .val a, .val b, .val (.bl (deq a b))]
  refine gOf_rt (ρ' := ρ') rfl ?_
  unfold lopM
  have e0 : eqD a (.str "no") = some (.bl (deq a (.str "no"))) := eq_dat da (by simp [dat])
  have e1 : inD (.str "no") (.lst [a, b]) = some (.bl (memD (.str "no") [a, b])) := by simp [inD, dat, dats, da9, db9]
  have e2 : inD (.str "yes") (.lst [a, b]) = some (.bl (memD (.str "yes") [a, b])) := by simp [inD, dat, dats, da9, db9]
  have e1' : niD (.str "no") (.lst [a, b]) = some (.bl (!memD (.str "no") [a, b])) := by
    unfold niD
    rw [e1]
    rfl
  have e3 : eqD a b = some (.bl (deq a b)) := eq_dat da db
  refine (seq_nx (ρ' := ρ) (w' := w) rfl).trans ((seq_if_no (word_run (by decide +kernel))).trans ((seq_if_no (word_run (by decide +kernel))).trans ((seq_if_no (ρ' := ρ) (w' := w) rfl).trans ((seq_nx (ρ' := ρ') (w' := w) ?_).trans (last_run rfl)))))
  refine (ite_run (b := false) (ρ' := ρ) (w' := w) (word_run (by decide +kernel))).trans ?_
  rw [if_neg (by decide)]
  refine set_ok (ρ1 := ρ) ?_
  unfold mDget
  rw [bnd_ok (cons_ok (bin_ok (a := a) (b := .str "no") (ρ1 := ρ) (ρ2 := ρ) (w1 := w) (w2 := w) rfl rfl e0) (cons_ok (bin_ok (a := .str "no") (b := .lst [a, b]) (ρ1 := ρ) (ρ2 := ρ) (w1 := w) (w2 := w) rfl rfl e1') (cons_ok (bin_ok (a := .str "yes") (b := .lst [a, b]) (ρ1 := ρ) (ρ2 := ρ) (w1 := w) (w2 := w) rfl rfl e2) (cons_ok (bin_ok (a := a) (b := b) (ρ1 := ρ) (ρ2 := ρ) (w1 := w) (w2 := w) rfl rfl e3) rfl))))]
  rfl
theorem oe_less {pl : Fn1} {t : Ty} {a b : D} (ht : t.deep ≤ 2) (hc : t.chk = true) (hp : PlaceX pl t) (hv : ValsOk cv t) (ha : a ∈ t.vals) (hb : b ∈ t.vals) : OpEq (compF pl) cv "less" [t, t] [a, b] := by
  refine ⟨yn (decide ((t.place a : Int) < (t.place b : Int))), yn_dat _ _, fun Ks hK w => op_comp' (k := t.d) (by decide +kernel) (by decide +kernel) (by decide +kernel) (by decide +kernel) (by decide +kernel) (by decide +kernel) hK ?_, fun w => ?_⟩
  · let ρ : Rho := [.val (.str "less"), .val t.d, .val a, .val b]
    refine gOf_rt (ρ' := ρ) rfl ?_
    unfold compM
    refine (seq_if_no (word_run (by decide +kernel))).trans (ret_ok (call1 (a := .bl (decide ((t.place a : Int) < (t.place b : Int)))) (ρ1 := ρ) ?_ (truth_run _ _)))
    exact bin_ok (ρ1 := ρ) (a := .int (t.place a : Nat)) (b := .int (t.place b : Nat)) (call2 (ρ1 := ρ) (ρ2 := ρ) rfl rfl ((hp a ha).2 w)) (call2 (ρ1 := ρ) (ρ2 := ρ) rfl rfl ((hp b hb).2 w)) rfl
  · let ρ : Rho := [.val (.str "less"), .val (.lst [t.d, t.d]), .val (.lst [a, b]), .val a, .val b, .free]
    let ρ' : Rho := [.val (.str "less"), .val (.lst [t.d, t.d]), .val (.lst [a, b]), .val a, .val b, .val (.bl (decide ((t.place a : Int) < (t.place b : Int))))]
    refine gOf_rt (ρ' := ρ') rfl ?_
    unfold lopM
    refine (seq_nx (ρ' := ρ) (w' := w) rfl).trans ((seq_if_no (word_run (by decide +kernel))).trans ((seq_if_no (word_run (by decide +kernel))).trans ((seq_if_no (ρ' := ρ) (w' := w) rfl).trans ((seq_nx (ρ' := ρ') (w' := w) ?_).trans (last_run rfl)))))
    refine (ite_run (b := true) (ρ' := ρ) (w' := w) (word_run (by decide +kernel))).trans ?_
    rw [if_pos rfl]
    have k0 : mBin ixD (getS 1) (ret (.int 0)) ρ w = some (.ok t.d ρ w) := bin_ok (ρ1 := ρ) (w1 := w) (a := .lst [t.d, t.d]) (b := .int 0) rfl rfl (at0 _ _)
    exact set_ok (ρ1 := ρ) (bin_ok (ρ1 := ρ) (w1 := w) (a := .int (t.place a : Nat)) (b := .int (t.place b : Nat)) (ix_ok (ρ1 := ρ) (w1 := w) (ys := t.vals) (z := a) (call1 k0 (hv w)) rfl (idx_of ht hc ha)) (ix_ok (ρ1 := ρ) (w1 := w) (ys := t.vals) (z := b) (call1 k0 (hv w)) rfl (idx_of ht hc hb)) rfl)
end
/-! ### value_by -/
theorem value_opX {co ct : Fn1} {R x Ks vs d : D} (h0 : ixD R (.int 0) = some (.str "op")) (h1 : ixD R (.int 1) = some x) (e : ∀ w, co [x, Ks, vs] w = some (.ok d w)) (w : Wo) : gOf 3 3 (valueM co ct) [R, Ks, vs] w = some (.ok d w) := by
  let ρ : Rho := [.val R, .val Ks, .val vs]
  refine gOf_rt (ρ' := ρ) rfl ?_
  unfold valueM
  exact seq_if_yes (ρ' := ρ) (w' := w) (head_run rfl h0 (by decide +kernel)) (call3 (ρ1 := ρ) (ρ2 := ρ) (ρ3 := ρ) (bin_ok (ρ1 := ρ) (b := .int 1) rfl rfl h1) rfl rfl (e w))
theorem value_tabX {co ct : Fn1} {R x Ks vs d : D} (h0 : ixD R (.int 0) = some (.str "table")) (h1 : ixD R (.int 2) = some x) (e : ∀ w, ct [x, Ks, vs] w = some (.ok d w)) (w : Wo) : gOf 3 3 (valueM co ct) [R, Ks, vs] w = some (.ok d w) := by
  let ρ : Rho := [.val R, .val Ks, .val vs]
  refine gOf_rt (ρ' := ρ) rfl ?_
  unfold valueM
  exact (seq_if_no (ρ' := ρ) (w' := w) (head_run rfl h0 (by decide +kernel))).trans (ret_ok (call3 (ρ1 := ρ) (ρ2 := ρ) (ρ3 := ρ) (bin_ok (ρ1 := ρ) (b := .int 2) rfl rfl h1) rfl rfl (e w)))
end DL
set_option Elab.async false
set_option linter.all false
set_option maxRecDepth 100000
set_option maxHeartbeats 4000001
/-! DM5: standings by the law's own table. -/
namespace DL
open PySem PyProof.Rows PySem.Spec L2 RZ StX
def ls10 (it ch lo rn : Fn1) : M Fl := (mRet (mIte (mVal (bnd (mCons (mLc [6] (bnd (getS 1) fun d => lft (itemsD d)) (bName 6) (ret true) (mCall 1 it (mCons (getS 6) mNil))) mNil) fun ds => lft (anyD ds))) (mTup (mCons (ret (.str "there")) mNil)) (mTup (mCons (ret (.str "unknown")) mNil))))
def ls9 (it ch lo rn : Fn1) : M Fl := mSeq (mIte (mAnd (mBinT inD (mBin ixD (getS 0) (ret (.int 0))) (mTup (mCons (ret (.str "op")) (mCons (ret (.str "table")) mNil)))) (mVal (bnd (mCons (mLc [6] (bnd (getS 1) fun d => lft (itemsD d)) (bName 6) (ret true) (mBin eqD (mBin ixD (getS 6) (ret (.int 0))) (ret (.str "value")))) mNil) fun ds => lft (allD ds)))) (mSeq (mSet 4 (mLc [6] (bnd (getS 1) fun d => lft (itemsD d)) (bName 6) (ret true) (mBin ixD (getS 6) (ret (.int 1))))) (mSeq (mSet 5 (mBin eqD (mBin ixD (getS 0) (ret (.int 0))) (ret (.str "op")))) (mRet (mTup (mCons (ret (.str "value")) (mCons (mIte (mVal (getS 5)) (mCall 3 lo (mCons (mBin ixD (getS 0) (ret (.int 1))) (mCons (getS 3) (mCons (getS 4) mNil)))) (mBin ixD (mBin ixD (getS 0) (ret (.int 2))) (mCall 2 rn (mCons (getS 4) (mCons (getS 3) mNil))))) mNil)))))) (ret .nx)) (ls10 it ch lo rn)
def ls8 (it ch lo rn : Fn1) : M Fl := mSeq (mIte (mAnd (mBinT eqD (mBin ixD (getS 0) (ret (.int 0))) (ret (.str "arg"))) (mBinT eqD (mBin ixD (mBin ixD (getS 1) (mBin ixD (getS 0) (ret (.int 2)))) (ret (.int 0))) (ret (.str "value")))) (mRet (mBin ixD (getS 1) (mBin ixD (getS 0) (ret (.int 2))))) (ret .nx)) (ls9 it ch lo rn)
def ls7 (it ch lo rn : Fn1) : M Fl := mSeq (mIte (mBinT eqD (mBin ixD (getS 0) (ret (.int 0))) (ret (.str "when"))) (mSeq (mIte (mBinT neD (mBin ixD (mBin ixD (getS 1) (ret (.int 1))) (ret (.int 0))) (ret (.str "value"))) (mRet (mTup (mCons (ret (.str "unknown")) mNil))) (ret .nx)) (mRet (mIte (mBinT eqD (mBin ixD (mBin ixD (getS 1) (ret (.int 1))) (ret (.int 1))) (mBin ixD (getS 0) (ret (.int 3)))) (mBin ixD (getS 1) (ret (.int 0))) (mTup (mCons (ret (.str "absent")) mNil))))) (ret .nx)) (ls8 it ch lo rn)
def ls6 (it ch lo rn : Fn1) : M Fl := mSeq (mIte (mBinT inD (mTup (mCons (ret (.str "absent")) mNil)) (getS 1)) (mRet (mTup (mCons (ret (.str "absent")) mNil))) (ret .nx)) (ls7 it ch lo rn)
def ls5 (it ch lo rn : Fn1) : M Fl := mSeq (mIte (mBinT eqD (mBin ixD (getS 0) (ret (.int 0))) (ret (.str "held"))) (mRet (mIte (mVal (mCall 1 it (mCons (mBin ixD (getS 1) (ret (.int 1))) mNil))) (mTup (mCons (ret (.str "value")) (mCons (getS 2) mNil))) (mBin ixD (getS 1) (ret (.int 1))))) (ret .nx)) (ls6 it ch lo rn)
def ls4 (it ch lo rn : Fn1) : M Fl := mSeq (mIte (mAnd (mBinT inD (mTup (mCons (ret (.str "absent")) mNil)) (getS 1)) (mVal (bnd (mCons (mLc [6] (bnd (getS 1) fun d => lft (itemsD d)) (bName 6) (ret true) (mCall 1 it (mCons (getS 6) mNil))) mNil) fun ds => lft (anyD ds)))) (mRet (mTup (mCons (ret (.str "clash")) mNil))) (ret .nx)) (ls5 it ch lo rn)
def ls3 (it ch lo rn : Fn1) : M Fl := mSeq (mIte (mBinT eqD (mBin ixD (getS 0) (ret (.int 0))) (ret (.str "choose"))) (mRet (mCall 2 ch (mCons (getS 1) (mCons (mBin ixD (mBin ixD (getS 3) (ret (.int 0))) (ret (.int 1))) mNil)))) (ret .nx)) (ls4 it ch lo rn)
def ls2 (it ch lo rn : Fn1) : M Fl := mSeq (mIte (mBinT eqD (mBin ixD (getS 0) (ret (.int 0))) (ret (.str "const"))) (mRet (mIte (mVal (mCall 1 it (mCons (mBin ixD (getS 1) (ret (.int 0))) mNil))) (mTup (mCons (ret (.str "value")) (mCons (mBin ixD (getS 0) (ret (.int 2))) mNil))) (mBin ixD (getS 1) (ret (.int 0))))) (ret .nx)) (ls3 it ch lo rn)
def ls1 (it ch lo rn : Fn1) : M Fl := mSeq (mIte (mBinT eqD (mBin ixD (getS 0) (ret (.int 0))) (ret (.str "as"))) (mRet (mBin ixD (getS 1) (ret (.int 0)))) (ret .nx)) (ls2 it ch lo rn)
def ls0 (it ch lo rn : Fn1) : M Fl := mSeq (mIte (mBinT inD (mTup (mCons (ret (.str "clash")) mNil)) (getS 1)) (mRet (mTup (mCons (ret (.str "clash")) mNil))) (ret .nx)) (ls1 it ch lo rn)
def lc6 (it : Fn1) : M Fl := (mRet (mIte (mBinT eqD (mBin ixD (mBin ixD (getS 3) (getS 4)) (ret (.int 0))) (ret (.str "value"))) (mBin ixD (getS 3) (getS 4)) (mTup (mCons (ret (.str "there")) mNil))))
def lc5 (it : Fn1) : M Fl := mSeq (mIte (mOr (mBinT eqD (mBin ixD (getS 3) (getS 4)) (mTup (mCons (ret (.str "absent")) mNil))) (mVal (bnd (mCons (mLc [7] (bnd (getS 5) fun d => lft (itemsD d)) (bName 7) (ret true) (mCall 1 it (mCons (getS 7) mNil))) mNil) fun ds => lft (anyD ds)))) (mRet (mTup (mCons (ret (.str "clash")) mNil))) (ret .nx)) (lc6 it)
def lc4 (it : Fn1) : M Fl := mSeq (mSet 5 (mBin addD (mSl (getS 3) (ret none) (bnd (getS 4) (kInt fun i => ret (some i)))) (mSl (getS 3) (bnd (mBin addD (getS 4) (ret (.int 1))) (kInt fun i => ret (some i))) (ret none)))) (lc5 it)
def lc3 (it : Fn1) : M Fl := mSeq (mSet 4 (mIx (bnd (mCons (getS 1) mNil) fun ds => lft (listD ds)) (mCons (mBin ixD (getS 2) (ret (.int 1))) mNil))) (lc4 it)
def lc2 (it : Fn1) : M Fl := mSeq (mIte (mBinT eqD (mBin ixD (getS 2) (ret (.int 0))) (ret (.str "there"))) (mRet (getS 2)) (ret .nx)) (lc3 it)
def lc1 (it : Fn1) : M Fl := mSeq (mIte (mBinT inD (mBin ixD (getS 2) (ret (.int 0))) (mTup (mCons (ret (.str "absent")) (mCons (ret (.str "unknown")) mNil)))) (mSeq (mSet 6 (mAndV (mBin eqD (mBin ixD (getS 2) (ret (.int 0))) (ret (.str "absent"))) (bnd (mCons (mLc [7] (bnd (getS 3) fun d => lft (itemsD d)) (bName 7) (ret true) (mCall 1 it (mCons (getS 7) mNil))) mNil) fun ds => lft (anyD ds)))) (mRet (mIte (mVal (getS 6)) (mTup (mCons (ret (.str "clash")) mNil)) (getS 2)))) (ret .nx)) (lc2 it)
def lc0 (it : Fn1) : M Fl := mSeq (mPar 2 3 (mCons (mBin ixD (getS 0) (ret (.int 0))) (mCons (mSl (getS 0) (bnd (ret (.int 1)) (kInt fun i => ret (some i))) (ret none)) mNil))) (lc1 it)
def lsF (it ch lo rn : Fn1) : Fn1 := gOf 4 7 (ls0 it ch lo rn)
def lcF (it : Fn1) : Fn1 := gOf 2 8 (lc0 it)
def itM : M Fl := (mRet (mBin inD (mBin ixD (getS 0) (ret (.int 0))) (mTup (mCons (ret (.str "there")) (mCons (ret (.str "value")) mNil)))))
def itF : Fn1 := gOf 1 1 itM
theorem itF_ok : HereOk itF := fun s _ w => by
  cases s with
  | unk => rfl
  | abs => rfl
  | thr => rfl
  | cla => rfl
  | val d => rfl
abbrev lR (R mem Kl : D) (l : List St) : Rho := [.val R, .val (stL l), .val mem, .val Kl, .free, .free, .free]
theorem in_opt (x : Str) : inD (.str x) (.tup [.str "op", .str "table"]) = some (.bl (((Str.ofString "op") == x) || ((Str.ofString "table") == x))) := by
  simp [inD, dat, dats, memD, deq]
section
variable {it ch lo rn : Fn1} {R mem Kl : D} {l : List St} {x : Str} {w : Wo}
theorem l_cla (g : Good l) : mBinT inD (mTup (mCons (ret (.str "clash")) mNil)) (getS 1) (lR R mem Kl l) w = some (.ok (l.any St.isCla) (lR R mem Kl l) w) := by
  have a : mTup (mCons (ret (.str "clash")) mNil) (lR R mem Kl l) w = some (.ok (St.d .cla) (lR R mem Kl l) w) := rfl
  have b : getS 1 (lR R mem Kl l) w = some (.ok (stL l) (lR R mem Kl l) w) := rfl
  unfold mBinT
  rw [bnd_ok a, bnd_ok b, in_cla l g.2]
  rfl
theorem l_abs (g : Good l) : mBinT inD (mTup (mCons (ret (.str "absent")) mNil)) (getS 1) (lR R mem Kl l) w = some (.ok (l.any St.isAbs) (lR R mem Kl l) w) := by
  have a : mTup (mCons (ret (.str "absent")) mNil) (lR R mem Kl l) w = some (.ok (St.d .abs) (lR R mem Kl l) w) := rfl
  have b : getS 1 (lR R mem Kl l) w = some (.ok (stL l) (lR R mem Kl l) w) := rfl
  unfold mBinT
  rw [bnd_ok a, bnd_ok b, in_abs l g.2]
  rfl
theorem l_any (hc : HereOk it) (g : Good l) : mVal (bnd (mCons (mLc [6] (bnd (getS 1) fun d => lft (itemsD d)) (bName 6) (ret true) (mCall 1 it (mCons (getS 6) mNil))) mNil) fun ds => lft (anyD ds)) (lR R mem Kl l) w = some (.ok (l.any St.here) (lR R mem Kl l) w) :=
  mVal_ok (anyHere hc (i := 6) (mi := bnd (getS 1) fun d => lft (itemsD d)) (ρ := lR R mem Kl l) (w0 := w) (w := w) l g.1 g.2 rfl (by show 6 < 7; decide))
theorem l_all (g : Good l) : mVal (bnd (mCons (mLc [6] (bnd (getS 1) fun d => lft (itemsD d)) (bName 6) (ret true) (mBin eqD (mBin ixD (getS 6) (ret (.int 0))) (ret (.str "value")))) mNil) fun ds => lft (allD ds)) (lR R mem Kl l) w = some (.ok (l.all St.isVal) (lR R mem Kl l) w) :=
  mVal_ok (allVal (i := 6) (mi := bnd (getS 1) fun d => lft (itemsD d)) (ρ := lR R mem Kl l) (w0 := w) (w := w) l g.1 rfl (by show 6 < 7; decide))
theorem l_part (hc : HereOk it) (g : Good l) : mAnd (mBinT inD (mTup (mCons (ret (.str "absent")) mNil)) (getS 1)) (mVal (bnd (mCons (mLc [6] (bnd (getS 1) fun d => lft (itemsD d)) (bName 6) (ret true) (mCall 1 it (mCons (getS 6) mNil))) mNil) fun ds => lft (anyD ds))) (lR R mem Kl l) w = some (.ok (part l) (lR R mem Kl l) w) := by
  unfold mAnd part
  rw [bnd_ok (l_abs g)]
  cases l.any St.isAbs with
  | false => rfl
  | true => exact l_any hc g
theorem l_hd (hR : ixD R (.int 0) = some (.str x)) {y : Str} {b : Bool} (e : (x == y) = b) : mBinT eqD (mBin ixD (getS 0) (ret (.int 0))) (ret (.str y)) (lR R mem Kl l) w = some (.ok b (lR R mem Kl l) w) := head_run rfl hR e
theorem l_last (hc : HereOk it) (g : Good l) : ls10 it ch lo rn (lR R mem Kl l) w = some (.ok (.rt (if l.any St.here = true then St.thr else St.unk).d) (lR R mem Kl l) w) := by
  unfold ls10
  refine ret_ok ?_
  unfold mIte
  rw [bnd_ok (l_any hc g)]
  cases l.any St.here <;> rfl
/-- neither op nor table: past that branch -/
theorem l_nine (hR : ixD R (.int 0) = some (.str x)) (h : ((Str.ofString "op") == x || (Str.ofString "table") == x) = false) : ls9 it ch lo rn (lR R mem Kl l) w = ls10 it ch lo rn (lR R mem Kl l) w := by
  unfold ls9
  refine seq_if_no ?_
  have a : mBin ixD (getS 0) (ret (.int 0)) (lR R mem Kl l) w = some (.ok (.str x) (lR R mem Kl l) w) := bin_ok (a := R) (b := .int 0) (ρ1 := lR R mem Kl l) (w1 := w) rfl rfl hR
  have b : mTup (mCons (ret (.str "op")) (mCons (ret (.str "table")) mNil)) (lR R mem Kl l) w = some (.ok (.tup [.str "op", .str "table"]) (lR R mem Kl l) w) := rfl
  have e := in_opt x
  rw [h] at e
  have t : mBinT inD (mBin ixD (getS 0) (ret (.int 0))) (mTup (mCons (ret (.str "op")) (mCons (ret (.str "table")) mNil))) (lR R mem Kl l) w = some (.ok false (lR R mem Kl l) w) := by
    unfold mBinT
    rw [bnd_ok a, bnd_ok b, e]
    rfl
  unfold mAnd
  rw [bnd_ok t]
  rfl
theorem ls_top (g : Good l) {r : Rl} (h : l.any St.isCla = false → ∃ ρ', ls1 it ch lo rn (lR R mem Kl l) w = some (.ok (.rt (r l).d) ρ' w)) : lsF it ch lo rn [R, stL l, mem, Kl] w = some (.ok (stand r l).d w) := by
  have run : ∃ ρ', ls0 it ch lo rn (lR R mem Kl l) w = some (.ok (.rt (stand r l).d) ρ' w) := by
    unfold ls0 stand
    have h0 := l_cla (R := R) (mem := mem) (Kl := Kl) (w := w) g
    by_cases c : l.any St.isCla = true
    · rw [if_pos c]
      rw [c] at h0
      exact ⟨_, seq_if_yes h0 rfl⟩
    · rw [if_neg c]
      rw [Bool.not_eq_true] at c
      rw [c] at h0
      rw [seq_if_no h0]
      exact h c
  obtain ⟨ρ', run⟩ := run
  exact gOf_rt (ρ' := ρ') rfl run
theorem ls_as {s : St} {bs : List St} (g : Good (s :: bs)) (hR : ixD R (.int 0) = some (.str "as")) : lsF it ch lo rn [R, stL (s :: bs), mem, Kl] w = some (.ok (stand ofAs (s :: bs)).d w) :=
  ls_top g fun _ => ⟨lR R mem Kl (s :: bs), by
    unfold ls1
    exact seq_if_yes (l_hd hR (by decide +kernel)) (bin_ok (a := stL (s :: bs)) (b := .int 0) (ρ1 := lR R mem Kl (s :: bs)) (w1 := w) rfl rfl (st0 s bs))⟩
/-- what a test of is_there picks -/
theorem pick_run {i k : Nat} (hc : HereOk it) {s : St} (hs : s.ok) {v : D} {ρ : Rho} {mv me : M D} (he : me ρ w = some (.ok s.d ρ w)) (hv : mv ρ w = some (.ok v ρ w)) : mIte (mVal (mCall 1 it (mCons me mNil))) (mTup (mCons (ret (.str "value")) (mCons mv mNil))) me ρ w = some (.ok (if s.here = true then St.val v else s).d ρ w) := by
  unfold mIte
  rw [bnd_ok (mVal_ok (call1 he (hc s hs w)))]
  cases s.here with
  | false => exact he
  | true => exact tup_ok (cons_ok (d := .str "value") (ρ1 := ρ) (w1 := w) rfl (cons_ok hv rfl))
theorem ls_const (hc : HereOk it) {s : St} {bs : List St} {v : D} (g : Good (s :: bs)) (hR : ixD R (.int 0) = some (.str "const")) (hv : ixD R (.int 2) = some v) : lsF it ch lo rn [R, stL (s :: bs), mem, Kl] w = some (.ok (stand (ofConst v) (s :: bs)).d w) :=
  ls_top g fun _ => ⟨lR R mem Kl (s :: bs), by
    have a : mBin ixD (getS 1) (ret (.int 0)) (lR R mem Kl (s :: bs)) w = some (.ok s.d (lR R mem Kl (s :: bs)) w) := bin_ok (a := stL (s :: bs)) (b := .int 0) (ρ1 := lR R mem Kl (s :: bs)) (w1 := w) rfl rfl (st0 s bs)
    have b : mBin ixD (getS 0) (ret (.int 2)) (lR R mem Kl (s :: bs)) w = some (.ok v (lR R mem Kl (s :: bs)) w) := bin_ok (a := R) (b := .int 2) (ρ1 := lR R mem Kl (s :: bs)) (w1 := w) rfl rfl hv
    unfold ls1
    rw [seq_if_no (l_hd hR (by decide +kernel))]
    unfold ls2
    exact seq_if_yes (l_hd hR (by decide +kernel)) (pick_run (i := 0) (k := 0) hc (g.2 s List.mem_cons_self) a b)⟩
/-- past as, const, choose -/
theorem l_five (hc : HereOk it) (g : Good l) (hR : ixD R (.int 0) = some (.str x)) (h1 : (x == (Str.ofString "as")) = false) (h2 : (x == (Str.ofString "const")) = false) (h3 : (x == (Str.ofString "choose")) = false) {s : St} (h : part l = false → ∃ ρ', ls5 it ch lo rn (lR R mem Kl l) w = some (.ok (.rt s.d) ρ' w)) :
    ∃ ρ', ls1 it ch lo rn (lR R mem Kl l) w = some (.ok (.rt (if part l = true then St.cla else s).d) ρ' w) := by
  have e : ls1 it ch lo rn (lR R mem Kl l) w = ls4 it ch lo rn (lR R mem Kl l) w := by
    unfold ls1
    rw [seq_if_no (l_hd hR h1)]
    unfold ls2
    rw [seq_if_no (l_hd hR h2)]
    unfold ls3
    rw [seq_if_no (l_hd hR h3)]
  rw [e]
  unfold ls4
  have hp := l_part (R := R) (mem := mem) (Kl := Kl) (w := w) hc g
  by_cases c : part l = true
  · rw [if_pos c]
    rw [c] at hp
    exact ⟨_, seq_if_yes hp rfl⟩
  · rw [if_neg c]
    rw [Bool.not_eq_true] at c
    rw [c] at hp
    rw [seq_if_no hp]
    exact h c
theorem ls_held (hc : HereOk it) {a b : St} (g : Good [a, b]) (hR : ixD R (.int 0) = some (.str "held")) : lsF it ch lo rn [R, stL [a, b], mem, Kl] w = some (.ok (stand (ofHeld mem) [a, b]).d w) :=
  ls_top g fun _ => l_five hc g hR (by decide +kernel) (by decide +kernel) (by decide +kernel) (s := if b.here = true then .val mem else b) fun _ => ⟨lR R mem Kl [a, b], by
    have k : mBin ixD (getS 1) (ret (.int 1)) (lR R mem Kl [a, b]) w = some (.ok b.d (lR R mem Kl [a, b]) w) := bin_ok (a := stL [a, b]) (b := .int 1) (ρ1 := lR R mem Kl [a, b]) (w1 := w) rfl rfl (st1 a b [])
    unfold ls5
    exact seq_if_yes (l_hd hR (by decide +kernel)) (pick_run (i := 0) (k := 0) hc (g.2 b (List.mem_cons_of_mem _ List.mem_cons_self)) k rfl)⟩
/-- past held and those that are absent -/
theorem l_seven (g : Good l) (hR : ixD R (.int 0) = some (.str x)) (h1 : (x == (Str.ofString "held")) = false) {s : St} (h : l.any St.isAbs = false → ∃ ρ', ls7 it ch lo rn (lR R mem Kl l) w = some (.ok (.rt s.d) ρ' w)) :
    ∃ ρ', ls5 it ch lo rn (lR R mem Kl l) w = some (.ok (.rt (if l.any St.isAbs = true then St.abs else s).d) ρ' w) := by
  unfold ls5
  rw [seq_if_no (l_hd hR h1)]
  unfold ls6
  have hp := l_abs (R := R) (mem := mem) (Kl := Kl) (w := w) g
  by_cases c : l.any St.isAbs = true
  · rw [if_pos c]
    rw [c] at hp
    exact ⟨_, seq_if_yes hp rfl⟩
  · rw [if_neg c]
    rw [Bool.not_eq_true] at c
    rw [c] at hp
    rw [seq_if_no hp]
    exact h c
theorem ls_when (hc : HereOk it) {s c : St} (g : Good [s, c]) {z : D} (hR : ixD R (.int 0) = some (.str "when")) (hz : ixD R (.int 3) = some z) (dz : dat 60 z = true) : lsF it ch lo rn [R, stL [s, c], mem, Kl] w = some (.ok (stand (ofWhen z) [s, c]).d w) :=
  ls_top g fun _ => l_five hc g hR (by decide +kernel) (by decide +kernel) (by decide +kernel) (s := if [s, c].any St.isAbs = true then .abs else if c.isVal = false then .unk else if deq c.v z = true then s else .abs) fun _ => l_seven g hR (by decide +kernel) (s := if c.isVal = false then .unk else if deq c.v z = true then s else .abs) fun _ => ⟨lR R mem Kl [s, c], by
    let ρ := lR R mem Kl [s, c]
    have k1 : mBin ixD (getS 1) (ret (.int 1)) ρ w = some (.ok c.d ρ w) := bin_ok (a := stL [s, c]) (b := .int 1) (ρ1 := ρ) (w1 := w) rfl rfl (st1 s c [])
    have k0 : mBin ixD (getS 1) (ret (.int 0)) ρ w = some (.ok s.d ρ w) := bin_ok (a := stL [s, c]) (b := .int 0) (ρ1 := ρ) (w1 := w) rfl rfl (st0 s [c])
    obtain ⟨y, e2, e3⟩ := ix_head c
    have k2 : mBin ixD (mBin ixD (getS 1) (ret (.int 1))) (ret (.int 0)) ρ w = some (.ok (.str y) ρ w) := bin_ok (ρ1 := ρ) (w1 := w) (b := .int 0) k1 rfl e2
    have k3 : mBinT neD (mBin ixD (mBin ixD (getS 1) (ret (.int 1))) (ret (.int 0))) (ret (.str "value")) ρ w = some (.ok (!c.isVal) ρ w) := by
      unfold mBinT
      rw [bnd_ok k2]
      simp [bnd, ret, asB, ne_str, e3]
    unfold ls7
    refine seq_rt ((ite_run (b := true) (ρ' := ρ) (w' := w) (l_hd hR (by decide +kernel))).trans ?_)
    rw [if_pos rfl]
    by_cases v : c.isVal = false
    · rw [if_pos v]
      rw [v] at k3
      exact seq_if_yes k3 rfl
    · rw [if_neg v]
      rw [Bool.not_eq_false] at v
      rw [v] at k3
      rw [seq_if_no k3]
      cases c with
      | val d =>
        have hd : dat 60 d = true := dat_to (g.2 (.val d) (List.mem_cons_of_mem _ List.mem_cons_self)) (by decide)
        have k4 : mBin ixD (mBin ixD (getS 1) (ret (.int 1))) (ret (.int 1)) ρ w = some (.ok d ρ w) := bin_ok (ρ1 := ρ) (w1 := w) (b := .int 1) k1 rfl (at1 _ _ _)
        have k5 : mBin ixD (getS 0) (ret (.int 3)) ρ w = some (.ok z ρ w) := bin_ok (a := R) (ρ1 := ρ) (w1 := w) (b := .int 3) rfl rfl hz
        have k6 : mBinT eqD (mBin ixD (mBin ixD (getS 1) (ret (.int 1))) (ret (.int 1))) (mBin ixD (getS 0) (ret (.int 3))) ρ w = some (.ok (deq d z) ρ w) := by
          unfold mBinT
          rw [bnd_ok k4, bnd_ok k5, eq_dat hd dz]
          rfl
        refine ret_ok ?_
        unfold mIte
        rw [bnd_ok k6]
        show (if deq d z = true then mBin ixD (getS 1) (ret (.int 0)) else (mTup (mCons (ret (.str "absent")) mNil))) ρ w = some (.ok (if deq d z = true then s else St.abs).d ρ w)
        cases deq d z with
        | true => exact k0
        | false => rfl
      | _ => cases v⟩
/-- past when -/
theorem l_eight (hR : ixD R (.int 0) = some (.str x)) (h1 : (x == (Str.ofString "when")) = false) : ls7 it ch lo rn (lR R mem Kl l) w = ls8 it ch lo rn (lR R mem Kl l) w := by
  unfold ls7
  exact seq_if_no (l_hd hR h1)
theorem ls_arg (hc : HereOk it) (g : Good l) {k : Nat} {o : St} (hR : ixD R (.int 0) = some (.str "arg")) (hk : ixD R (.int 2) = some (.int (k : Nat))) (ho : l[k]? = some o) : lsF it ch lo rn [R, stL l, mem, Kl] w = some (.ok (stand (ofArg k) l).d w) := by
  refine ls_top g fun _ => ?_
  unfold ofArg
  rw [ho]
  dsimp only
  refine l_five hc g hR (by decide +kernel) (by decide +kernel) (by decide +kernel) (s := if l.any St.isAbs = true then .abs else if o.isVal = true then o else if l.any St.here = true then .thr else .unk) fun _ => l_seven g hR (by decide +kernel) (s := if o.isVal = true then o else if l.any St.here = true then .thr else .unk) fun _ => ⟨lR R mem Kl l, ?_⟩
  rw [l_eight hR (by decide +kernel)]
  let ρ := lR R mem Kl l
  have k0 : mBin ixD (getS 0) (ret (.int 2)) ρ w = some (.ok (.int (k : Nat)) ρ w) := bin_ok (a := R) (b := .int 2) (ρ1 := ρ) (w1 := w) rfl rfl hk
  have k1 : mBin ixD (getS 1) (mBin ixD (getS 0) (ret (.int 2))) ρ w = some (.ok o.d ρ w) := bin_ok (a := stL l) (ρ1 := ρ) (w1 := w) rfl k0 (st_at ho)
  obtain ⟨y, e2, e3⟩ := ix_head o
  have k2 : mBin ixD (mBin ixD (getS 1) (mBin ixD (getS 0) (ret (.int 2)))) (ret (.int 0)) ρ w = some (.ok (.str y) ρ w) := bin_ok (ρ1 := ρ) (w1 := w) (b := .int 0) k1 rfl e2
  have k3 : mAnd (mBinT eqD (mBin ixD (getS 0) (ret (.int 0))) (ret (.str "arg"))) (mBinT eqD (mBin ixD (mBin ixD (getS 1) (mBin ixD (getS 0) (ret (.int 2)))) (ret (.int 0))) (ret (.str "value"))) ρ w = some (.ok o.isVal ρ w) := by
    unfold mAnd
    rw [bnd_ok (l_hd hR (b := true) (by decide +kernel))]
    show mBinT eqD (mBin ixD (mBin ixD (getS 1) (mBin ixD (getS 0) (ret (.int 2)))) (ret (.int 0))) (ret (.str "value")) ρ w = _
    unfold mBinT
    rw [bnd_ok k2]
    simp [bnd, ret, asB, eq_str, e3]
  unfold ls8
  by_cases v : o.isVal = true
  · rw [if_pos v]
    rw [v] at k3
    exact seq_if_yes k3 k1
  · rw [if_neg v]
    rw [Bool.not_eq_true] at v
    rw [v] at k3
    rw [seq_if_no k3, l_nine hR (by decide +kernel)]
    exact l_last hc g
/-- ops and tables: hv tells the value where all are known -/
theorem ls_vals (hc : HereOk it) (g : Good l) {f : List D → D} (hR : ixD R (.int 0) = some (.str x)) (h1 : (x == (Str.ofString "as")) = false) (h2 : (x == (Str.ofString "const")) = false) (h3 : (x == (Str.ofString "choose")) = false) (h4 : (x == (Str.ofString "held")) = false) (h5 : (x == (Str.ofString "when")) = false) (h6 : (x == (Str.ofString "arg")) = false) (h7 : ((Str.ofString "op") == x || (Str.ofString "table") == x) = true)
    (hv : l.all St.isVal = true → ∀ w, (mIte (mVal (getS 5)) (mCall 3 lo (mCons (mBin ixD (getS 0) (ret (.int 1))) (mCons (getS 3) (mCons (getS 4) mNil)))) (mBin ixD (mBin ixD (getS 0) (ret (.int 2))) (mCall 2 rn (mCons (getS 4) (mCons (getS 3) mNil))))) [.val R, .val (stL l), .val mem, .val Kl, .val (.lst (l.map St.v)), .val (.bl (x == (Str.ofString "op"))), .free] w = some (.ok (f (l.map St.v)) [.val R, .val (stL l), .val mem, .val Kl, .val (.lst (l.map St.v)), .val (.bl (x == (Str.ofString "op"))), .free] w)) :
    lsF it ch lo rn [R, stL l, mem, Kl] w = some (.ok (stand (ofVals f) l).d w) := by
  refine ls_top g fun _ => ?_
  unfold ofVals
  refine l_five hc g hR h1 h2 h3 (s := if l.any St.isAbs = true then .abs else if l.all St.isVal = true then .val (f (l.map St.v)) else if l.any St.here = true then .thr else .unk) fun _ => l_seven g hR h4 (s := if l.all St.isVal = true then .val (f (l.map St.v)) else if l.any St.here = true then .thr else .unk) fun _ => ?_
  rw [l_eight hR h5]
  let ρ := lR R mem Kl l
  have k3 : mAnd (mBinT eqD (mBin ixD (getS 0) (ret (.int 0))) (ret (.str "arg"))) (mBinT eqD (mBin ixD (mBin ixD (getS 1) (mBin ixD (getS 0) (ret (.int 2)))) (ret (.int 0))) (ret (.str "value"))) ρ w = some (.ok false ρ w) := by
    unfold mAnd
    rw [bnd_ok (l_hd hR h6)]
    rfl
  have k4 : mAnd (mBinT inD (mBin ixD (getS 0) (ret (.int 0))) (mTup (mCons (ret (.str "op")) (mCons (ret (.str "table")) mNil)))) (mVal (bnd (mCons (mLc [6] (bnd (getS 1) fun d => lft (itemsD d)) (bName 6) (ret true) (mBin eqD (mBin ixD (getS 6) (ret (.int 0))) (ret (.str "value")))) mNil) fun ds => lft (allD ds))) ρ w = some (.ok (l.all St.isVal) ρ w) := by
    have a : mBin ixD (getS 0) (ret (.int 0)) ρ w = some (.ok (.str x) ρ w) := bin_ok (a := R) (b := .int 0) (ρ1 := ρ) (w1 := w) rfl rfl hR
    have b : mTup (mCons (ret (.str "op")) (mCons (ret (.str "table")) mNil)) ρ w = some (.ok (.tup [.str "op", .str "table"]) ρ w) := rfl
    have e := in_opt x
    rw [h7] at e
    have t : mBinT inD (mBin ixD (getS 0) (ret (.int 0))) (mTup (mCons (ret (.str "op")) (mCons (ret (.str "table")) mNil))) ρ w = some (.ok true ρ w) := by
      unfold mBinT
      rw [bnd_ok a, bnd_ok b, e]
      rfl
    unfold mAnd
    rw [bnd_ok t]
    exact l_all g
  unfold ls8
  rw [seq_if_no k3]
  unfold ls9
  by_cases b : l.all St.isVal = true
  · rw [if_pos b]
    rw [b] at k4
    have e := vals_back b
    let ρ4 : Rho := [.val R, .val (stL l), .val mem, .val Kl, .val (.lst (l.map St.v)), .free, .free]
    let ρ5 : Rho := [.val R, .val (stL l), .val mem, .val Kl, .val (.lst (l.map St.v)), .val (.bl (x == (Str.ofString "op"))), .free]
    have s4 : mSet 4 (mLc [6] (bnd (getS 1) fun d => lft (itemsD d)) (bName 6) (ret true) (mBin ixD (getS 6) (ret (.int 1)))) ρ w = some (.ok .nx ρ4 w) := by
      have hi : (bnd (getS 1) fun d => lft (itemsD d)) ρ w = some (.ok ((l.map St.v).map fun d => St.d (.val d)) ρ w) := by
        have q : (l.map St.v).map (fun d => St.d (.val d)) = l.map St.d := by
          have := congrArg (List.map St.d) e
          rw [this, List.map_map]
          simp [Function.comp_def]
        rw [q]
        rfl
      have lc := mLc_map (own := [6]) (bind := bName 6) (mi := bnd (getS 1) fun d => lft (itemsD d)) (me := mBin ixD (getS 6) (ret (.int 1))) (ρ := ρ) (w0 := w) (w := w) (e := fun d => St.d (.val d)) (f := fun d => d) (l.map St.v) hi (by rw [List.length_map]; have := g.1; omega) fun d _ => ⟨[.val R, .val (stL l), .val mem, .val Kl, .free, .free, .val (St.d (.val d))], [.val R, .val (stL l), .val mem, .val Kl, .free, .free, .val (St.d (.val d))], rfl, bin_ok (a := St.d (.val d)) (b := .int 1) (ρ1 := [.val R, .val (stL l), .val mem, .val Kl, .free, .free, .val (St.d (.val d))]) (w1 := w) rfl rfl (at1 _ _ _), rfl⟩
      rw [List.map_id'] at lc
      exact set_ok lc
    have s5 : mSet 5 (mBin eqD (mBin ixD (getS 0) (ret (.int 0))) (ret (.str "op"))) ρ4 w = some (.ok .nx ρ5 w) := set_ok (ρ1 := ρ4) (bin_ok (a := .str x) (b := .str "op") (ρ1 := ρ4) (ρ2 := ρ4) (w1 := w) (w2 := w) (bin_ok (a := R) (b := .int 0) (ρ1 := ρ4) (w1 := w) rfl rfl hR) rfl (eq_str _ _))
    refine ⟨ρ5, seq_rt ((ite_run (b := true) (ρ' := ρ) (w' := w) k4).trans ?_)⟩
    rw [if_pos rfl]
    exact (seq_nx s4).trans ((seq_nx s5).trans (ret_ok (tup_ok (cons_ok (d := .str "value") (ρ1 := ρ5) (w1 := w) rfl (cons_ok (hv b w) rfl)))))
  · rw [if_neg b]
    rw [Bool.not_eq_true] at b
    rw [b] at k4
    rw [seq_if_no k4]
    exact ⟨ρ, l_last hc g⟩
end
end DL
set_option Elab.async false
set_option linter.all false
set_option maxRecDepth 100000
set_option maxHeartbeats 4000001
/-! DM6: choose by the law's table; right sides for which all three agree. -/
namespace DL
open PySem PyProof.Rows PySem.Spec L2 RZ StX
theorem part_abs (bs : List St) : part (St.abs :: bs) = bs.any St.here := by
  unfold part
  rw [List.any_cons, List.any_cons]
  rfl
theorem lc_run {it : Fn1} (hc : HereOk it) {ws : List Str} {q : St} {bs : List St} (g : Good (q :: bs)) (nc : q.isCla = false) (hz : ∀ d, q = .val d → d ∈ (Ty.lot ws).vals) (hchk : (Ty.lot ws).chk = true) (hl : ws.length ≤ bs.length) (w : Wo) : lcF it [stL (q :: bs), .tup (ws.map .str)] w = some (.ok (ofCh (atW ws) q bs).d w) := by
  have gb : ∀ s ∈ bs, s.ok := fun s hs => g.2 s (List.mem_cons_of_mem _ hs)
  have lb : bs.length ≤ 1000 := by have := g.1; rw [List.length_cons] at this; omega
  let ρ0 : Rho := [.val (stL (q :: bs)), .val (.tup (ws.map .str)), .free, .free, .free, .free, .free, .free]
  let ρ1 : Rho := [.val (stL (q :: bs)), .val (.tup (ws.map .str)), .val q.d, .val (stL bs), .free, .free, .free, .free]
  have p1 : mPar 2 3 (mCons (mBin ixD (getS 0) (ret (.int 0))) (mCons (mSl (getS 0) (bnd (ret (.int 1)) (kInt fun i => ret (some i))) (ret none)) mNil)) ρ0 w = some (.ok .nx ρ1 w) := by
    have e1 : mBin ixD (getS 0) (ret (.int 0)) ρ0 w = some (.ok q.d ρ0 w) := bin_ok (a := stL (q :: bs)) (b := .int 0) (ρ1 := ρ0) (w1 := w) rfl rfl (st0 q bs)
    have e2 : mSl (getS 0) (bnd (ret (.int 1)) (kInt fun i => ret (some i))) (ret none) ρ0 w = some (.ok (stL bs) ρ0 w) := by
      have := cut_from ((q :: bs).map St.d) 1
      simp [ρ0, mSl, bnd, getS, ret, kInt, lft, slD, stL] at this ⊢
      exact this
    unfold mPar
    rw [bnd_ok (cons_ok e1 (cons_ok e2 rfl))]
    rfl
  have run : ∃ ρ', lc0 it ρ0 w = some (.ok (.rt (ofCh (atW ws) q bs).d) ρ' w) := by
    unfold lc0
    rw [seq_nx p1]
    unfold lc1
    cases q with
    | cla => cases nc
    | unk =>
      let ρ6 : Rho := [.val (stL (St.unk :: bs)), .val (.tup (ws.map .str)), .val (St.d .unk), .val (stL bs), .free, .free, .val (.bl false), .free]
      refine ⟨ρ6, seq_rt ((ite_run (b := true) (ρ' := ρ1) (w' := w) rfl).trans ?_)⟩
      rw [if_pos rfl]
      exact (seq_nx (ρ' := ρ6) (w' := w) rfl).trans rfl
    | abs =>
      let ρ6 : Rho := [.val (stL (St.abs :: bs)), .val (.tup (ws.map .str)), .val (St.d .abs), .val (stL bs), .free, .free, .val (.bl (bs.any St.here)), .free]
      have a1 := anyHere hc (i := 7) (mi := bnd (getS 3) fun d => lft (itemsD d)) (ρ := ρ1) (w0 := w) (w := w) bs lb gb rfl (by show 7 < 8; decide)
      have a2 : mAndV (mBin eqD (mBin ixD (getS 2) (ret (.int 0))) (ret (.str "absent"))) (bnd (mCons (mLc [7] (bnd (getS 3) fun d => lft (itemsD d)) (bName 7) (ret true) (mCall 1 it (mCons (getS 7) mNil))) mNil) fun ds => lft (anyD ds)) ρ1 w = some (.ok (.bl (bs.any St.here)) ρ1 w) := by
        unfold mAndV
        rw [bnd_ok (a := .bl true) (ρ' := ρ1) (w' := w) rfl]
        exact a1
      refine ⟨ρ6, seq_rt ((ite_run (b := true) (ρ' := ρ1) (w' := w) rfl).trans ?_)⟩
      rw [if_pos rfl]
      refine (seq_nx (ρ' := ρ6) (w' := w) (set_ok a2)).trans (ret_ok ?_)
      show mIte (mVal (getS 6)) (mTup (mCons (ret (.str "clash")) mNil)) (getS 2) ρ6 w = some (.ok (if part (St.abs :: bs) = true then St.cla else St.abs).d ρ6 w)
      rw [part_abs]
      unfold mIte
      rw [bnd_ok (mVal_ok (b := bs.any St.here) (ρ' := ρ6) (w' := w) rfl)]
      cases bs.any St.here <;> rfl
    | thr =>
      refine ⟨ρ1, (seq_if_no (ρ' := ρ1) (w' := w) rfl).trans ?_⟩
      unfold lc2
      exact seq_if_yes (ρ' := ρ1) (w' := w) rfl rfl
    | val d =>
      have hd := hz d rfl
      obtain ⟨z, hz2, ez⟩ := List.mem_map.mp (show d ∈ ws.map D.str from hd)
      subst ez
      obtain ⟨j, hj, lj⟩ := firstAt_mem hz2
      have ix := idx_of (t := .lot ws) (by show 0 ≤ 2; decide) hchk hd
      have ep : (Ty.lot ws).place (.str z) = j := by
        show (firstAt z ws).getD 0 = j
        rw [hj]
        rfl
      rw [ep] at ix
      have lj' : j < bs.length := by omega
      obtain ⟨o, ho⟩ : ∃ o, bs[j]? = some o := ⟨bs[j], List.getElem?_eq_getElem lj'⟩
      have go : o.ok := gb o (List.mem_of_getElem? ho)
      have ej : atW ws (St.v (.val (.str z))) = j := by
        show (firstAt z ws).getD 0 = j
        rw [hj]
        rfl
      let ρ4 : Rho := [.val (stL (.val (.str z) :: bs)), .val (.tup (ws.map .str)), .val (St.d (.val (.str z))), .val (stL bs), .val (.int (j : Nat)), .free, .free, .free]
      let ρ5 : Rho := [.val (stL (.val (.str z) :: bs)), .val (.tup (ws.map .str)), .val (St.d (.val (.str z))), .val (stL bs), .val (.int (j : Nat)), .val (stL (bs.eraseIdx j)), .free, .free]
      have s40 : mIx (bnd (mCons (getS 1) mNil) fun ds => lft (listD ds)) (mCons (mBin ixD (getS 2) (ret (.int 1))) mNil) ρ1 w = some (.ok (.int (j : Nat)) ρ1 w) :=
        ix_ok (ys := (Ty.lot ws).vals) (z := .str z) (ρ1 := ρ1) (ρ2 := ρ1) (w1 := w) (w2 := w) rfl (bin_ok (a := St.d (.val (.str z))) (b := .int 1) (ρ1 := ρ1) (ρ2 := ρ1) (w1 := w) (w2 := w) rfl rfl (at1 _ _ _)) ix
      have s4 : mSet 4 (mIx (bnd (mCons (getS 1) mNil) fun ds => lft (listD ds)) (mCons (mBin ixD (getS 2) (ret (.int 1))) mNil)) ρ1 w = some (.ok .nx ρ4 w) := set_ok s40
      have c1 : mSl (getS 3) (ret none) (bnd (getS 4) (kInt fun i => ret (some i))) ρ4 w = some (.ok (.lst ((bs.map St.d).take j)) ρ4 w) := by
        simp [ρ4, mSl, bnd, getS, ret, kInt, lft, slD, stL, cut_to]
      have c2 : mSl (getS 3) (bnd (mBin addD (getS 4) (ret (.int 1))) (kInt fun i => ret (some i))) (ret none) ρ4 w = some (.ok (.lst ((bs.map St.d).drop (j + 1))) ρ4 w) := by
        have b0 : mBin addD (getS 4) (ret (.int 1)) ρ4 w = some (.ok (.int ((j + 1 : Nat) : Int)) ρ4 w) := rfl
        have b1 : bnd (mBin addD (getS 4) (ret (.int 1))) (kInt fun i => ret (some i)) ρ4 w = some (.ok (some ((j + 1 : Nat) : Int)) ρ4 w) := by
          rw [bnd_ok b0]
          rfl
        have b2 : getS 3 ρ4 w = some (.ok (stL bs) ρ4 w) := rfl
        have b3 : (ret none : M (Option Int)) ρ4 w = some (.ok none ρ4 w) := rfl
        unfold mSl
        rw [bnd_ok b2, bnd_ok b1, bnd_ok b3]
        show some (Rs.ok (D.lst (cutD (bs.map St.d) (some ((j + 1 : Nat) : Int)) none)) ρ4 w) = _
        rw [cut_from]
      have c3 : addD (.lst ((bs.map St.d).take j)) (.lst ((bs.map St.d).drop (j + 1))) = some (stL (bs.eraseIdx j)) := by
        have e : (bs.map St.d).take j ++ (bs.map St.d).drop (j + 1) = (bs.eraseIdx j).map St.d := by
          rw [← List.map_take, ← List.map_drop, ← List.map_append, List.eraseIdx_eq_take_drop_succ]
        have el : ((bs.map St.d).take j).length + ((bs.map St.d).drop (j + 1)).length ≤ 100000 := by
          rw [List.length_take, List.length_drop, List.length_map]
          omega
        simp only [addD]
        rw [if_pos el, e]
        rfl
      have s5 : mSet 5 (mBin addD (mSl (getS 3) (ret none) (bnd (getS 4) (kInt fun i => ret (some i)))) (mSl (getS 3) (bnd (mBin addD (getS 4) (ret (.int 1))) (kInt fun i => ret (some i))) (ret none))) ρ4 w = some (.ok .nx ρ5 w) := set_ok (bin_ok c1 c2 c3)
      have ge : ∀ s ∈ bs.eraseIdx j, s.ok := fun s hs => gb s (List.mem_of_mem_eraseIdx hs)
      have le : (bs.eraseIdx j).length ≤ 1000 := by have := List.length_eraseIdx_le bs j; omega
      have h9 := mVal_ok (anyHere hc (i := 7) (mi := bnd (getS 5) fun d => lft (itemsD d)) (ρ := ρ5) (w0 := w) (w := w) (bs.eraseIdx j) le ge rfl (by show 7 < 8; decide))
      have fr : ρ5.set 7 .free = ρ5 := rfl
      rw [fr] at h9
      have k1 : mBin ixD (getS 3) (getS 4) ρ5 w = some (.ok o.d ρ5 w) := bin_ok (a := stL bs) (b := .int (j : Nat)) (ρ1 := ρ5) (ρ2 := ρ5) (w1 := w) (w2 := w) rfl rfl (st_at ho)
      have h10 : mBinT eqD (mBin ixD (getS 3) (getS 4)) (mTup (mCons (ret (.str "absent")) mNil)) ρ5 w = some (.ok o.isAbs ρ5 w) := eqSt_run (s := o) (t := .abs) go trivial (dq_abs o) k1 rfl
      have h11 : mOr (mBinT eqD (mBin ixD (getS 3) (getS 4)) (mTup (mCons (ret (.str "absent")) mNil))) (mVal (bnd (mCons (mLc [7] (bnd (getS 5) fun d => lft (itemsD d)) (bName 7) (ret true) (mCall 1 it (mCons (getS 7) mNil))) mNil) fun ds => lft (anyD ds))) ρ5 w = some (.ok (o.isAbs || (bs.eraseIdx j).any St.here) ρ5 w) := by
        unfold mOr
        rw [bnd_ok h10]
        cases o.isAbs with
        | true => rfl
        | false => exact h9
      refine ⟨ρ5, (seq_if_no (ρ' := ρ1) (w' := w) rfl).trans ?_⟩
      unfold lc2
      refine (seq_if_no (ρ' := ρ1) (w' := w) rfl).trans ?_
      unfold lc3
      rw [seq_nx s4]
      unfold lc4
      rw [seq_nx s5]
      unfold lc5
      have eO : ofCh (atW ws) (.val (.str z)) bs = if (o.isAbs || (bs.eraseIdx j).any St.here) = true then .cla else if o.isVal = true then o else .thr := by
        unfold ofCh
        rw [if_neg (fun z : St.isAbs (.val _) = true => Bool.noConfusion z), if_neg (fun z : St.isVal (.val _) = false => Bool.noConfusion z), ej, ho]
      rw [eO]
      by_cases y : (o.isAbs || (bs.eraseIdx j).any St.here) = true
      · rw [if_pos y]
        rw [y] at h11
        exact seq_if_yes h11 rfl
      · rw [if_neg y]
        rw [Bool.not_eq_true] at y
        rw [y] at h11
        rw [seq_if_no h11]
        unfold lc6
        obtain ⟨x', e1, e2⟩ := ix_head o
        have h12 : mBinT eqD (mBin ixD (mBin ixD (getS 3) (getS 4)) (ret (.int 0))) (ret (.str "value")) ρ5 w = some (.ok o.isVal ρ5 w) := by
          have k2 : mBin ixD (mBin ixD (getS 3) (getS 4)) (ret (.int 0)) ρ5 w = some (.ok (.str x') ρ5 w) := bin_ok (b := .int 0) (ρ1 := ρ5) (w1 := w) k1 rfl e1
          unfold mBinT
          rw [bnd_ok k2]
          simp [bnd, ret, asB, eq_str, e2]
        refine ret_ok ?_
        unfold mIte
        rw [bnd_ok h12]
        cases o.isVal with
        | true => exact k1
        | false => rfl
  obtain ⟨ρ', run⟩ := run
  exact gOf_rt (ρ' := ρ') rfl run
theorem ls_choose {it lo rn : Fn1} (hc : HereOk it) {R mem Kl : D} {ws : List Str} {q : St} {bs : List St} (g : Good (q :: bs)) (hR : ixD R (.int 0) = some (.str "choose")) (hK : ixD Kl (.int 0) = some (Ty.d (.lot ws))) (hz : ∀ d, q = .val d → d ∈ (Ty.lot ws).vals) (hchk : (Ty.lot ws).chk = true) (hl : ws.length ≤ bs.length) (w : Wo) :
    lsF it (lcF it) lo rn [R, stL (q :: bs), mem, Kl] w = some (.ok (stand (ofChoose (atW ws)) (q :: bs)).d w) :=
  ls_top g fun c => ⟨lR R mem Kl (q :: bs), by
    have nc : q.isCla = false := any_at (k := 0) rfl c
    unfold ls1
    rw [seq_if_no (l_hd hR (by decide +kernel))]
    unfold ls2
    rw [seq_if_no (l_hd hR (by decide +kernel))]
    unfold ls3
    refine seq_if_yes (l_hd hR (by decide +kernel)) (call2 (ρ1 := lR R mem Kl (q :: bs)) (w1 := w) (a := stL (q :: bs)) rfl (bin_ok (ρ1 := lR R mem Kl (q :: bs)) (w1 := w) (b := .int 1) (bin_ok (a := Kl) (b := .int 0) (ρ1 := lR R mem Kl (q :: bs)) (w1 := w) rfl rfl hK) rfl (at1 _ _ _)) (lc_run hc g nc hz hchk hl w))⟩
/-! ### right sides for which all agree -/
def lopsM : M Fl := (mSeq (mIte (mBinT inD (mBin ixD (getS 0) (ret (.int 0))) (mTup (mCons (ret (.str "const")) (mCons (ret (.str "held")) (mCons (ret (.str "when")) mNil))))) (mRet (mDget ["const", "held", "when"] (mCons (mSl (getS 0) (bnd (ret (.int 3)) (kInt fun i => ret (some i))) (ret none)) (mCons (mSl (getS 0) (bnd (ret (.int 3)) (kInt fun i => ret (some i))) (bnd (ret (.int 5)) (kInt fun i => ret (some i)))) (mCons (mSl (getS 0) (bnd (ret (.int 1)) (kInt fun i => ret (some i))) (bnd (ret (.int 3)) (kInt fun i => ret (some i)))) mNil))) (mBin ixD (getS 0) (ret (.int 0))))) (ret .nx)) (mSeq (mIte (mBinT inD (mBin ixD (getS 0) (ret (.int 0))) (mTup (mCons (ret (.str "as")) (mCons (ret (.str "choose")) mNil)))) (mRet (mBin addD (mSl (getS 0) (bnd (ret (.int 1)) (kInt fun i => ret (some i))) (bnd (ret (.int 2)) (kInt fun i => ret (some i)))) (mIte (mBinT eqD (mBin ixD (getS 0) (ret (.int 0))) (ret (.str "choose"))) (mBin ixD (getS 0) (ret (.int 2))) (mTup mNil)))) (ret .nx)) (mRet (mIte (mBinT eqD (mBin ixD (getS 0) (ret (.int 0))) (ret (.str "input"))) (mTup mNil) (mIte (mBinT eqD (mBin ixD (getS 0) (ret (.int 0))) (ret (.str "arg"))) (mBin ixD (getS 0) (ret (.int 1))) (mBin ixD (getS 0) (mNeg (ret (.int 1)))))))))
def lopsF : Fn1 := gOf 1 1 lopsM
structure RtEq (so oo lso los : Fn1) (R : D) (ts : List Ty) : Prop where
  kinds : ∀ t ∈ ts, Sm t
  ops : ∃ names : List D, (∀ w, oo [R] w = some (.ok (.tup names) w)) ∧ (∀ w, los [R] w = some (.ok (.tup names) w)) ∧ dats 59 names = true ∧ 1 ≤ names.length ∧ names.length ≤ ts.length ∧ names.length ≤ 10 ∧
    ∀ mem, dat 50 mem = true → ∃ r : Rl, (∀ l, All2 StOk (ts.take names.length) l → (r l).ok) ∧ ∀ l, All2 StOk (ts.take names.length) l → RunsTo so R (.lst ((ts.take names.length).map Ty.d)) mem (stand r) l ∧ T.RunsTo so R (.tup ((ts.take names.length).map Ty.d)) mem (stand r) l ∧ ∀ w, lso [R, stL l, mem, .lst ((ts.take names.length).map Ty.d)] w = some (.ok (stand r l).d w)
def valueX (pl1 pl2 c : Fn1) : Fn1 := gOf 3 3 (valueM (opF (compF pl1)) (gOf 3 6 (tabX pl2 c)))
def partTF : Fn1 := partF
theorem partT_ok : T.PartOk partF := T.part_spec hereF_ok
def standTbX (pl1 pl2 c : Fn1) : Tb := [("of_const", 4, gOf 4 5 (constM hereF)), ("of_held", 4, gOf 4 5 (heldM partF hereF)), ("of_values", 4, gOf 4 7 (valsM partF hereF (valueX pl1 pl2 c))), ("of_arg", 4, gOf 4 6 (argM partF hereF)), ("of_when", 4, gOf 4 6 (whenM partF)), ("of_choose", 4, gOf 4 10 (chooseX partF hereF)), ("of_as", 4, gOf 4 4 asM)]
def standX (pl1 pl2 c : Fn1) : Fn1 := gOf 4 5 (standM rulesD (standTbX pl1 pl2 c))
def lsX (cu : Fn1) : Fn1 := lsF itF (lcF itF) (lopF cu) (gOf 2 6 (rowM cu))
abbrev RtX (cu pl1 pl2 c : Fn1) : D → List Ty → Prop := RtEq (standX pl1 pl2 c) opsF (lsX cu) lopsF
/-- what the law's table tells of an op's, a table's values -/
def LVal (lo rn : Fn1) (R Kl : D) (x : Str) (vs : List D) (d : D) : Prop := ∀ (S mem : D) w, (mIte (mVal (getS 5)) (mCall 3 lo (mCons (mBin ixD (getS 0) (ret (.int 1))) (mCons (getS 3) (mCons (getS 4) mNil)))) (mBin ixD (mBin ixD (getS 0) (ret (.int 2))) (mCall 2 rn (mCons (getS 4) (mCons (getS 3) mNil))))) [.val R, .val S, .val mem, .val Kl, .val (.lst vs), .val (.bl (x == (Str.ofString "op"))), .free] w = some (.ok d [.val R, .val S, .val mem, .val Kl, .val (.lst vs), .val (.bl (x == (Str.ofString "op"))), .free] w)
theorem told_is {v : Fn1} {R Ks : D} {vs : List D} {d : D} (e : ∀ w, v [R, Ks, .lst vs] w = some (.ok d w)) : told v R Ks vs = d := by
  unfold told
  rw [e none]
section
variable {cu pl1 pl2 c : Fn1} {R : D} {ts : List Ty}
theorem xt_rule {names : List D} {x f : Str} {gr : Fn1} (hk : ∀ t ∈ ts, Sm t) (ho : ∀ w, opsF [R] w = some (.ok (.tup names) w)) (hlo : ∀ w, lopsF [R] w = some (.ok (.tup names) w)) (hd : dats 59 names = true) (h1 : 1 ≤ names.length) (h2 : names.length ≤ ts.length) (h10 : names.length ≤ 10) (hR : ixD R (.int 0) = some (.str x)) (hx : kdGet rulesD (.str x) = some (.fn f)) (hf : (standTbX pl1 pl2 c).lookup f = some (4, gr))
    (hr : ∀ mem, dat 50 mem = true → ∃ r : Rl, (∀ l, All2 StOk (ts.take names.length) l → (r l).ok) ∧ ∀ l, All2 StOk (ts.take names.length) l → RunsTo gr R (.lst ((ts.take names.length).map Ty.d)) mem r l ∧ T.RunsTo gr R (.tup ((ts.take names.length).map Ty.d)) mem r l ∧ ∀ w, lsX cu [R, stL l, mem, .lst ((ts.take names.length).map Ty.d)] w = some (.ok (stand r l).d w)) : RtX cu pl1 pl2 c R ts := by
  refine ⟨hk, names, ho, hlo, hd, h1, h2, h10, fun mem hm => ?_⟩
  obtain ⟨r, b, d⟩ := hr mem hm
  have hk' : ∀ t ∈ ts.take names.length, t.small ∧ t.deep ≤ 2 := fun t ht => hk t (List.mem_of_mem_take ht)
  have gg : ∀ l, All2 StOk (ts.take names.length) l → Good l := fun l hl => good_of hk' (by rw [List.length_take]; omega) hl
  exact ⟨r, b, fun l hl => ⟨stand_runs (gg l hl) hR hx hf fun _ => (d l hl).1, T.stand_runs (gg l hl) hR hx hf fun _ => (d l hl).2.1, (d l hl).2.2⟩⟩
theorem xt_vals {names : List D} {x : Str} (hk : ∀ t ∈ ts, Sm t) (ho : ∀ w, opsF [R] w = some (.ok (.tup names) w)) (hlo : ∀ w, lopsF [R] w = some (.ok (.tup names) w)) (hd : dats 59 names = true) (hn : names.length = ts.length) (h1 : 1 ≤ ts.length) (h10 : ts.length ≤ 10) (hR : ixD R (.int 0) = some (.str x)) (hx : kdGet rulesD (.str x) = some (.fn "of_values"))
    (q1 : (x == (Str.ofString "as")) = false) (q2 : (x == (Str.ofString "const")) = false) (q3 : (x == (Str.ofString "choose")) = false) (q4 : (x == (Str.ofString "held")) = false) (q5 : (x == (Str.ofString "when")) = false) (q6 : (x == (Str.ofString "arg")) = false) (q7 : ((Str.ofString "op") == x || (Str.ofString "table") == x) = true)
    (hv : ∀ vs, All2 (fun (t : Ty) d => d ∈ t.vals) ts vs → ∃ d, dat 50 d = true ∧ (∀ w, valueX pl1 pl2 c [R, .lst (ts.map Ty.d), .lst vs] w = some (.ok d w)) ∧ (∀ w, valueX pl1 pl2 c [R, .tup (ts.map Ty.d), .lst vs] w = some (.ok d w)) ∧ LVal (lopF cu) (gOf 2 6 (rowM cu)) R (.lst (ts.map Ty.d)) x vs d) : RtX cu pl1 pl2 c R ts := by
  refine xt_rule (x := x) (f := "of_values") (gr := gOf 4 7 (valsM partF hereF (valueX pl1 pl2 c))) hk ho hlo hd (by omega) (by omega) (by omega) hR hx rfl fun mem hm => ?_
  rw [hn, List.take_length]
  refine ⟨ofVals (told (valueX pl1 pl2 c) R (.lst (ts.map Ty.d))), fun l hl => ofVals_ok fun b => ?_, fun l hl => ?_⟩
  · obtain ⟨d, e1, e2, e3, e4⟩ := hv _ (vals_in hl b)
    rw [told_is e2]
    exact e1
  · have g := good_of hk h10 hl
    refine ⟨vals_runs partF_ok hereF_ok g fun b => ?_, T.vals_runs partT_ok hereF_ok g fun b => ?_, fun w => ls_vals itF_ok g hR q1 q2 q3 q4 q5 q6 q7 fun b w => ?_⟩
    · obtain ⟨d, e1, e2, e3, e4⟩ := hv _ (vals_in hl b)
      intro w
      rw [told_is e2]
      exact e2 w
    · obtain ⟨d, e1, e2, e3, e4⟩ := hv _ (vals_in hl b)
      intro w
      rw [told_is e2]
      exact e3 w
    · obtain ⟨d, e1, e2, e3, e4⟩ := hv _ (vals_in hl b)
      rw [told_is e2]
      exact e4 _ _ w
end
end DL
set_option Elab.async false
set_option linter.all false
set_option maxRecDepth 100000
set_option maxHeartbeats 4000001
/-! DM7: each right side drawn is one for which all agree. -/
namespace DL
open PySem PyProof.Rows PySem.Spec L2 RZ StX
section
variable {cu pl1 pl2 c : Fn1}
theorem xt_const {one other : Ty} (h1 : Sm one) (h2 : Sm other) {v : D} (hv : v ∈ one.vals) : RtX cu pl1 pl2 c (.tup [.str "const", one.d, v, .str "x"]) [other] := by
  have dv : dat 50 v = true := dat_to (one.dat v hv) (by have := h1.2; omega)
  refine xt_rule (names := [.str "x"]) (sm1 h2) (fun w => by rfl) (fun w => by rfl) (by simp [dats, dat]) (by decide) (by show 1 ≤ 1; decide) (by decide) (at0 _ _) k_const rfl fun mem _ => ⟨ofConst v, fun l hl => ?_, fun l hl => ?_⟩
  · cases hl with
    | cons h r =>
      rename_i s _
      show (if s.here = true then St.val v else s).ok
      split
      · exact dv
      · exact h.ok (by have := h2.2; omega)
  · have g := good_of (sm1 h2) (by show 1 ≤ 10; decide) hl
    cases hl with
    | cons h r =>
      have hs := h.ok (by have := h2.2; omega)
      exact ⟨const_runs hereF_ok (show ixD (.tup [.str "const", one.d, v, .str "x"]) (.int 2) = some v from at2 _ _ _ _) hs, T.const_runs hereF_ok (show ixD (.tup [.str "const", one.d, v, .str "x"]) (.int 2) = some v from at2 _ _ _ _) hs, fun w => ls_const itF_ok g (at0 _ _) (at2 _ _ _ _)⟩
theorem xt_held {one other : Ty} (h1 : Sm one) (h2 : Sm other) (v z : D) : RtX cu pl1 pl2 c (.tup [.str "held", one.d, v, .str "x", .str "y", z]) [one, other] := by
  refine xt_rule (names := [.str "x", .str "y"]) (sm2 h1 h2) (fun w => by rfl) (fun w => by rfl) (by simp [dats, dat]) (by decide) (by show 2 ≤ 2; decide) (by decide) (at0 _ _) k_held rfl fun mem hm => ⟨ofHeld mem, fun l hl => ?_, fun l hl => ?_⟩
  · cases hl with
    | cons ha r =>
      cases r with
      | cons hb r =>
        cases r
        rename_i a b
        show (if part [a, b] = true then St.cla else if b.here = true then .val mem else b).ok
        split
        · exact trivial
        · split
          · exact hm
          · exact hb.ok (by have := h2.2; omega)
  · have g := good_of (sm2 h1 h2) (by show 2 ≤ 10; decide) hl
    cases hl with
    | cons ha r =>
      cases r with
      | cons hb r =>
        cases r
        have oa := ha.ok (by have := h1.2; omega)
        have ob := hb.ok (by have := h2.2; omega)
        exact ⟨held_runs partF_ok hereF_ok oa ob, T.held_runs partT_ok hereF_ok oa ob, fun w => ls_held itF_ok g (at0 _ _)⟩
theorem xt_as {one : Ty} (h1 : Sm one) : RtX cu pl1 pl2 c (.tup [.str "as", .str "x.y"]) [one] := by
  refine xt_rule (names := [.str "x.y"]) (sm1 h1) (fun w => by rfl) (fun w => by rfl) (by simp [dats, dat]) (by decide) (by show 1 ≤ 1; decide) (by decide) (at0 _ _) k_as rfl fun mem _ => ⟨ofAs, fun l hl => ?_, fun l hl => ?_⟩
  · cases hl with
    | cons h r => exact h.ok (by have := h1.2; omega)
  · have g := good_of (sm1 h1) (by show 1 ≤ 10; decide) hl
    cases hl with
    | cons h r => exact ⟨as_runs, T.as_runs, fun w => ls_as g (at0 _ _)⟩
theorem xt_when {one : Ty} (h1 : Sm one) (z : Str) : RtX cu pl1 pl2 c (.tup [.str "when", .str "x", .str "y", .str z]) [one, tyW] := by
  refine xt_rule (names := [.str "x", .str "y"]) (sm2 h1 tyW_ok) (fun w => by rfl) (fun w => by rfl) (by simp [dats, dat]) (by decide) (by show 2 ≤ 2; decide) (by decide) (at0 _ _) k_when rfl fun mem hm => ⟨ofWhen (.str z), fun l hl => ?_, fun l hl => ?_⟩
  · cases hl with
    | cons ha r =>
      cases r with
      | cons hb r =>
        cases r
        rename_i a b
        show (if part [a, b] = true then St.cla else if [a, b].any St.isAbs = true then .abs else if b.isVal = false then .unk else if deq b.v (.str z) = true then a else .abs).ok
        split
        · exact trivial
        · split
          · exact trivial
          · split
            · exact trivial
            · split
              · exact ha.ok (by have := h1.2; omega)
              · exact trivial
  · have g := good_of (sm2 h1 tyW_ok) (by show 2 ≤ 10; decide) hl
    cases hl with
    | cons ha r =>
      cases r with
      | cons hb r =>
        cases r
        have e3 : ixD (.tup [.str "when", .str "x", .str "y", .str z]) (.int 3) = some (.str z) := at3 _ _ _ _ _
        have dz : dat 60 (.str z) = true := by simp [dat]
        exact ⟨when_runs partF_ok g e3 dz, T.when_runs partT_ok g e3 dz, fun w => ls_when itF_ok g (at0 _ _) e3 dz⟩
theorem sm4 {a b : Ty} (h : Sm a) (g : Sm b) : ∀ t ∈ [a, b, b, b], t.small ∧ t.deep ≤ 2 := fun t ht => by
  rcases List.mem_cons.mp ht with e | e
  · rw [e]; exact h
  · rcases List.mem_cons.mp
        e with e | e
    · rw [e]; exact g
    · rcases List.mem_cons.mp
          e with e | e
      · rw [e]; exact g
      · rw [List.mem_singleton.mp e]; exact g
theorem xt_choose {one : Ty} (h1 : Sm one) : RtX cu pl1 pl2 c (.tup [.str "choose", .str "x", .tup [.str "y", .str "z", .str "w"]]) [tyW, one, one, one] := by
  refine xt_rule (names := [.str "x", .str "y", .str "z", .str "w"]) (sm4 tyW_ok h1) (fun w => by rfl) (fun w => by rfl) (by simp [dats, dat]) (by decide) (by show 4 ≤ 4; decide) (by decide) (at0 _ _) k_choose rfl fun mem hm => ⟨ofChoose (atW ["c", "a", "b"]), fun l hl => ?_, fun l hl => ?_⟩
  · have g := good_of (sm4 tyW_ok h1) (by show 4 ≤ 10; decide) hl
    cases hl with
    | cons ha r =>
      rename_i q bs
      exact ofCh_ok (g.2 q List.mem_cons_self) fun s hs => g.2 s (List.mem_cons_of_mem _ hs)
  · have g := good_of (sm4 tyW_ok h1) (by show 4 ≤ 10; decide) hl
    cases hl with
    | cons ha r =>
      rename_i q bs
      have lr : bs.length = 3 := r.length
      have hz : ∀ d, q = St.val d → ∃ z j, d = .str z ∧ firstAt z ["c", "a", "b"] = some j ∧ j < bs.length := fun d e => by
        have hd := ha d e
        unfold tyW Ty.vals at hd
        obtain ⟨z, hz, ez⟩ := List.mem_map.mp hd
        obtain ⟨j, f1, f2⟩ := firstAt_mem hz
        exact ⟨z, j, ez.symm, f1, by rw [lr]; exact f2⟩
      have e0 : ixD (.tup [.str "choose", .str "x", .tup [.str "y", .str "z", .str "w"]]) (.int 0) = some (.str "choose") := at0 _ _
      have k1 : ixD (.lst [tyW.d, one.d, one.d, one.d]) (.int 0) = some (Ty.d (.lot ["c", "a", "b"])) := at0 _ _
      have k2 : ixD (.tup [tyW.d, one.d, one.d, one.d]) (.int 0) = some (Ty.d (.lot ["c", "a", "b"])) := at0 _ _
      exact ⟨chooseX_runs partF_ok hereF_ok k1 g hz, T.chooseX_runs partT_ok hereF_ok k2 g hz, fun w => ls_choose (lo := lopF cu) (rn := gOf 2 6 (rowM cu)) (mem := mem) itF_ok g e0 k1 (fun d e => ha d e) chk_W (by rw [lr]; decide) w⟩
theorem sm3 {a b d : Ty} (h : Sm a) (g : Sm b) (k : Sm d) : ∀ t ∈ [a, b, d], t.small ∧ t.deep ≤ 2 := fun t ht => by
  rcases List.mem_cons.mp ht with e | e
  · rw [e]; exact h
  · rcases List.mem_cons.mp
        e with e | e
    · rw [e]; exact g
    · rw [List.mem_singleton.mp e]; exact k
theorem xt_arg {one other : Ty} (h1 : Sm one) (h2 : Sm other) {names : List D} (hn : names = [.str "x", .str "y"] ∨ names = [.str "x", .str "y", .str "z"]) {k : Nat} (lk : k < 2) : RtX cu pl1 pl2 c (.tup [.str "arg", .tup names, .int (k : Nat)]) [one, other, tyW] := by
  have hk := sm3 h1 h2 tyW_ok
  have hk' : ∀ n : Nat, ∀ t ∈ [one, other, tyW].take n, t.small ∧ t.deep ≤ 2 := fun n t ht => hk t (List.mem_of_mem_take ht)
  have nl : 2 ≤ names.length ∧ names.length ≤ 3 := by
    rcases hn with e | e <;> rw [e] <;> decide
  have tl : ([one, other, tyW].take names.length).length = names.length := by
    rw [List.length_take]
    show min names.length 3 = names.length
    omega
  refine xt_rule (names := names) hk (fun w => by rcases hn with e | e <;> subst e <;> rfl) (fun w => by rcases hn with e | e <;> subst e <;> rfl) (by rcases hn with e | e <;> subst e <;> simp [dats, dat]) (by omega) (by show names.length ≤ 3; omega) (by omega) (at0 _ _) k_arg rfl fun mem hm => ⟨ofArg k, fun l hl => ?_, fun l hl => ?_⟩
  · have g := good_of (hk' _) (by omega) hl
    unfold ofArg
    split
    · exact trivial
    · rename_i o ho
      split
      · exact trivial
      · split
        · exact trivial
        · split
          · exact g.2 o (List.mem_of_getElem? ho)
          · split <;> exact trivial
  · have g := good_of (hk' _) (by omega) hl
    have ll := hl.length
    have lt : k < l.length := by omega
    have e2 : ixD (.tup [.str "arg", .tup names, .int (k : Nat)]) (.int 2) = some (.int (k : Nat)) := at2 _ _ _ _
    have e3 := List.getElem?_eq_getElem lt
    exact ⟨arg_runs partF_ok hereF_ok g e2 e3, T.arg_runs partT_ok hereF_ok g e2 e3, fun w => ls_arg itF_ok g (at0 _ _) e2 e3⟩
/-- an op's value, all three ways -/
theorem op_all {y : D} {x : Str} {ts : List Ty} {vs : List D} (h1 : 1 ≤ ts.length) (h : OpEq (compF pl1) cu x ts vs) : ∃ d, dat 50 d = true ∧ (∀ w, valueX pl1 pl2 c [.tup [.str "op", .str x, y], .lst (ts.map Ty.d), .lst vs] w = some (.ok d w)) ∧ (∀ w, valueX pl1 pl2 c [.tup [.str "op", .str x, y], .tup (ts.map Ty.d), .lst vs] w = some (.ok d w)) ∧ LVal (lopF cu) (gOf 2 6 (rowM cu)) (.tup [.str "op", .str x, y]) (.lst (ts.map Ty.d)) "op" vs d := by
  obtain ⟨d, hd, e1, e2⟩ := h
  cases ts with
  | nil => exact absurd h1 (by decide)
  | cons t ts =>
    refine ⟨d, hd, value_opX (at0 _ _) (at1 _ _ _) (e1 _ (at0 _ _)), value_opX (at0 _ _) (at1 _ _ _) (e1 _ (at0 _ _)), fun S mem w => ?_⟩
    have eb : ((Str.ofString "op") == (Str.ofString "op")) = true := by decide +kernel
    rw [eb]
    unfold mIte
    let ρ : Rho := [.val (.tup [.str "op", .str x, y]), .val S, .val mem, .val (.lst ((t :: ts).map Ty.d)), .val (.lst vs), .val (.bl true), .free]
    rw [bnd_ok (mVal_ok (b := true) (ρ' := ρ) (w' := w) rfl), if_pos rfl]
    exact call3 (ρ1 := ρ) (ρ2 := ρ) (ρ3 := ρ) (w1 := w) (w2 := w) (w3 := w) (bin_ok (b := .int 1) (ρ1 := ρ) (w1 := w) (a := .tup [.str "op", .str x, y]) rfl rfl (at1 _ _ _)) rfl rfl (e2 w)
theorem xt_op {x : Str} {names : List D} {ts : List Ty} (hk : ∀ t ∈ ts, Sm t) (ho : ∀ w, opsF [.tup [.str "op", .str x, .tup names]] w = some (.ok (.tup names) w)) (hlo : ∀ w, lopsF [.tup [.str "op", .str x, .tup names]] w = some (.ok (.tup names) w)) (hd : dats 59 names = true) (hn : names.length = ts.length) (h1 : 1 ≤ ts.length) (h10 : ts.length ≤ 10)
    (h : ∀ vs, All2 (fun (t : Ty) d => d ∈ t.vals) ts vs → OpEq (compF pl1) cu x ts vs) : RtX cu pl1 pl2 c (.tup [.str "op", .str x, .tup names]) ts :=
  xt_vals (x := "op") hk ho hlo hd hn h1 h10 (at0 _ _) k_op (by decide +kernel) (by decide +kernel) (by decide +kernel) (by decide +kernel) (by decide +kernel) (by decide +kernel) (by decide +kernel) fun vs hv => op_all h1 (h vs hv)
theorem xt_not : RtX cu pl1 pl2 c (.tup [.str "op", .str "not", .tup [.str "x"]]) [tyYN] :=
  xt_op (sm1 tyYN_ok) (fun w => by rfl) (fun w => by rfl) (by simp [dats, dat]) rfl (by simp) (by simp) fun vs h => by
    obtain ⟨x, e, hx⟩ := in1 h
    subst e
    exact oe_not hx
theorem xt_and : RtX cu pl1 pl2 c (.tup [.str "op", .str "and", .tup [.str "x", .str "y"]]) [tyYN, tyYN] :=
  xt_op (sm2 tyYN_ok tyYN_ok) (fun w => by rfl) (fun w => by rfl) (by simp [dats, dat]) rfl (by simp) (by simp) fun vs h => by
    obtain ⟨x, y, e, hx, hy⟩ := in2 h
    subst e
    exact oe_and hx hy
theorem xt_or : RtX cu pl1 pl2 c (.tup [.str "op", .str "or", .tup [.str "x", .str "y"]]) [tyYN, tyYN] :=
  xt_op (sm2 tyYN_ok tyYN_ok) (fun w => by rfl) (fun w => by rfl) (by simp [dats, dat]) rfl (by simp) (by simp) fun vs h => by
    obtain ⟨x, y, e, hx, hy⟩ := in2 h
    subst e
    exact oe_or hx hy
theorem xt_first {a b : Ty} (h : Sm (.pair a b)) : RtX cu pl1 pl2 c (.tup [.str "op", .str "first", .tup [.str "x"]]) [.pair a b] :=
  xt_op (sm1 h) (fun w => by rfl) (fun w => by rfl) (by simp [dats, dat]) rfl (by simp) (by simp) fun vs hv => by
    obtain ⟨x, e, hx⟩ := in1 hv
    obtain ⟨p, q, ep, hp, hq⟩ := pair_in hx
    subst e ep
    have hd : max a.deep b.deep + 1 ≤ 2 := h.2
    exact oe_first (in_dat hp (by omega) (by decide))
theorem xt_second {a b : Ty} (h : Sm (.pair a b)) : RtX cu pl1 pl2 c (.tup [.str "op", .str "second", .tup [.str "x"]]) [.pair a b] :=
  xt_op (sm1 h) (fun w => by rfl) (fun w => by rfl) (by simp [dats, dat]) rfl (by simp) (by simp) fun vs hv => by
    obtain ⟨x, e, hx⟩ := in1 hv
    obtain ⟨p, q, ep, hp, hq⟩ := pair_in hx
    subst e ep
    have hd : max a.deep b.deep + 1 ≤ 2 := h.2
    exact oe_second (in_dat hq (by omega) (by decide))
theorem xt_pair {a b : Ty} (ha : Sm a) (hb : Sm b) : RtX cu pl1 pl2 c (.tup [.str "op", .str "pair", .tup [.str "x", .str "y"]]) [a, b] :=
  xt_op (sm2 ha hb) (fun w => by rfl) (fun w => by rfl) (by simp [dats, dat]) rfl (by simp) (by simp) fun vs h => by
    obtain ⟨x, y, e, hx, hy⟩ := in2 h
    subst e
    exact oe_pair (in_dat hx ha.2 (by decide)) (in_dat hy hb.2 (by decide))
theorem xt_plus {n : Int} (h1 : 1 ≤ n) (h2 : n ≤ 1000) : RtX cu pl1 pl2 c (.tup [.str "op", .str "plus", .tup [.str "x", .str "y"]]) [.cnt n, .cnt n] :=
  have hs : Sm (.cnt n) := ⟨⟨h1, h2⟩, Nat.zero_le 2⟩
  xt_op (sm2 hs hs) (fun w => by rfl) (fun w => by rfl) (by simp [dats, dat]) rfl (by simp) (by simp) fun vs h => by
    obtain ⟨x, y, e, hx, hy⟩ := in2 h
    subst e
    unfold Ty.vals rgs at hx hy
    obtain ⟨i, _, ei⟩ := List.mem_map.mp hx
    obtain ⟨j, _, ej⟩ := List.mem_map.mp hy
    subst ei ej
    exact oe_plus (by omega) _ _
theorem xt_same {k : Ty} (hk : Sm k) : RtX cu pl1 pl2 c (.tup [.str "op", .str "same", .tup [.str "x", .str "y"]]) [k, k] :=
  xt_op (sm2 hk hk) (fun w => by rfl) (fun w => by rfl) (by simp [dats, dat]) rfl (by simp) (by simp) fun vs h => by
    obtain ⟨x, y, e, hx, hy⟩ := in2 h
    subst e
    exact oe_same hk.2 hx hy
theorem xt_less {k : Ty} (hk : Sm k) (hc : k.chk = true) (hp : PlaceX pl1 k) (hv : ValsOk cu k) : RtX cu pl1 pl2 c (.tup [.str "op", .str "less", .tup [.str "x", .str "y"]]) [k, k] :=
  xt_op (sm2 hk hk) (fun w => by rfl) (fun w => by rfl) (by simp [dats, dat]) rfl (by simp) (by simp) fun vs h => by
    obtain ⟨x, y, e, hx, hy⟩ := in2 h
    subst e
    exact oe_less hk.2 hc hp hv hx hy
theorem tabX_all {ts : List Ty} (hs : ∀ t ∈ ts, Sm t) (hp : ∀ t, Sm t → PlaceX pl2 t) (hc : ∀ t, Sm t → CountOk c t) : ∀ {vs : List D}, All2 (fun (t : Ty) d => d ∈ t.vals) ts vs → All2 (fun (t : Ty) d => t.small ∧ PlaceX pl2 t ∧ CountOk c t ∧ d ∈ t.vals) ts vs := by
  intro vs h
  induction h with
  | nil => exact .nil
  | cons h _ ih =>
    have q := hs _ List.mem_cons_self
    exact .cons ⟨q.1, hp _ q, hc _ q, h⟩ (ih fun t ht => hs t (List.mem_cons_of_mem _ ht))
theorem row_all {ts : List Ty} (hs : ∀ t ∈ ts, Sm t) (hk : ∀ t ∈ ts, t.chk = true) (hv : ∀ t, Sm t → ValsOk cu t) : ∀ {vs : List D}, All2 (fun (t : Ty) d => d ∈ t.vals) ts vs → All2 (fun (t : Ty) d => t.small ∧ t.deep ≤ 2 ∧ t.chk = true ∧ ValsOk cu t ∧ d ∈ t.vals) ts vs := by
  intro vs h
  induction h with
  | nil => exact .nil
  | cons h _ ih =>
    have q := hs _ List.mem_cons_self
    exact .cons ⟨q.1, q.2, hk _ List.mem_cons_self, hv _ q, h⟩ (ih (fun t ht => hs t (List.mem_cons_of_mem _ ht)) fun t ht => hk t (List.mem_cons_of_mem _ ht))
theorem xt_table {K : D} {ts : List Ty} {rs names : List D} (hs : ∀ t ∈ ts, Sm t) (hk : ∀ t ∈ ts, t.chk = true) (hu : ∀ t, Sm t → ValsOk cu t) (hp : ∀ t, Sm t → PlaceX pl2 t) (hc : ∀ t, Sm t → CountOk c t) (hl : (rs.length : Int) = prodT ts) (hr : ∀ d ∈ rs, dat 50 d = true) (h1 : 1 ≤ ts.length) (h3 : ts.length ≤ 3) (hn : names.length = ts.length) (hd : dats 59 names = true)
    (ho : ∀ w, opsF [.tup [.str "table", K, .tup rs, .tup names]] w = some (.ok (.tup names) w)) (hlo : ∀ w, lopsF [.tup [.str "table", K, .tup rs, .tup names]] w = some (.ok (.tup names) w)) : RtX cu pl1 pl2 c (.tup [.str "table", K, .tup rs, .tup names]) ts :=
  xt_vals (x := "table") hs ho hlo hd hn h1 (by omega) (at0 _ _) k_table (by decide +kernel) (by decide +kernel) (by decide +kernel) (by decide +kernel) (by decide +kernel) (by decide +kernel) (by decide +kernel) fun vs hv => by
    have lq := rowN_lt ts vs (fun t ht => (hs t ht).1) hv 0
    have lq' : rowN ts vs 0 < rs.length := by
      have e0 : ((0 : Nat) : Int) + 1 = 1 := rfl
      rw [e0, Int.one_mul] at lq
      omega
    have hx := List.getElem?_eq_getElem lq'
    refine ⟨rs[rowN ts vs 0], hr _ (List.getElem_mem lq'), value_tabX (at0 _ _) (at2 _ _ _ _) (tabX_run rfl (tabX_all hs hp hc hv) hx), value_tabX (at0 _ _) (at2 _ _ _ _) (tabX_run rfl (tabX_all hs hp hc hv) hx), fun S mem w => ?_⟩
    have eb : ((Str.ofString "table") == (Str.ofString "op")) = false := by decide +kernel
    rw [eb]
    unfold mIte
    let ρ : Rho := [.val (.tup [.str "table", K, .tup rs, .tup names]), .val S, .val mem, .val (.lst (ts.map Ty.d)), .val (.lst vs), .val (.bl false), .free]
    rw [bnd_ok (mVal_ok (b := false) (ρ' := ρ) (w' := w) rfl), if_neg (by decide)]
    exact bin_ok (ρ1 := ρ) (ρ2 := ρ) (w1 := w) (w2 := w) (a := .tup rs) (b := .int (rowN ts vs 0 : Nat)) (bin_ok (ρ1 := ρ) (w1 := w) (a := .tup [.str "table", K, .tup rs, .tup names]) (b := .int 2) rfl rfl (at2 _ _ _ _)) (call2 (ρ1 := ρ) (ρ2 := ρ) (w1 := w) (w2 := w) (a := .lst vs) (b := .lst (ts.map Ty.d)) rfl rfl (row_run (row_all hs hk hu hv) w)) (atI_nat hx)
end
end DL
set_option Elab.async false
set_option linter.all false
set_option maxRecDepth 100000
set_option maxHeartbeats 4000001
/-! DM8A: what is shown of standings. -/
namespace DL
open PySem PyProof.Rows PySem.Spec L2 RZ StX
def niceP (p : PyData) : Bool := p.showable && decide (p.shown.length ≤ 1000) && PyData.strOk p.shown
def niceS (s : St) : Bool := niceP (toP s.d)
def Ty.nice (t : Ty) : Bool := t.vals.all fun d => niceS (.val d)
def Nl (ts : List Ty) : Prop := ∀ t ∈ ts, t.nice = true
theorem nice_W : tyW.nice = true := by decide +kernel
theorem nice_base {t : Ty} (h : Base t) : t.nice = true := by
  rcases h with e | e | e | e | e <;> subst e <;> decide +kernel
theorem nice_YN : tyYN.nice = true := nice_base (.inl rfl)
theorem nice_pair {a b : Ty} (ha : Base a) (hb : Base b) : (Ty.pair a b).nice = true := by
  rcases ha with e | e | e | e | e <;> subst e <;> rcases hb with e | e | e | e | e <;> subst e <;> decide +kernel
theorem nice_cnt {j : Nat} (h : j < 5) : (Ty.cnt (2 + (j : Nat))).nice = true := by
  match j, h with
  | 0, _ => decide +kernel
  | 1, _ => decide +kernel
  | 2, _ => decide +kernel
  | 3, _ => decide +kernel
  | 4, _ => decide +kernel
theorem nl1 {a : Ty} (h : a.nice = true) : Nl [a] := fun t ht => by
  rw [List.mem_singleton.mp ht]
  exact h
theorem nl2 {a b : Ty} (h : a.nice = true) (g : b.nice = true) : Nl [a, b] := fun t ht => by
  rcases List.mem_cons.mp ht with e | e
  · rw [e]; exact h
  · exact nl1 g t e
theorem nl3 {a b c : Ty} (h : a.nice = true) (g : b.nice = true) (k : c.nice = true) : Nl [a, b, c] := fun t ht => by
  rcases List.mem_cons.mp ht with e | e
  · rw [e]; exact h
  · exact nl2 g k t e
theorem nl4 {a b : Ty} (h : a.nice = true) (g : b.nice = true) : Nl [a, b, b, b] := fun t ht => by
  rcases List.mem_cons.mp ht with e | e
  · rw [e]; exact h
  · exact nl3 g g g t e
theorem nice_st {t : Ty} (h : t.nice = true) {s : St} (hs : StOk t s) : niceS s = true := by
  cases s with
  | unk => decide +kernel
  | abs => decide +kernel
  | thr => decide +kernel
  | cla => decide +kernel
  | val d =>
    unfold Ty.nice at h
    rw [List.all_eq_true] at h
    exact h d (hs d rfl)
theorem okS_app {a b : Str} (h : PyData.strOk a = true) (g : PyData.strOk b = true) : PyData.strOk (a ++ b) = true := by
  unfold PyData.strOk at h g ⊢
  show (a.cps ++ b.cps).all _ = true
  rw [Array.all_append, h, g]
  rfl
theorem okS_from : ∀ (ts : List Str) (k : Nat) (acc : Str), PyData.strOk acc = true → (∀ t ∈ ts, PyData.strOk t = true) → PyData.strOk (textFrom k acc ts) = true
  | [], _, _, h, _ => h
  | t :: ts, k, acc, h, g => by
    show PyData.strOk (textFrom (k + 1) (acc ++ (if k > 0 then ", " else "" : String) ++ t) ts) = true
    refine okS_from ts _ _ (okS_app (okS_app h ?_) (g t List.mem_cons_self)) fun u hu => g u (List.mem_cons_of_mem _ hu)
    split <;> decide +kernel
theorem okS_list {ts : List Str} (g : ∀ t ∈ ts, PyData.strOk t = true) : PyData.strOk (listText ts) = true :=
  okS_app (okS_from ts 0 "[" (by decide +kernel) g) (by decide +kernel)
theorem sum_le : ∀ (ts : List Str), (∀ t ∈ ts, t.length ≤ 1000) → (ts.map (·.length)).sum ≤ 1000 * ts.length
  | [], _ => by simp
  | t :: ts, h => by
    have a := sum_le ts fun u hu => h u (List.mem_cons_of_mem _ hu)
    have b := h t List.mem_cons_self
    rw [List.map_cons, List.sum_cons, List.length_cons]
    omega
theorem toPs_map : ∀ l : List St, toPs (l.map St.d) = l.map fun s => toP s.d
  | [] => rfl
  | s :: l => by
    rw [List.map_cons,
          List.map_cons]
    show toP s.d :: toPs (l.map St.d) = _
    rw [toPs_map l]
theorem showAll : ∀ (l : List St), (∀ s ∈ l, niceS s = true) → PyData.showableAll (l.map fun s => toP s.d) = true
  | [], _ => rfl
  | s :: l, h => by
    rw [List.map_cons]
    show ((toP s.d).showable && PyData.showableAll (l.map fun s => toP s.d)) = true
    rw [showAll l fun u hu => h u (List.mem_cons_of_mem _ hu)]
    have a := h s List.mem_cons_self
    unfold niceS niceP at a
    rw [Bool.and_eq_true, Bool.and_eq_true] at a
    rw [a.1.1]
    rfl
theorem repr_sts {l : List St} (hl : l.length ≤ 10) (ho : ∀ s ∈ l, s.ok) (h : ∀ s ∈ l, niceS s = true) : ∃ x, reprD [stL l] = some (.str x) := by
  have e : toP (stL l) = .list (l.map fun s => toP s.d) := by
    show PyData.list (toPs (l.map St.d)) = _
    rw [toPs_map]
  have es : (toP (stL l)).shown = listText (PyData.shownAll (l.map fun s => toP s.d)) := by rw [e]; rfl
  have em : PyData.shownAll (l.map fun s => toP s.d) = l.map fun s => (toP s.d).shown := by rw [shownAll_eq_map, List.map_map]; rfl
  have a1 : (toP (stL l)).showable = true := by
    rw [e]
    exact showAll l h
  have n1 : ∀ t ∈ l.map (fun s => (toP s.d).shown), t.length ≤ 1000 ∧ PyData.strOk t = true := fun t ht => by
    obtain ⟨s, hs, es⟩ := List.mem_map.mp ht
    have a := h s hs
    unfold niceS niceP at a
    rw [Bool.and_eq_true, Bool.and_eq_true, decide_eq_true_eq] at a
    rw [← es]
    exact ⟨a.1.2, a.2⟩
  have a2 : (toP (stL l)).shown.length ≤ 100000 := by
    rw [es, em]
    have p := listText_len_le (l.map fun s => (toP s.d).shown)
    have q := sum_le (l.map fun s => (toP s.d).shown) fun t ht => (n1 t ht).1
    rw [List.length_map] at p q
    omega
  have a3 : PyData.strOk (toP (stL l)).shown = true := by
    rw [es, em]
    exact okS_list fun t ht => (n1 t ht).2
  have a0 : dat 60 (stL l) = true := by
    show dat 60 (.lst (l.map St.d)) = true
    simp only [dat]
    exact sts_dats l ho
  refine ⟨(toP (stL l)).shown, ?_⟩
  show (if dat 60 (stL l) && (toP (stL l)).showable && decide ((toP (stL l)).shown.length ≤ 100000) && PyData.strOk (toP (stL l)).shown then some (D.str (toP (stL l)).shown) else none) = _
  rw [a0, a1, a3, decide_eq_true a2]
  rfl
end DL
set_option Elab.async false
set_option linter.all false
set_option maxRecDepth 100000
set_option maxHeartbeats 4000001
/-! DM8: roads, for what all agree on. -/
namespace DL
open PySem PyProof.Rows PySem.Spec L2 RZ StX
abbrev PX (cu pl1 pl2 c : Fn1) (R : D) (ts : List Ty) : Prop := RtX cu pl1 pl2 c R ts ∧ Nl ts
namespace E
def Road (sa ca : Addr) (P : D → List Ty → Prop) (m : M Fl) (ρ : Rho) : Prop := ∀ s, Sok sa ca s → ∃ R ts s' ρ', Sok sa ca s' ∧ P R ts ∧ m ρ (some s) = some (.ok (.rt (.tup [R, .lst (ts.map Ty.d)])) ρ' (some s'))
theorem Road.pass {sa ca : Addr} {P : D → List Ty → Prop} {mc : M Bool} {m k : M Fl} {ρ : Rho} (h : ∀ w, mc ρ w = some (.ok false ρ w)) (g : Road sa ca P k ρ) : Road sa ca P (mSeq (mIte mc m (ret .nx)) k) ρ := fun s hs => by
  obtain ⟨R, ts, s', ρ', a, b, e⟩ := g s hs
  exact ⟨R, ts, s', ρ', a, b, (seq_if_no (h _)).trans e⟩
theorem Road.take {sa ca : Addr} {P : D → List Ty → Prop} {mc : M Bool} {m k : M Fl} {ρ : Rho} (h : ∀ w, mc ρ w = some (.ok true ρ w)) (g : Road sa ca P m ρ) : Road sa ca P (mSeq (mIte mc m (ret .nx)) k) ρ := fun s hs => by
  obtain ⟨R, ts, s', ρ', a, b, e⟩ := g s hs
  exact ⟨R, ts, s', ρ', a, b, seq_rt ((ite_run (h _)).trans e)⟩
section
variable {sa ca : Addr} {dt cp cv dv cu pl1 pl2 c : Fn1} {one other : Ty}
theorem road_const (h1 : Base one) (h2 : Base other) (hd : Gives sa ca dv [.raw (.ref sa), one.d] fun d => d ∈ one.vals) (k : Nat) : Road sa ca (PX cu pl1 pl2 c) (mRet (mTup (mCons (mTup (mCons (ret (.str "const")) (mCons (getS 3) (mCons (mCall 2 dv (mCons (getS 0) (mCons (getS 3) mNil))) (mCons (ret (.str "x")) mNil))))) (mCons (mLst (mCons (getS 4) mNil)) mNil)))) (dF sa one other k) := fun s hs => by
  obtain ⟨v, s1, k1, hv, e⟩ := hd s hs
  refine ⟨_, [other], s1, dF sa one other k, k1, ⟨xt_const h1.sm h2.sm hv, nl1 (nice_base h2)⟩, ret_ok ?_⟩
  have e2 : mTup (mCons (ret (.str "const")) (mCons (getS 3) (mCons (mCall 2 dv (mCons (getS 0) (mCons (getS 3) mNil))) (mCons (ret (.str "x")) mNil)))) (dF sa one other k) (some s) = some (.ok (.tup [.str "const", one.d, v, .str "x"]) (dF sa one other k) (some s1)) := by
    unfold mTup
    rw [bnd_ok (cons_ok (d := .str "const") (ρ1 := dF sa one other k) (w1 := some s) rfl (cons_ok (d := one.d) (ρ1 := dF sa one other k) (w1 := some s) rfl (cons_ok (call2 (ρ1 := dF sa one other k) (ρ2 := dF sa one other k) rfl rfl e) rfl)))]
    rfl
  unfold mTup
  unfold mTup at e2
  rw [bnd_ok (cons_ok e2 rfl)]
  rfl
theorem road_held (h1 : Base one) (h2 : Base other) (hd : Gives sa ca dv [.raw (.ref sa), one.d] fun d => d ∈ one.vals) (k : Nat) : Road sa ca (PX cu pl1 pl2 c) (mRet (mTup (mCons (mTup (mCons (ret (.str "held")) (mCons (getS 3) (mCons (mCall 2 dv (mCons (getS 0) (mCons (getS 3) mNil))) (mCons (ret (.str "x")) (mCons (ret (.str "y")) (mCons (mTup (mCons (mTup (mCons (ret (.str "z")) (mCons (ret (.str "yes")) mNil))) mNil)) mNil))))))) (mCons (mLst (mCons (getS 3) (mCons (getS 4) mNil))) mNil)))) (dF sa one other k) := fun s hs => by
  obtain ⟨v, s1, k1, hv, e⟩ := hd s hs
  refine ⟨_, [one, other], s1, dF sa one other k, k1, ⟨xt_held h1.sm h2.sm v (.tup [.tup [.str "z", .str "yes"]]), nl2 (nice_base h1) (nice_base h2)⟩, ret_ok ?_⟩
  have e2 : mTup (mCons (ret (.str "held")) (mCons (getS 3) (mCons (mCall 2 dv (mCons (getS 0) (mCons (getS 3) mNil))) (mCons (ret (.str "x")) (mCons (ret (.str "y")) (mCons (mTup (mCons (mTup (mCons (ret (.str "z")) (mCons (ret (.str "yes")) mNil))) mNil)) mNil)))))) (dF sa one other k) (some s) = some (.ok (.tup [.str "held", one.d, v, .str "x", .str "y", .tup [.tup [.str "z", .str "yes"]]]) (dF sa one other k) (some s1)) := by
    unfold mTup
    rw [bnd_ok (cons_ok (d := .str "held") (ρ1 := dF sa one other k) (w1 := some s) rfl (cons_ok (d := one.d) (ρ1 := dF sa one other k) (w1 := some s) rfl (cons_ok (call2 (ρ1 := dF sa one other k) (ρ2 := dF sa one other k) rfl rfl e) rfl)))]
    rfl
  unfold mTup
  unfold mTup at e2
  rw [bnd_ok (cons_ok e2 rfl)]
  rfl
theorem road_choose (h1 : Base one) (k : Nat) : Road sa ca (PX cu pl1 pl2 c) (mRet (mTup (mCons (mTup (mCons (ret (.str "choose")) (mCons (ret (.str "x")) (mCons (mTup (mCons (ret (.str "y")) (mCons (ret (.str "z")) (mCons (ret (.str "w")) mNil)))) mNil)))) (mCons (mLst (mCons (getS 2) (mCons (getS 3) (mCons (getS 3) (mCons (getS 3) mNil))))) mNil)))) (dF sa one other k) := fun s hs =>
  ⟨_, [tyW, one, one, one], s, dF sa one other k, hs, ⟨xt_choose h1.sm, nl4 nice_W (nice_base h1)⟩, rfl⟩
theorem road_as (h1 : Base one) (k : Nat) : Road sa ca (PX cu pl1 pl2 c) (mRet (mTup (mCons (mTup (mCons (ret (.str "as")) (mCons (ret (.str "x.y")) mNil))) (mCons (mLst (mCons (getS 3) mNil)) mNil)))) (dF sa one other k) := fun s hs =>
  ⟨_, [one], s, dF sa one other k, hs, ⟨xt_as h1.sm, nl1 (nice_base h1)⟩, rfl⟩
theorem road_when (hp : PickOk sa ca cp) (h1 : Base one) (k : Nat) : Road sa ca (PX cu pl1 pl2 c) (mRet (mTup (mCons (mTup (mCons (ret (.str "when")) (mCons (ret (.str "x")) (mCons (ret (.str "y")) (mCons (mBin ixD (mLst (mCons (ret (.str "c")) (mCons (ret (.str "a")) (mCons (ret (.str "b")) mNil)))) (mCall 2 cp (mCons (getS 0) (mCons (ret (.int 3)) mNil)))) mNil))))) (mCons (mLst (mCons (getS 3) (mCons (getS 2) mNil))) mNil)))) (dF sa one other k) := fun s hs => by
  obtain ⟨d, s1, k1, ⟨j, ej, hj⟩, e⟩ := hp 3 (by decide) s hs
  subst ej
  have lj : j < 3 := by omega
  obtain ⟨z, hz⟩ : ∃ z, ixD (.lst [.str "c", .str "a", .str "b"]) (.int (j : Nat)) = some (.str z) := by
    match j, lj with
    | 0, _ => exact ⟨_, atI_nat (j := 0) rfl⟩
    | 1, _ => exact ⟨_, atI_nat (j := 1) rfl⟩
    | 2, _ => exact ⟨_, atI_nat (j := 2) rfl⟩
  refine ⟨_, [one, tyW], s1, dF sa one other k, k1, ⟨xt_when h1.sm z, nl2 (nice_base h1) nice_W⟩, ret_ok ?_⟩
  have e1 : mBin ixD (mLst (mCons (ret (.str "c")) (mCons (ret (.str "a")) (mCons (ret (.str "b")) mNil)))) (mCall 2 cp (mCons (getS 0) (mCons (ret (.int 3)) mNil))) (dF sa one other k) (some s) = some (.ok (.str z) (dF sa one other k) (some s1)) :=
    bin_ok (a := .lst [.str "c", .str "a", .str "b"]) (b := .int (j : Nat)) (ρ1 := dF sa one other k) (w1 := some s) rfl (call2 (ρ1 := dF sa one other k) (ρ2 := dF sa one other k) (a := .raw (.ref sa)) (b := .int 3) rfl rfl e) hz
  have e2 : mTup (mCons (ret (.str "when")) (mCons (ret (.str "x")) (mCons (ret (.str "y")) (mCons (mBin ixD (mLst (mCons (ret (.str "c")) (mCons (ret (.str "a")) (mCons (ret (.str "b")) mNil)))) (mCall 2 cp (mCons (getS 0) (mCons (ret (.int 3)) mNil)))) mNil)))) (dF sa one other k) (some s) = some (.ok (.tup [.str "when", .str "x", .str "y", .str z]) (dF sa one other k) (some s1)) := by
    unfold mTup
    rw [bnd_ok (cons_ok (d := .str "when") (ρ1 := dF sa one other k) (w1 := some s) rfl (cons_ok (d := .str "x") (ρ1 := dF sa one other k) (w1 := some s) rfl (cons_ok (d := .str "y") (ρ1 := dF sa one other k) (w1 := some s) rfl (cons_ok e1 rfl))))]
    rfl
  unfold mTup
  unfold mTup at e2
  rw [bnd_ok (cons_ok e2 rfl)]
  rfl
theorem road_op (h1 : Base one) (h2 : Base other) : ∀ k < 6, Road sa ca (PX cu pl1 pl2 c) opB (dF sa one other k)
  | 0, _ => fun s hs => ⟨_, [tyYN], s, _, hs, ⟨xt_not, nl1 nice_YN⟩, rfl⟩
  | 1, _ => fun s hs => ⟨_, [tyYN, tyYN], s, _, hs, ⟨xt_and, nl2 nice_YN nice_YN⟩, rfl⟩
  | 2, _ => fun s hs => ⟨_, [tyYN, tyYN], s, _, hs, ⟨xt_or, nl2 nice_YN nice_YN⟩, rfl⟩
  | 3, _ => fun s hs => ⟨_, [.pair one other], s, _, hs, ⟨xt_first (Base.pair h1 h2), nl1 (nice_pair h1 h2)⟩, rfl⟩
  | 4, _ => fun s hs => ⟨_, [.pair one other], s, _, hs, ⟨xt_second (Base.pair h1 h2), nl1 (nice_pair h1 h2)⟩, rfl⟩
  | 5, _ => fun s hs => ⟨_, [one, other], s, _, hs, ⟨xt_pair h1.sm h2.sm, nl2 (nice_base h1) (nice_base h2)⟩, rfl⟩
  | k + 6, h => absurd h (by omega)
theorem road_arg (hp : PickOk sa ca cp) (h1 : Base one) (h2 : Base other) (k : Nat) : Road sa ca (PX cu pl1 pl2 c) (argB cp) (dF sa one other k) := fun s hs => by
  obtain ⟨d, s1, k1, ⟨j, ej, hj⟩, e⟩ := hp 2 (by decide) s hs
  obtain ⟨d2, s2, k2, ⟨i, ei, hi⟩, e2⟩ := hp 2 (by decide) s1 k1
  subst ej ei
  have li : i < 2 := by omega
  have lj : j < 2 := by omega
  have c1 : mCall 2 cp (mCons (getS 0) (mCons (ret (.int 2)) mNil)) (dF sa one other k) (some s) = some (.ok (.int (j : Nat)) (dF sa one other k) (some s1)) := call2 (ρ1 := dF sa one other k) (ρ2 := dF sa one other k) (a := .raw (.ref sa)) (b := .int 2) rfl rfl e
  have c2 : mCall 2 cp (mCons (getS 0) (mCons (ret (.int 2)) mNil)) (dF sa one other k) (some s1) = some (.ok (.int (i : Nat)) (dF sa one other k) (some s2)) := call2 (ρ1 := dF sa one other k) (ρ2 := dF sa one other k) (a := .raw (.ref sa)) (b := .int 2) rfl rfl e2
  have names : ∃ ns, (ns = [D.str "x", .str "y"] ∨ ns = [D.str "x", .str "y", .str "z"]) ∧ mSl (mTup (mCons (ret (.str "x")) (mCons (ret (.str "y")) (mCons (ret (.str "z")) mNil)))) (ret none) (bnd (mBin addD (ret (.int 2)) (mCall 2 cp (mCons (getS 0) (mCons (ret (.int 2)) mNil)))) (kInt fun i => ret (some i))) (dF sa one other k) (some s) = some (.ok (.tup ns) (dF sa one other k) (some s1)) := by
    have b1 : mBin addD (ret (.int 2)) (mCall 2 cp (mCons (getS 0) (mCons (ret (.int 2)) mNil))) (dF sa one other k) (some s) = some (.ok (.int (2 + (j : Nat))) (dF sa one other k) (some s1)) := bin_ok (a := .int 2) (b := .int (j : Nat)) (ρ1 := dF sa one other k) (w1 := some s) rfl c1 rfl
    rcases pick2 lj with e | e <;> subst e
    · exact ⟨_, .inl rfl, sl_ok (x := .tup [.str "x", .str "y", .str "z"]) (ρ1 := dF sa one other k) (w1 := some s) rfl (int_ok b1) rfl⟩
    · exact ⟨_, .inr rfl, sl_ok (x := .tup [.str "x", .str "y", .str "z"]) (ρ1 := dF sa one other k) (w1 := some s) rfl (int_ok b1) rfl⟩
  obtain ⟨ns, hn, en⟩ := names
  refine ⟨_, [one, other, tyW], s2, dF sa one other k, k2, ⟨xt_arg h1.sm h2.sm hn li, nl3 (nice_base h1) (nice_base h2) nice_W⟩, ?_⟩
  have e3 : mTup (mCons (ret (.str "arg")) (mCons (mSl (mTup (mCons (ret (.str "x")) (mCons (ret (.str "y")) (mCons (ret (.str "z")) mNil)))) (ret none) (bnd (mBin addD (ret (.int 2)) (mCall 2 cp (mCons (getS 0) (mCons (ret (.int 2)) mNil)))) (kInt fun i => ret (some i)))) (mCons (mCall 2 cp (mCons (getS 0) (mCons (ret (.int 2)) mNil))) mNil))) (dF sa one other k) (some s) = some (.ok (.tup [.str "arg", .tup ns, .int (i : Nat)]) (dF sa one other k) (some s2)) := by
    unfold mTup
    unfold mTup at en
    rw [bnd_ok (cons_ok (d := .str "arg") (ρ1 := dF sa one other k) (w1 := some s) rfl (cons_ok en (cons_ok c2 rfl)))]
    rfl
  unfold argB
  refine ret_ok ?_
  unfold mTup
  unfold mTup at e3
  rw [bnd_ok (cons_ok e3 rfl)]
  rfl
theorem road_cmp (hp : PickOk sa ca cp) (hcu : ∀ t, Sm t → ValsOk cu t) (hpl : ∀ t, Sm t → PlaceX pl1 t) (h1 : Base one) (h2 : Base other) (q : Nat) (lq : q < 3) : Road sa ca (PX cu pl1 pl2 c) (cmpB cp) (dF sa one other (6 + q)) := fun s hs => by
  obtain ⟨d, s1, k1, ⟨j, ej, hj⟩, e⟩ := hp 5 (by decide) s hs
  obtain ⟨d2, s2, k2, ⟨i, ei, hi⟩, e2⟩ := hp 3 (by decide) s1 k1
  subst ej ei
  have li : i < 3 := by omega
  have lj : j < 5 := by omega
  let ρ0 := dF sa one other (6 + q)
  let C : Ty := .cnt (2 + (j : Nat))
  let ρ1 := ρ0.set 10 (.val C.d)
  have p1 : mSet 10 (mTup (mCons (ret (.str "count")) (mCons (mBin addD (ret (.int 2)) (mCall 2 cp (mCons (getS 0) (mCons (ret (.int 5)) mNil)))) mNil))) ρ0 (some s) = some (.ok .nx ρ1 (some s1)) :=
    set_ok (tup_ok (cons_ok (d := .str "count") (ρ1 := ρ0) (w1 := some s) rfl (cons_ok (bin_ok (a := .int 2) (b := .int (j : Nat)) (ρ1 := ρ0) (w1 := some s) rfl (call2 (ρ1 := ρ0) (ρ2 := ρ0) (a := .raw (.ref sa)) (b := .int 5) rfl rfl e) rfl) rfl)))
  obtain ⟨U, hU, cU, nU, eU⟩ : ∃ U : Ty, Sm U ∧ U.chk = true ∧ U.nice = true ∧ ixD (.lst [one.d, tyW.d, (Ty.pair one other).d]) (.int (i : Nat)) = some U.d := by
    match i, li with
    | 0, _ => exact ⟨one, h1.sm, chk_base h1, nice_base h1, atI_nat (j := 0) rfl⟩
    | 1, _ => exact ⟨tyW, tyW_ok, chk_W, nice_W, atI_nat (j := 1) rfl⟩
    | 2, _ => exact ⟨.pair one other, Base.pair h1 h2, chk_pair h1 h2, nice_pair h1 h2, atI_nat (j := 2) rfl⟩
  have p2 : mLst (mCons (getS 3) (mCons (mBin ixD (mLst (mCons (getS 3) (mCons (getS 2) (mCons (getS 5) mNil)))) (mCall 2 cp (mCons (getS 0) (mCons (ret (.int 3)) mNil)))) (mCons (getS 10) mNil))) ρ1 (some s1) = some (.ok (.lst [one.d, U.d, C.d]) ρ1 (some s2)) :=
    lst_ok (cons_ok (d := one.d) (ρ1 := ρ1) (w1 := some s1) rfl (cons_ok (bin_ok (a := .lst [one.d, tyW.d, (Ty.pair one other).d]) (b := .int (i : Nat)) (ρ1 := ρ1) (w1 := some s1) rfl (call2 (ρ1 := ρ1) (ρ2 := ρ1) (a := .raw (.ref sa)) (b := .int 3) rfl rfl e2) eU) rfl))
  obtain ⟨T, z, hT, eT, eR⟩ : ∃ (T : Ty) (z : Str), PX cu pl1 pl2 c (.tup [.str "op", .str z, .tup [.str "x", .str "y"]]) [T, T] ∧ ixD (.lst [one.d, U.d, C.d]) (.int (q : Nat)) = some T.d ∧ ixD (.lst [.str "same", .str "less", .str "plus"]) (.int (q : Nat)) = some (.str z) := by
    match q, lq with
    | 0, _ => exact ⟨one, _, ⟨xt_same h1.sm, nl2 (nice_base h1) (nice_base h1)⟩, atI_nat (j := 0) rfl, atI_nat (j := 0) rfl⟩
    | 1, _ => exact ⟨U, _, ⟨xt_less hU cU (hpl U hU) (hcu U hU), nl2 nU nU⟩, atI_nat (j := 1) rfl, atI_nat (j := 1) rfl⟩
    | 2, _ => exact ⟨C, _, ⟨xt_plus (by omega) (by omega), nl2 (nice_cnt lj) (nice_cnt lj)⟩, atI_nat (j := 2) rfl, atI_nat (j := 2) rfl⟩
  have es : subD (.int ((6 + q : Nat) : Int)) (.int 6) = some (.int (q : Nat)) := by
    show some (D.int (((6 + q : Nat) : Int) - 6)) = _
    congr 2
    omega
  let ρ2 := ρ1.set 11 (.val T.d)
  have p3 : ∀ {ρ : Rho} {w : Wo}, getS 6 ρ w = some (.ok (.int ((6 + q : Nat) : Int)) ρ w) → mBin subD (getS 6) (ret (.int 6)) ρ w = some (.ok (.int (q : Nat)) ρ w) := fun {ρ w} h => bin_ok (b := .int 6) (ρ1 := ρ) (w1 := w) h rfl es
  have p4 := set_ok (i := 11) (bin_ok p2 (p3 (ρ := ρ1) (w := some s2) rfl) eT)
  refine ⟨_, [T, T], s2, ρ2, k2, hT, ?_⟩
  unfold cmpB
  refine (seq_nx p1).trans ((seq_nx p4).trans (ret_ok ?_))
  exact tup_ok (cons_ok (tup_ok (cons_ok (d := .str "op") (ρ1 := ρ2) (w1 := some s2) rfl (cons_ok (bin_ok (a := .lst [.str "same", .str "less", .str "plus"]) (ρ1 := ρ2) (w1 := some s2) rfl (p3 (ρ := ρ2) (w := some s2) rfl) eR) rfl))) rfl)
theorem tab_road (hcu : ∀ t, Sm t → ValsOk cu t) (hcv : ∀ t, Sm t → ValsOk cv t) (hp2 : ∀ t, Sm t → PlaceX pl2 t) (hc : ∀ t, Sm t → CountOk c t) (h1 : Base one) (h2 : Base other) (hd : Gives sa ca dv [.raw (.ref sa), (Ty.pair one other).d] fun d => d ∈ (Ty.pair one other).vals)
    {ts : List Ty} {names : List D} (h3 : ∀ t ∈ ts, Sm t ∧ t.many ≤ 3) (h3c : ∀ t ∈ ts, t.chk = true) (h3n : Nl ts) (hdn : dats 59 names = true) (l1 : 1 ≤ ts.length) (l3 : ts.length ≤ 3) (ln : names.length = ts.length) (hn : slD none (some (ts.length : Nat)) (.tup [.str "x", .str "y", .str "z"]) = some (.tup names)) (ho : ∀ rs w, opsF [.tup [.str "table", (Ty.pair one other).d, .tup rs, .tup names]] w = some (.ok (.tup names) w)) (hlo : ∀ rs w, lopsF [.tup [.str "table", (Ty.pair one other).d, .tup rs, .tup names]] w = some (.ok (.tup names) w))
    {s : Src} {s1 : Src} (k1 : Sok sa ca s1) (es : (mSl (mLst (mCons (getS 2) (mCons (getS 3) (mCons (getS 4) mNil)))) (ret none) (bnd (mBin addD (ret (.int 1)) (mCall 2 cp (mCons (getS 0) (mCons (ret (.int 3)) mNil)))) (kInt fun i => ret (some i)))) (dF sa one other 9) (some s) = some (.ok (.lst (ts.map Ty.d)) (dF sa one other 9) (some s1))) :
    ∃ R ts s' ρ', Sok sa ca s' ∧ PX cu pl1 pl2 c R ts ∧ tblB cp cv dv (dF sa one other 9) (some s) = some (.ok (.rt (.tup [R, .lst (ts.map Ty.d)])) ρ' (some s')) := by
  let ks : D := .lst (ts.map Ty.d)
  obtain ⟨x', el⟩ := prod_loop (sa := sa) (one := one) (other := other) hcv ks (some s1) ts h3 .free 1
  rw [Int.one_mul] at el
  obtain ⟨pl, pu⟩ := prodT_le ts h3
  have p27 : (3 : Int) ^ ts.length ≤ 27 := by
    rcases (show ts.length = 1 ∨ ts.length = 2 ∨ ts.length = 3 by omega) with e | e | e <;> rw [e] <;> decide
  let ρ := tF sa one other ks x' (prodT ts)
  obtain ⟨ys, s2, ey, hy, k2⟩ := mLc_draw (sa := sa) (ca := ca) (own := [14]) (bind := bName 14) (mi := bnd (mCons (getS 12) mNil) fun ds => lft (rng1 ds)) (me := mCall 2 dv (mCons (getS 0) (mCons (getS 5) mNil))) (ρ := ρ) (s := s1) (e := fun i : Nat => D.int (0 + (i : Nat))) (P := fun _ d => d ∈ (Ty.pair one other).vals) (List.range (prodT ts).toNat) k1 (by
      rw [bnd_ok (cons_ok (d := .int (prodT ts)) (ρ1 := ρ) (w1 := some s1) rfl rfl)]
      show lft (if 0 ≤ prodT ts ∧ prodT ts ≤ 100000 then some (rgs 0 (prodT ts).toNat) else none) ρ (some s1) = _
      rw [if_pos (by omega)]
      rfl) (by rw [List.length_range]; omega) fun i _ s hs => by
        obtain ⟨d, s', a, b, e⟩ := hd s hs
        let ρ4 := ρ.set 14 (.val (.int (0 + (i : Nat))))
        exact ⟨ρ4, ρ4, d, s', rfl, call2 (ρ1 := ρ4) (ρ2 := ρ4) (a := .raw (.ref sa)) (b := (Ty.pair one other).d) rfl rfl e, rfl, b, a⟩
  have ly := hy.length
  rw [List.length_range] at ly
  have hp := Base.pair h1 h2
  have hdt : ∀ d ∈ ys, dat 50 d = true := fun d m => by
    obtain ⟨_, _, g⟩ := hy.mem d m
    exact in_dat g hp.2 (by decide)
  refine ⟨.tup [.str "table", (Ty.pair one other).d, .tup ys, .tup names], ts, s2, ρ.set 13 (.val (.tup ys)), k2, ⟨xt_table (fun t m => (h3 t m).1) h3c hcu hp2 hc (by omega) hdt l1 l3 ln hdn (ho ys) (hlo ys), h3n⟩, ?_⟩
  let ρ5 := ρ.set 13 (.val (.tup ys))
  have e1 : mSet 9 (mSl (mLst (mCons (getS 2) (mCons (getS 3) (mCons (getS 4) mNil)))) (ret none) (bnd (mBin addD (ret (.int 1)) (mCall 2 cp (mCons (getS 0) (mCons (ret (.int 3)) mNil)))) (kInt fun i => ret (some i)))) (dF sa one other 9) (some s) = some (.ok .nx ((dF sa one other 9).set 9 (.val ks)) (some s1)) := set_ok es
  have e2 : mSet 12 (ret (.int 1)) ((dF sa one other 9).set 9 (.val ks)) (some s1) = some (.ok .nx (tF sa one other ks .free 1) (some s1)) := rfl
  have e3 : mFor (bnd (getS 9) fun d => lft (itemsD d)) (bName 11) (mSet 12 (mBin mulD (getS 12) (bnd (mCons (mCall 1 cv (mCons (getS 11) mNil)) mNil) fun ds => lft (lenD ds)))) (tF sa one other ks .free 1) (some s1) = some (.ok .nx ρ (some s1)) := by
    unfold mFor
    rw [bnd_ok (a := ts.map Ty.d) (ρ' := tF sa one other ks .free 1) (w' := some s1) rfl]
    exact el
  have e4 : mSet 13 (bnd (mCons (mLc [14] (bnd (mCons (getS 12) mNil) fun ds => lft (rng1 ds)) (bName 14) (ret true) (mCall 2 dv (mCons (getS 0) (mCons (getS 5) mNil)))) mNil) fun ds => lft (tupleD ds)) ρ (some s1) = some (.ok .nx ρ5 (some s2)) := by
    refine set_ok (ρ1 := ρ) ?_
    rw [bnd_ok (cons_ok ey rfl)]
    rfl
  have e5 : (mSl (mTup (mCons (ret (.str "x")) (mCons (ret (.str "y")) (mCons (ret (.str "z")) mNil)))) (ret none) (bnd (bnd (mCons (getS 9) mNil) fun ds => lft (lenD ds)) (kInt fun i => ret (some i)))) ρ5 (some s2) = some (.ok (.tup names) ρ5 (some s2)) := by
    refine sl_ok (x := .tup [.str "x", .str "y", .str "z"]) (ρ1 := ρ5) (w1 := some s2) rfl (int_ok (i := (ts.length : Nat)) ?_) hn
    rw [bnd_ok (cons_ok (d := ks) (ρ1 := ρ5) (w1 := some s2) rfl rfl)]
    show some (Rs.ok (D.int ((ts.map Ty.d).length : Nat)) ρ5 (some s2)) = _
    rw [List.length_map]
  unfold tblB
  refine (seq_nx e1).trans ((seq_nx e2).trans ((seq_nx e3).trans ((seq_nx e4).trans (ret_ok ?_))))
  exact tup_ok (cons_ok (tup_ok (cons_ok (d := .str "table") (ρ1 := ρ5) (w1 := some s2) rfl (cons_ok (d := (Ty.pair one other).d) (ρ1 := ρ5) (w1 := some s2) rfl (cons_ok (d := .tup ys) (ρ1 := ρ5) (w1 := some s2) rfl (cons_ok e5 rfl))))) rfl)
theorem road_tab (hp : PickOk sa ca cp) (hcu : ∀ t, Sm t → ValsOk cu t) (hcv : ∀ t, Sm t → ValsOk cv t) (hp2 : ∀ t, Sm t → PlaceX pl2 t) (hc : ∀ t, Sm t → CountOk c t) (h1 : Base one) (h2 : Base other) (hd : Gives sa ca dv [.raw (.ref sa), (Ty.pair one other).d] fun d => d ∈ (Ty.pair one other).vals) : Road sa ca (PX cu pl1 pl2 c) (tblB cp cv dv) (dF sa one other 9) := fun s hs => by
  obtain ⟨d, s1, k1, ⟨j, ej, hj⟩, e⟩ := hp 3 (by decide) s hs
  subst ej
  have lj : j < 3 := by omega
  let ρ := dF sa one other 9
  have b1 : mBin addD (ret (.int 1)) (mCall 2 cp (mCons (getS 0) (mCons (ret (.int 3)) mNil))) ρ (some s) = some (.ok (.int (1 + (j : Nat))) ρ (some s1)) := bin_ok (a := .int 1) (b := .int (j : Nat)) (ρ1 := ρ) (w1 := some s) rfl (call2 (ρ1 := ρ) (ρ2 := ρ) (a := .raw (.ref sa)) (b := .int 3) rfl rfl e) rfl
  have m0 := tyW_m3
  have m1 := h1.m3
  have m2 := h2.m3
  have c0 := chk_W
  have c1 := chk_base h1
  have c2 := chk_base h2
  match j, lj with
  | 0, _ => exact tab_road (cu := cu) (pl1 := pl1) (ts := [tyW]) (names := [.str "x"]) hcu hcv hp2 hc h1 h2 hd (fun t m => by simp at m; subst m; assumption) (fun t m => by simp at m; subst m; assumption) (nl1 nice_W) (by simp [dats, dat]) (by decide) (by decide) rfl rfl (fun rs w => rfl) (fun rs w => rfl) k1 (sl_ok (x := .lst [tyW.d, one.d, other.d]) (ρ1 := ρ) (w1 := some s) rfl (int_ok b1) rfl)
  | 1, _ => exact tab_road (cu := cu) (pl1 := pl1) (ts := [tyW, one]) (names := [.str "x", .str "y"]) hcu hcv hp2 hc h1 h2 hd (fun t m => by simp at m; rcases m with m | m <;> subst m <;> assumption) (fun t m => by simp at m; rcases m with m | m <;> subst m <;> assumption) (nl2 nice_W (nice_base h1)) (by simp [dats, dat]) (by show 1 ≤ 2; decide) (by show 2 ≤ 3; decide) rfl rfl (fun rs w => rfl) (fun rs w => rfl) k1 (sl_ok (x := .lst [tyW.d, one.d, other.d]) (ρ1 := ρ) (w1 := some s) rfl (int_ok b1) rfl)
  | 2, _ => exact tab_road (cu := cu) (pl1 := pl1) (ts := [tyW, one, other]) (names := [.str "x", .str "y", .str "z"]) hcu hcv hp2 hc h1 h2 hd (fun t m => by simp at m; rcases m with m | m | m <;> subst m <;> assumption) (fun t m => by simp at m; rcases m with m | m | m <;> subst m <;> assumption) (nl3 nice_W (nice_base h1) (nice_base h2)) (by simp [dats, dat]) (by show 1 ≤ 3; decide) (by show 3 ≤ 3; decide) rfl rfl (fun rs w => rfl) (fun rs w => rfl) k1 (sl_ok (x := .lst [tyW.d, one.d, other.d]) (ρ1 := ρ) (w1 := some s) rfl (int_ok b1) rfl)
theorem road_all (hp : PickOk sa ca cp) (hdv : ∀ t, Sm t → Gives sa ca dv [.raw (.ref sa), t.d] fun d => d ∈ t.vals) (hcv : ∀ t, Sm t → ValsOk cv t) (hcu : ∀ t, Sm t → ValsOk cu t) (hpl : ∀ t, Sm t → PlaceX pl1 t) (hp2 : ∀ t, Sm t → PlaceX pl2 t) (hc : ∀ t, Sm t → CountOk c t) (h1 : Base one) (h2 : Base other) (k : Nat) (lk : k < 16) : Road sa ca (PX cu pl1 pl2 c) (drRest dt cp cv dv) (dF sa one other k) := by
  unfold drRest
  match k, lk with
  | 0, _ => exact Road.take (m := opB) (fun w => rfl) (road_op h1 h2 0 (by decide))
  | 1, _ => exact Road.take (m := opB) (fun w => rfl) (road_op h1 h2 1 (by decide))
  | 2, _ => exact Road.take (m := opB) (fun w => rfl) (road_op h1 h2 2 (by decide))
  | 3, _ => exact Road.take (m := opB) (fun w => rfl) (road_op h1 h2 3 (by decide))
  | 4, _ => exact Road.take (m := opB) (fun w => rfl) (road_op h1 h2 4 (by decide))
  | 5, _ => exact Road.take (m := opB) (fun w => rfl) (road_op h1 h2 5 (by decide))
  | 6, _ => exact Road.pass (fun w => rfl) (Road.take (m := cmpB cp) (fun w => rfl) (road_cmp hp hcu hpl h1 h2 0 (by decide)))
  | 7, _ => exact Road.pass (fun w => rfl) (Road.take (m := cmpB cp) (fun w => rfl) (road_cmp hp hcu hpl h1 h2 1 (by decide)))
  | 8, _ => exact Road.pass (fun w => rfl) (Road.take (m := cmpB cp) (fun w => rfl) (road_cmp hp hcu hpl h1 h2 2 (by decide)))
  | 9, _ => exact Road.pass (fun w => rfl) (Road.pass (fun w => rfl) (Road.take (m := tblB cp cv dv) (fun w => rfl) (road_tab hp hcu hcv hp2 hc h1 h2 (hdv _ (Base.pair h1 h2)))))
  | 10, _ => exact Road.pass (fun w => rfl) (Road.pass (fun w => rfl) (Road.pass (fun w => rfl) (Road.take (fun w => rfl) (road_const h1 h2 (hdv _ h1.sm) 10))))
  | 11, _ => exact Road.pass (fun w => rfl) (Road.pass (fun w => rfl) (Road.pass (fun w => rfl) (Road.pass (fun w => rfl) (Road.take (fun w => rfl) (road_held h1 h2 (hdv _ h1.sm) 11)))))
  | 12, _ => exact Road.pass (fun w => rfl) (Road.pass (fun w => rfl) (Road.pass (fun w => rfl) (Road.pass (fun w => rfl) (Road.pass (fun w => rfl) (Road.take (fun w => rfl) (road_when hp h1 12))))))
  | 13, _ => exact Road.pass (fun w => rfl) (Road.pass (fun w => rfl) (Road.pass (fun w => rfl) (Road.pass (fun w => rfl) (Road.pass (fun w => rfl) (Road.pass (fun w => rfl) (Road.take (fun w => rfl) (road_choose h1 13)))))))
  | 14, _ => exact Road.pass (fun w => rfl) (Road.pass (fun w => rfl) (Road.pass (fun w => rfl) (Road.pass (fun w => rfl) (Road.pass (fun w => rfl) (Road.pass (fun w => rfl) (Road.pass (fun w => rfl) (Road.take (fun w => rfl) (road_as h1 14))))))))
  | 15, _ => exact Road.pass (fun w => rfl) (Road.pass (fun w => rfl) (Road.pass (fun w => rfl) (Road.pass (fun w => rfl) (Road.pass (fun w => rfl) (Road.pass (fun w => rfl) (Road.pass (fun w => rfl) (Road.pass (fun w => rfl) (road_arg hp h1 h2 15))))))))
  | k + 16, h => exact absurd h (by omega)
theorem drawR_spec (hp : PickOk sa ca cp) (hdt : Gives sa ca dt [.raw (.ref sa)] fun d => ∃ t, d = t.d ∧ Base t) (hdv : ∀ t, Sm t → Gives sa ca dv [.raw (.ref sa), t.d] fun d => d ∈ t.vals) (hcv : ∀ t, Sm t → ValsOk cv t) (hcu : ∀ t, Sm t → ValsOk cu t) (hpl : ∀ t, Sm t → PlaceX pl1 t) (hp2 : ∀ t, Sm t → PlaceX pl2 t) (hc : ∀ t, Sm t → CountOk c t) : Gives sa ca (gOf 1 15 (drawRM dt cp cv dv)) [.raw (.ref sa)] fun d => ∃ R ts, d = .tup [R, .lst (ts.map Ty.d)] ∧ PX cu pl1 pl2 c R ts := fun s hs => by
  obtain ⟨d1, s1, k1, ⟨one, e1, h1⟩, g1⟩ := hdt s hs
  obtain ⟨d2, s2, k2, ⟨other, e2, h2⟩, g2⟩ := hdt s1 k1
  obtain ⟨d3, s3, k3, ⟨k, e3, hk⟩, g3⟩ := hp 16 (by decide) s2 k2
  subst e1 e2 e3
  have lk : k < 16 := by omega
  obtain ⟨R, ts, s4, ρ', k4, hR, g4⟩ := road_all (dt := dt) hp hdv hcv hcu hpl hp2 hc h1 h2 k lk s3 k3
  refine ⟨_, s4, k4, ⟨R, ts, rfl, hR⟩, gOf_rt (ρ' := ρ') rfl ?_⟩
  let ρA : Rho := [.val (.raw (.ref sa)), .val tyYN.d, .val tyW.d, .free, .free, .free, .free, .free, .free, .free, .free, .free, .free, .free, .free]
  let ρB : Rho := [.val (.raw (.ref sa)), .val tyYN.d, .val tyW.d, .val one.d, .val other.d, .free, .free, .free, .free, .free, .free, .free, .free, .free, .free]
  have a1 : drA dt cp cv dv [.val (.raw (.ref sa)), .free, .free, .free, .free, .free, .free, .free, .free, .free, .free, .free, .free, .free, .free] (some s) = some (.ok .nx ρA (some s)) := rfl
  have a2 : drB dt cp cv dv ρA (some s) = some (.ok .nx ρB (some s2)) := by
    unfold drB mPar
    rw [bnd_ok (cons_ok (call1 (a := .raw (.ref sa)) (ρ1 := ρA) (w1 := some s) rfl g1) (cons_ok (call1 (a := .raw (.ref sa)) (ρ1 := ρA) (w1 := some s1) rfl g2) rfl))]
    rfl
  have a3 : drC dt cp cv dv ρB (some s2) = some (.ok .nx (dF sa one other k) (some s3)) := by
    unfold drC mAsg
    rw [bnd_ok (tup_ok (cons_ok (d := (Ty.pair one other).d) (ρ1 := ρB) (w1 := some s2) rfl (cons_ok (call2 (ρ1 := ρB) (ρ2 := ρB) (a := .raw (.ref sa)) (b := .int 16) rfl rfl g3) rfl)))]
    rfl
  exact (seq_nx a1).trans ((seq_nx a2).trans ((seq_nx a3).trans g4))
end
end E
end DL
set_option Elab.async false
set_option linter.all false
set_option maxRecDepth 100000
set_option maxHeartbeats 4000001
/-! DM9: a lap of law_k18. -/
namespace DL
open PySem PyProof.Rows PySem.Spec L2 RZ StX
def lapE (dr oo los ds dv lso so : Fn1) : M Fl := (mSeq (mAsg (mCall 1 dr (mCons (getS 1) mNil)) (bTup 2 (bCons (bName 3) (bCons (bName 4) bNil)))) (mSeq (mSet 5 (mCall 1 oo (mCons (getS 3) mNil))) (mSeq (mIte (mOr (mBinT neD (getS 5) (mCall 1 los (mCons (getS 3) mNil))) (mNot (mVal (bnd (mCons (getS 5) (mCons (ret (.raw (.ty "tuple"))) mNil)) fun ds => lft (isiD ds))))) (mRet (ret (.bl false))) (ret .nx)) (mSeq (mSet 4 (mSl (getS 4) (ret none) (bnd (bnd (mCons (getS 5) mNil) fun ds => lft (lenD ds)) (kInt fun i => ret (some i))))) (mSeq (mSet 6 (mLc [10] (bnd (getS 4) fun d => lft (itemsD d)) (bName 10) (ret true) (mCall 2 ds (mCons (getS 1) (mCons (getS 10) mNil))))) (mSeq (mPar 7 8 (mCons (mCall 2 dv (mCons (getS 1) (mCons (mBin ixD (getS 4) (ret (.int 0))) mNil))) (mCons (bnd (mCons (getS 6) mNil) fun ds => lft (reprD ds)) mNil))) (mSeq (mSet 9 (mCall 4 lso (mCons (getS 3) (mCons (getS 6) (mCons (getS 7) (mCons (getS 4) mNil)))))) (mSeq (mIte (mOr (mBinT neD (mCall 4 so (mCons (getS 3) (mCons (getS 4) (mCons (getS 6) (mCons (getS 7) mNil))))) (getS 9)) (mBinT neD (bnd (mCons (getS 6) mNil) fun ds => lft (reprD ds)) (getS 8))) (mRet (ret (.bl false))) (ret .nx)) (mIte (mBinT neD (mCall 4 so (mCons (getS 3) (mCons (bnd (mCons (getS 4) mNil) fun ds => lft (tupleD ds)) (mCons (bnd (mCons (getS 6) mNil) fun ds => lft (tupleD ds)) (mCons (getS 7) mNil))))) (getS 9)) (mRet (ret (.bl false))) (ret .nx))))))))))
theorem ne_refl {d : D} (h : dat 60 d = true) : neD d d = some (.bl false) := by
  unfold neD
  rw [h, deq_refl 60 d h]
  rfl
theorem neT_run {m1 m2 : M D} {d : D} {ρ ρ1 ρ2 : Rho} {w w1 w2 : Wo} (hd : dat 60 d = true) (h1 : m1 ρ w = some (.ok d ρ1 w1)) (h2 : m2 ρ1 w1 = some (.ok d ρ2 w2)) : mBinT neD m1 m2 ρ w = some (.ok false ρ2 w2) := by
  unfold mBinT
  rw [bnd_ok h1, bnd_ok h2, ne_refl hd]
  rfl
theorem lapE_run {sa ca : Addr} {dr oo los ds dv lso so : Fn1} (hdr : Gives sa ca dr [.raw (.ref sa)] fun d => ∃ R ts, d = .tup [R, .lst (ts.map Ty.d)] ∧ RtEq so oo lso los R ts ∧ Nl ts)
    (hds : ∀ t : Ty, t.small → t.deep ≤ 2 → Gives sa ca ds [.raw (.ref sa), t.d] fun d => ∃ x : St, d = x.d ∧ StOk t x)
    (hdv : ∀ t : Ty, t.small → t.deep ≤ 2 → Gives sa ca dv [.raw (.ref sa), t.d] fun d => d ∈ t.vals) (a2 a3 a4 a5 a6 a7 a8 a9 a10 : Slot) (s : Src) (hs : Sok sa ca s) :
    ∃ b2 b3 b4 b5 b6 b7 b8 b9 b10 s', Sok sa ca s' ∧ lapE dr oo los ds dv lso so [.free, .val (.raw (.ref sa)), a2, a3, a4, a5, a6, a7, a8, a9, a10] (some s) = some (.ok .nx [.free, .val (.raw (.ref sa)), b2, b3, b4, b5, b6, b7, b8, b9, b10] (some s')) := by
  obtain ⟨_, s1, k1, ⟨R, ts, e, ok, nts⟩, f1⟩ := hdr s hs
  subst e
  obtain ⟨names, g1, g1', gd, g2, g3, g4, g5⟩ := ok.ops
  have tk : ∀ t ∈ ts.take names.length, t.small ∧ t.deep ≤ 2 := fun t ht => ok.kinds t (List.mem_of_mem_take ht)
  have tl : (ts.take names.length).length = names.length := by rw [List.length_take]; omega
  let us := ts.take names.length
  have ul : us.length ≤ 10 := by rw [show us.length = names.length from tl]; omega
  have dn : dat 60 (.tup names) = true := by
    simp only [dat]
    exact gd
  let ρ0 : Rho := [.free, .val (.raw (.ref sa)), a2, a3, a4, a5, a6, a7, a8, a9, a10]
  let ρ1 : Rho := [.free, .val (.raw (.ref sa)), a2, .val R, .val (.lst (ts.map Ty.d)), a5, a6, a7, a8, a9, a10]
  let ρ2 : Rho := [.free, .val (.raw (.ref sa)), a2, .val R, .val (.lst (ts.map Ty.d)), .val (.tup names), a6, a7, a8, a9, a10]
  let ρ3 : Rho := [.free, .val (.raw (.ref sa)), a2, .val R, .val (.lst (us.map Ty.d)), .val (.tup names), a6, a7, a8, a9, a10]
  have p1 : mAsg (mCall 1 dr (mCons (getS 1) mNil)) (bTup 2 (bCons (bName 3) (bCons (bName 4) bNil))) ρ0 (some s) = some (.ok .nx ρ1 (some s1)) := by
    unfold mAsg
    rw [bnd_ok (call1 (ρ1 := ρ0) (a := .raw (.ref sa)) rfl f1)]
    rfl
  have p2 : mSet 5 (mCall 1 oo (mCons (getS 3) mNil)) ρ1 (some s1) = some (.ok .nx ρ2 (some s1)) := set_ok (call1 (ρ1 := ρ1) (a := R) rfl (g1 (some s1)))
  have p3 : mOr (mBinT neD (getS 5) (mCall 1 los (mCons (getS 3) mNil))) (mNot (mVal (bnd (mCons (getS 5) (mCons (ret (.raw (.ty "tuple"))) mNil)) fun ds => lft (isiD ds)))) ρ2 (some s1) = some (.ok false ρ2 (some s1)) := by
    have q := neT_run (m1 := getS 5) (m2 := mCall 1 los (mCons (getS 3) mNil)) (ρ := ρ2) (ρ1 := ρ2) (w := some s1) (w1 := some s1) dn rfl (call1 (ρ1 := ρ2) (a := R) rfl (g1' (some s1)))
    unfold mOr
    rw [bnd_ok q]
    rfl
  have p4 : mSet 4 (mSl (getS 4) (ret none) (bnd (bnd (mCons (getS 5) mNil) fun ds => lft (lenD ds)) (kInt fun i => ret (some i)))) ρ2 (some s1) = some (.ok .nx ρ3 (some s1)) := by
    have q2 : bnd (bnd (mCons (getS 5) mNil) fun ds => lft (lenD ds)) (kInt fun i => ret (some i)) ρ2 (some s1) = some (.ok (some (names.length : Nat)) ρ2 (some s1)) := rfl
    have q3 : mSl (getS 4) (ret none) (bnd (bnd (mCons (getS 5) mNil) fun ds => lft (lenD ds)) (kInt fun i => ret (some i))) ρ2 (some s1) = some (.ok (.lst (us.map Ty.d)) ρ2 (some s1)) := by
      have b2 : getS 4 ρ2 (some s1) = some (.ok (.lst (ts.map Ty.d)) ρ2 (some s1)) := rfl
      have b3 : (ret none : M (Option Int)) ρ2 (some s1) = some (.ok none ρ2 (some s1)) := rfl
      unfold mSl
      rw [bnd_ok b2, bnd_ok b3, bnd_ok q2]
      show some (Rs.ok (D.lst (cutD (ts.map Ty.d) none (some ((names.length : Nat) : Int)))) ρ2 (some s1)) = _
      rw [cut_to, ← List.map_take]
    exact set_ok q3
  -- the standings
  obtain ⟨ys, s2, f3, p5', k2⟩ := mLc_draw (sa := sa) (ca := ca) (own := [10]) (bind := bName 10) (mi := bnd (getS 4) fun d => lft (itemsD d)) (me := mCall 2 ds (mCons (getS 1) (mCons (getS 10) mNil))) (ρ := ρ3) (s := s1) (e := Ty.d) (P := fun t d => ∃ x : St, d = x.d ∧ StOk t x) us k1 rfl (by rw [tl]; omega) fun t ht s hs => by
    obtain ⟨d, s', k, p, e⟩ := hds t (tk t ht).1 (tk t ht).2 s hs
    let ρ' : Rho := [.free, .val (.raw (.ref sa)), a2, .val R, .val (.lst (us.map Ty.d)), .val (.tup names), a6, a7, a8, a9, .val t.d]
    exact ⟨ρ', ρ', d, s', rfl, call2 (ρ1 := ρ') (ρ2 := ρ') rfl rfl e, rfl, p, k⟩
  obtain ⟨l, el, hl⟩ := sts_of p5'
  subst el
  have ll := hl.length
  let ρ4 : Rho := [.free, .val (.raw (.ref sa)), a2, .val R, .val (.lst (us.map Ty.d)), .val (.tup names), .val (stL l), a7, a8, a9, .free]
  have p5 : mSet 6 (mLc [10] (bnd (getS 4) fun d => lft (itemsD d)) (bName 10) (ret true) (mCall 2 ds (mCons (getS 1) (mCons (getS 10) mNil)))) ρ3 (some s1) = some (.ok .nx ρ4 (some s2)) := set_ok f3
  have gl : ∀ s ∈ l, s.ok := fun s hs => by
    obtain ⟨t, ht, h⟩ := hl.mem s hs
    exact h.ok (by have := (tk t ht).2; omega)
  have nl : ∀ s ∈ l, niceS s = true := fun s hs => by
    obtain ⟨t, ht, h⟩ := hl.mem s hs
    exact nice_st (nts t (List.mem_of_mem_take ht)) h
  obtain ⟨x, ex⟩ := repr_sts (by omega) gl nl
  -- the memory, and what is shown ahead
  obtain ⟨t0, ht0⟩ : ∃ t, us[0]? = some t := ⟨us[0]'(by show 0 < (ts.take names.length).length; omega), List.getElem?_eq_getElem _⟩
  have m0 := List.mem_of_getElem? ht0
  obtain ⟨mem, s4, k4, hmem, f5⟩ := hdv t0 (tk t0 m0).1 (tk t0 m0).2 s2 k2
  let ρ5 : Rho := [.free, .val (.raw (.ref sa)), a2, .val R, .val (.lst (us.map Ty.d)), .val (.tup names), .val (stL l), .val mem, .val (.str x), a9, .free]
  have rp : ∀ {ρ : Rho} {w : Wo}, getS 6 ρ w = some (.ok (stL l) ρ w) → (bnd (mCons (getS 6) mNil) fun ds => lft (reprD ds)) ρ w = some (.ok (.str x) ρ w) := fun {ρ w} h => by
    rw [bnd_ok (cons_ok h rfl), ex]
    rfl
  have q6 : mCall 2 dv (mCons (getS 1) (mCons (mBin ixD (getS 4) (ret (.int 0))) mNil)) ρ4 (some s2) = some (.ok mem ρ4 (some s4)) := by
    refine call2 (ρ1 := ρ4) (ρ2 := ρ4) rfl (bin_ok (ρ1 := ρ4) (a := .lst (us.map Ty.d)) (b := .int 0) rfl rfl ?_) f5
    show atI (us.map Ty.d) ((0 : Nat) : Int) = some t0.d
    exact atI_nat (by rw [List.getElem?_map, ht0]; rfl)
  have p6 : mPar 7 8 (mCons (mCall 2 dv (mCons (getS 1) (mCons (mBin ixD (getS 4) (ret (.int 0))) mNil))) (mCons (bnd (mCons (getS 6) mNil) fun ds => lft (reprD ds)) mNil)) ρ4 (some s2) = some (.ok .nx ρ5 (some s4)) := by
    unfold mPar
    rw [bnd_ok (cons_ok q6 (cons_ok (rp (ρ := ρ4) (w := some s4) rfl) rfl))]
    rfl
  have dmem : dat 50 mem = true := dat_to (t0.dat mem hmem) (by have := (tk t0 m0).2; omega)
  -- the three standings
  obtain ⟨r, rok, runs⟩ := g5 mem dmem
  obtain ⟨e1, e2, e3⟩ := runs l hl
  have od : (stand r l).ok := stand_ok (rok l hl)
  have dd : dat 60 (stand r l).d = true := (stand r l).dat60 od
  let ρ6 : Rho := [.free, .val (.raw (.ref sa)), a2, .val R, .val (.lst (us.map Ty.d)), .val (.tup names), .val (stL l), .val mem, .val (.str x), .val (stand r l).d, .free]
  have p7 : mSet 9 (mCall 4 lso (mCons (getS 3) (mCons (getS 6) (mCons (getS 7) (mCons (getS 4) mNil))))) ρ5 (some s4) = some (.ok .nx ρ6 (some s4)) := set_ok (call4 rfl rfl rfl rfl (e3 (some s4)))
  have p8 : mOr (mBinT neD (mCall 4 so (mCons (getS 3) (mCons (getS 4) (mCons (getS 6) (mCons (getS 7) mNil))))) (getS 9)) (mBinT neD (bnd (mCons (getS 6) mNil) fun ds => lft (reprD ds)) (getS 8)) ρ6 (some s4) = some (.ok false ρ6 (some s4)) := by
    have c1 : mCall 4 so (mCons (getS 3) (mCons (getS 4) (mCons (getS 6) (mCons (getS 7) mNil)))) ρ6 (some s4) = some (.ok (stand r l).d ρ6 (some s4)) := call4 rfl rfl rfl rfl (e1 (some s4))
    have q := neT_run (m2 := getS 9) (ρ2 := ρ6) (w2 := some s4) dd c1 rfl
    unfold mOr
    rw [bnd_ok q]
    exact neT_run (ρ := ρ6) (ρ1 := ρ6) (ρ2 := ρ6) (w := some s4) (w1 := some s4) (w2 := some s4) (d := .str x) (by simp [dat]) (rp rfl) rfl
  have p9 : mBinT neD (mCall 4 so (mCons (getS 3) (mCons (bnd (mCons (getS 4) mNil) fun ds => lft (tupleD ds)) (mCons (bnd (mCons (getS 6) mNil) fun ds => lft (tupleD ds)) (mCons (getS 7) mNil))))) (getS 9) ρ6 (some s4) = some (.ok false ρ6 (some s4)) := by
    have c2 : mCall 4 so (mCons (getS 3) (mCons (bnd (mCons (getS 4) mNil) fun ds => lft (tupleD ds)) (mCons (bnd (mCons (getS 6) mNil) fun ds => lft (tupleD ds)) (mCons (getS 7) mNil)))) ρ6 (some s4) = some (.ok (stand r l).d ρ6 (some s4)) := call4 (a := R) (b := .tup (us.map Ty.d)) (c := T.stL l) (d := mem) rfl rfl rfl rfl (e2 (some s4))
    exact neT_run (m2 := getS 9) (ρ2 := ρ6) (w2 := some s4) dd c2 rfl
  refine ⟨a2, .val R, .val (.lst (us.map Ty.d)), .val (.tup names), .val (stL l), .val mem, .val (.str x), .val (stand r l).d, .free, s4, k4, ?_⟩
  unfold lapE
  refine (seq_nx p1).trans ((seq_nx p2).trans ((seq_if_no p3).trans ((seq_nx p4).trans ((seq_nx p5).trans ((seq_nx p6).trans ((seq_nx p7).trans ((seq_if_no p8).trans ?_)))))))
  exact (ite_run p9).trans rfl
end DL
set_option Elab.async false
set_option linter.all false
set_option maxRecDepth 100000
set_option maxHeartbeats 4000001
namespace KX
open PySem PyProof.Rows PySem.Spec L2 RZ StX DL
theorem t_pick (sa ca : Addr) (n : Nat) : PickOk sa ca (G (n + 1) .f__law_pick) := DL.pick_ok sa ca
theorem t_vals (n : Nat) (hn : 3 ≤ n) (t : Ty) (h : Sm t) : ValsOk (G n .f__law_values) t := fun w => values_spec (c := fun n => G n .f__law_values) (fun _ => rfl) w t h.1 n (by have := h.2; omega)
theorem t_count (n : Nat) (hn : 3 ≤ n) (t : Ty) (h : Sm t) : CountOk (G n .f_count_of) t := fun w => count_spec (c := fun n => G n .f_count_of) (fun _ => rfl) w t h.1 n (by have := h.2; omega)
theorem t_place (n : Nat) (hn : 4 ≤ n) (t : Ty) (h : Sm t) : PlaceX (G n .f_place_in) t := fun d hd => placeX_spec (pl := fun n => G n .f_place_in) (c := fun n => G n .f_count_of) (fun _ => rfl) (fun _ => rfl) t h.1 n (by have := h.2; omega) d hd
theorem t_drawV (sa ca : Addr) (n : Nat) (hn : 3 ≤ n) (t : Ty) (h : Sm t) : Gives sa ca (G (n + 2) .f__law_draw_value) [.raw (.ref sa), t.d] fun d => d ∈ t.vals := drawV_spec (cv := G (n + 1) .f__law_values) (cp := G (n + 1) .f__law_pick) (t_pick sa ca n) h.1 (t_vals (n + 1) (by omega) t h)
theorem t_drawS (sa ca : Addr) (n : Nat) (hn : 3 ≤ n) (t : Ty) (h : Sm t) : Gives sa ca (G (n + 3) .f__law_draw_standing) [.raw (.ref sa), t.d] fun d => ∃ x : DL.St, d = x.d ∧ StOk t x := drawS_spec (cp := G (n + 2) .f__law_pick) (cd := G (n + 2) .f__law_draw_value) (t_pick sa ca (n + 1)) (t_drawV sa ca n hn t h)
theorem t_stand : G 61 .f_standing_of = standX (G 56 .f_place_in) (G 57 .f_place_in) (G 57 .f_count_of) := rfl
theorem t_opsF : G 61 .f_operands_of = opsF := rfl
theorem t_lopsF : G 61 .f__law_operands = lopsF := rfl
theorem t_lstand : G 61 .f__law_standing = lsX (G 59 .f__law_values) := rfl
theorem t_right (sa ca : Addr) : Gives sa ca (G 61 .f__law_draw_right) [.raw (.ref sa)] fun d => ∃ R ts, d = .tup [R, .lst (ts.map Ty.d)] ∧ RtEq (G 61 .f_standing_of) (G 61 .f_operands_of) (G 61 .f__law_standing) (G 61 .f__law_operands) R ts ∧ Nl ts := by
  rw [t_stand, t_opsF, t_lopsF, t_lstand]
  exact E.drawR_spec (dt := G 60 .f__law_draw_type) (cp := G 60 .f__law_pick) (cv := G 60 .f__law_values) (dv := G 60 .f__law_draw_value) (t_pick sa ca 59) (drawT_spec (cp := G 59 .f__law_pick) (t_pick sa ca 58)) (t_drawV sa ca 58 (by decide)) (t_vals 60 (by decide)) (t_vals 59 (by decide)) (t_place 56 (by decide)) (t_place 57 (by decide)) (t_count 57 (by decide))
/-- the frame between the laps -/
def Lap (sa ca : Addr) (ρ : Rho) (w : Wo) : Prop := ∃ b2 b3 b4 b5 b6 b7 b8 b9 b10 s, ρ = [.free, .val (.raw (.ref sa)), b2, b3, b4, b5, b6, b7, b8, b9, b10] ∧ w = some s ∧ Sok sa ca s
abbrev lapX : M Fl := lapE (G 61 .f__law_draw_right) (G 61 .f_operands_of) (G 61 .f__law_operands) (G 61 .f__law_draw_standing) (G 61 .f__law_draw_value) (G 61 .f__law_standing) (G 61 .f_standing_of)
theorem t_loop (sa ca : Addr) (ρ : Rho) (w : Wo) (h : Lap sa ca ρ w) : ∃ ρ' w', forL (bName 2) lapX (rgs 0 30) ρ w = some (.ok .nx ρ' w') ∧ Lap sa ca ρ' w' := by
  refine for_inv (rgs 0 30) (fun d _ ρ w h => ?_) ρ w h
  obtain ⟨b2, b3, b4, b5, b6, b7, b8, b9, b10, s, e1, e2, hs⟩ := h
  subst e1 e2
  obtain ⟨c2, c3, c4, c5, c6, c7, c8, c9, c10, s', hs', e⟩ := lapE_run (t_right sa ca) (fun t a b => t_drawS sa ca 58 (by decide) t ⟨a, b⟩) (fun t a b => t_drawV sa ca 59 (by decide) t ⟨a, b⟩) (.val d) b3 b4 b5 b6 b7 b8 b9 b10 s hs
  exact ⟨_, _, _, rfl, .inl e, c2, c3, c4, c5, c6, c7, c8, c9, c10, s', rfl, rfl, hs'⟩
theorem t_input (w : Wo) : G 61 .f_operands_of [.tup [.str "input", .tup [.str "count", .int 2]]] w = some (.ok (.tup []) w) := by rfl
theorem told : DL.Told N_law.length 1 (m_law (G 61)) := fun sa ca cells _ hl => by
  obtain ⟨ρ', w', e, b2, b3, b4, b5, b6, b7, b8, b9, b10, s, e1, e2, hs⟩ := t_loop sa ca [.free, .val (.raw (.ref sa)), .free, .free, .free, .free, .free, .free, .free, .free, .free] (some (src0 sa ca cells)) ⟨_, _, _, _, _, _, _, _, _, _, rfl, rfl, ⟨rfl, rfl, by show ((cells.map absI).reverse).length ≤ 63; rw [List.length_reverse, List.length_map]; exact hl⟩⟩
  refine ⟨ρ', w', ?_⟩
  show mSeq (mFor (bnd (mCons (ret (.int 30)) mNil) fun ds => lft (rng1 ds)) (bName 2) lapX) (mRet (mBin eqD (mCall 1 (G 61 .f_operands_of) (mCons (mTup (mCons (ret (.str "input")) (mCons (mTup (mCons (ret (.str "count")) (mCons (ret (.int 2)) mNil))) mNil))) mNil)) (mTup mNil))) [.free, .val (.raw (.ref sa)), .free, .free, .free, .free, .free, .free, .free, .free, .free] (some (src0 sa ca cells)) = _
  have f : mFor (bnd (mCons (ret (.int 30)) mNil) fun ds => lft (rng1 ds)) (bName 2) lapX [.free, .val (.raw (.ref sa)), .free, .free, .free, .free, .free, .free, .free, .free, .free] (some (src0 sa ca cells)) = some (.ok .nx ρ' w') := by
    unfold mFor
    rw [bnd_ok (a := rgs 0 30) (ρ' := [.free, .val (.raw (.ref sa)), .free, .free, .free, .free, .free, .free, .free, .free, .free]) (w' := some (src0 sa ca cells)) rfl]
    exact e
  refine (seq_nx f).trans (ret_ok ?_)
  exact bin_ok (a := .tup []) (b := .tup []) (ρ1 := ρ') (w1 := w') (call1 (ρ1 := ρ') (w1 := w') (a := .tup [.str "input", .tup [.str "count", .int 2]]) rfl (t_input w')) rfl rfl
end KX
open PySem PySem.W
      PyProof.Rows
set_option maxHeartbeats 0 in
theorem PySem.Challenge.cw_tickworks_k18_standings_by_table_holds : PySem.Challenge.rw_tickworks_k18_standings_by_table.Holds := by
  w_on; o_law; k_head; (case
        hw => w_witness2)
  k_fill
  refine DL.walk_at (l := PySem.Challenge.rw_tickworks_k18_standings_by_table) (n := 63) rfl (by decide) rfl (fun w h Y => PySem.W.kIn_of Y) ?F
  case F =>
    intro w mg fa h XK G hmg
    refine KX.fin (n := 60) ?C hmg ⟨rfl, by decide, by decide⟩ KX.told
    case C =>
      refine ⟨?_, ?_, ?_, ?_, ?_, ?_, ?_, ?_, ?_, ?_, ?_, ?_, ?_, ?_, ?_, ?_, ?_, ?_, ?_, ?_, ?_, ?_, ?_, ?_, ?_, ?_, ?_, ?_, ?_, ?_, ?_, ?_, ?_, ?_, ?_, ?_, ?_, ?_, ?_, ?_, ?_, ?_, ?_, ?_, ?_, ?_, ?_, ?_, ?_, ?_, ?_, ?_, ?_, ?_⟩
      · exact PySem.W.mg_none_of XK G (by k_is)
      · exact PySem.W.mg_none_of XK G (by k_is)
      · exact PySem.W.mg_none_of XK G (by k_is)
      · exact PySem.W.mg_none_of XK G (by k_is)
      · exact PySem.W.mg_none_of XK G (by k_is)
      · exact PySem.W.mg_none_of XK G (by k_is)
      · exact PySem.W.mg_none_of XK G (by k_is)
      · exact PySem.W.mg_none_of XK G (by k_is)
      · exact PySem.W.mg_none_of XK G (by k_is)
      · exact PySem.W.mg_none_of XK G (by k_is)
      · exact PySem.W.mg_none_of XK G (by k_is)
      · refine' DL.cg_mk XK G ?a1 ?r1
        (case a1 => k_is)
        case r1 =>
          refine' DL.crp_tup ?l2 ?s2 ?r2
          (case l2 => k_is)
          (case s2 => decide)
          case r2 =>
            refine' .cons ?h3 ?t3
            case h3 =>
              exact DL.crp_str
            case t3 =>
              exact .nil
      · refine' DL.kd_mk XK G ?a4 ?l4 ?k4 ?w4 ?t4
        (case a4 => k_is)
        (case l4 => k_is)
        (case k4 => k_keys)
        (case w4 => decide)
        case t4 =>
          unfold KX.c_ADDED_SHAPES
          refine' .on ?a5 ?r5 ?t5
          (case a5 => k_is)
          case r5 =>
            refine' DL.crp_tup ?l6 ?s6 ?r6
            (case l6 => k_is)
            (case s6 => decide)
            case r6 =>
              refine' .cons ?h7 ?t7
              case h7 =>
                exact DL.crp_str
              case t7 =>
                exact .nil
          case t5 =>
            refine' .on ?a8 ?r8 ?t8
            (case a8 => k_is)
            case r8 =>
              refine' DL.crp_tup ?l9 ?s9 ?r9
              (case l9 => k_is)
              (case s9 => decide)
              case r9 =>
                refine' .cons ?h10 ?t10
                case h10 =>
                  exact DL.crp_str
                case t10 =>
                  refine' .cons ?h11 ?t11
                  case h11 =>
                    exact DL.crp_str
                  case t11 =>
                    exact .nil
            case t8 =>
              refine' .on ?a12 ?r12 ?t12
              (case a12 => k_is)
              case r12 =>
                refine' DL.crp_tup ?l13 ?s13 ?r13
                (case l13 => k_is)
                (case s13 => decide)
                case r13 =>
                  refine' .cons ?h14 ?t14
                  case h14 =>
                    exact DL.crp_str
                  case t14 =>
                    exact .nil
              case t12 =>
                refine' .off ?a15 ?t15
                (case a15 => k_is)
                case t15 =>
                  refine' .off ?a16 ?t16
                  (case a16 => k_is)
                  case t16 =>
                    refine' .off ?a17 ?t17
                    (case a17 => k_is)
                    case t17 =>
                      refine' .off ?a18 ?t18
                      (case a18 => k_is)
                      case t18 =>
                        refine' .off ?a19 ?t19
                        (case a19 => k_is)
                        case t19 =>
                          refine' .off ?a20 ?t20
                          (case a20 => k_is)
                          case t20 =>
                            refine' .off ?a21 ?t21
                            (case a21 => k_is)
                            case t21 =>
                              exact .nil
      · refine' DL.cg_mk XK G ?a22 ?r22
        (case a22 => k_is)
        case r22 =>
          refine' DL.crp_tup ?l23 ?s23 ?r23
          (case l23 => k_is)
          (case s23 => decide)
          case r23 =>
            refine' .cons ?h24 ?t24
            case h24 =>
              exact DL.crp_str
            case t24 =>
              exact .nil
      · refine' DL.kd_mk XK G ?a25 ?l25 ?k25 ?w25 ?t25
        (case a25 => k_is)
        (case l25 => k_is)
        (case k25 => k_keys)
        (case w25 => decide)
        case t25 =>
          unfold KX.c_RULES
          refine' .on ?a26 ?r26 ?t26
          (case a26 => k_is)
          case r26 =>
            exact DL.crp_fn (by k_is)
          case t26 =>
            refine' .on ?a27 ?r27 ?t27
            (case a27 => k_is)
            case r27 =>
              exact DL.crp_fn (by k_is)
            case t27 =>
              refine' .on ?a28 ?r28 ?t28
              (case a28 => k_is)
              case r28 =>
                exact DL.crp_fn (by k_is)
              case t28 =>
                refine' .on ?a29 ?r29 ?t29
                (case a29 => k_is)
                case r29 =>
                  exact DL.crp_fn (by k_is)
                case t29 =>
                  refine' .on ?a30 ?r30 ?t30
                  (case a30 => k_is)
                  case r30 =>
                    exact DL.crp_fn (by k_is)
                  case t30 =>
                    refine' .on ?a31 ?r31 ?t31
                    (case a31 => k_is)
                    case r31 =>
                      exact DL.crp_fn (by k_is)
                    case t31 =>
                      refine' .on ?a32 ?r32 ?t32
                      (case a32 => k_is)
                      case r32 =>
                        exact DL.crp_fn (by k_is)
                      case t32 =>
                        refine' .on ?a33 ?r33 ?t33
                        (case a33 => k_is)
                        case r33 =>
                          exact DL.crp_fn (by k_is)
                        case t33 =>
                          refine' .off ?a34 ?t34
                          (case a34 => k_is)
                          case t34 =>
                            refine' .off ?a35 ?t35
                            (case a35 => k_is)
                            case t35 =>
                              exact .nil
      · refine' DL.kd_mk XK G ?a36 ?l36 ?k36 ?w36 ?t36
        (case a36 => k_is)
        (case l36 => k_is)
        (case k36 => k_keys)
        (case w36 => decide)
        case t36 =>
          unfold KX.c_SHAPES
          refine' .on ?a37 ?r37 ?t37
          (case a37 => k_is)
          case r37 =>
            refine' DL.crp_tup ?l38 ?s38 ?r38
            (case l38 => k_is)
            (case s38 => decide)
            case r38 =>
              refine' .cons ?h39 ?t39
              case h39 =>
                exact DL.crp_str
              case t39 =>
                refine' .cons ?h40 ?t40
                case h40 =>
                  exact DL.crp_str
                case t40 =>
                  refine' .cons ?h41 ?t41
                  case h41 =>
                    exact DL.crp_str
                  case t41 =>
                    exact .nil
          case t37 =>
            refine' .on ?a42 ?r42 ?t42
            (case a42 => k_is)
            case r42 =>
              refine' DL.crp_tup ?l43 ?s43 ?r43
              (case l43 => k_is)
              (case s43 => decide)
              case r43 =>
                refine' .cons ?h44 ?t44
                case h44 =>
                  exact DL.crp_str
                case t44 =>
                  refine' .cons ?h45 ?t45
                  case h45 =>
                    exact DL.crp_str
                  case t45 =>
                    exact .nil
            case t42 =>
              refine' .on ?a46 ?r46 ?t46
              (case a46 => k_is)
              case r46 =>
                refine' DL.crp_tup ?l47 ?s47 ?r47
                (case l47 => k_is)
                (case s47 => decide)
                case r47 =>
                  refine' .cons ?h48 ?t48
                  case h48 =>
                    exact DL.crp_str
                  case t48 =>
                    refine' .cons ?h49 ?t49
                    case h49 =>
                      exact DL.crp_str
                    case t49 =>
                      refine' .cons ?h50 ?t50
                      case h50 =>
                        exact DL.crp_str
                      case t50 =>
                        exact .nil
              case t46 =>
                refine' .on ?a51 ?r51 ?t51
                (case a51 => k_is)
                case r51 =>
                  refine' DL.crp_tup ?l52 ?s52 ?r52
                  (case l52 => k_is)
                  (case s52 => decide)
                  case r52 =>
                    refine' .cons ?h53 ?t53
                    case h53 =>
                      exact DL.crp_str
                    case t53 =>
                      refine' .cons ?h54 ?t54
                      case h54 =>
                        exact DL.crp_str
                      case t54 =>
                        refine' .cons ?h55 ?t55
                        case h55 =>
                          exact DL.crp_str
                        case t55 =>
                          refine' .cons ?h56 ?t56
                          case h56 =>
                            exact DL.crp_str
                          case t56 =>
                            exact .nil
                case t51 =>
                  refine' .on ?a57 ?r57 ?t57
                  (case a57 => k_is)
                  case r57 =>
                    refine' DL.crp_tup ?l58 ?s58 ?r58
                    (case l58 => k_is)
                    (case s58 => decide)
                    case r58 =>
                      refine' .cons ?h59 ?t59
                      case h59 =>
                        exact DL.crp_str
                      case t59 =>
                        refine' .cons ?h60 ?t60
                        case h60 =>
                          exact DL.crp_str
                        case t60 =>
                          refine' .cons ?h61 ?t61
                          case h61 =>
                            exact DL.crp_str
                          case t61 =>
                            exact .nil
                  case t57 =>
                    refine' .on ?a62 ?r62 ?t62
                    (case a62 => k_is)
                    case r62 =>
                      refine' DL.crp_tup ?l63 ?s63 ?r63
                      (case l63 => k_is)
                      (case s63 => decide)
                      case r63 =>
                        refine' .cons ?h64 ?t64
                        case h64 =>
                          exact DL.crp_str
                        case t64 =>
                          refine' .cons ?h65 ?t65
                          case h65 =>
                            exact DL.crp_str
                          case t65 =>
                            exact .nil
                    case t62 =>
                      refine' .on ?a66 ?r66 ?t66
                      (case a66 => k_is)
                      case r66 =>
                        refine' DL.crp_tup ?l67 ?s67 ?r67
                        (case l67 => k_is)
                        (case s67 => decide)
                        case r67 =>
                          refine' .cons ?h68 ?t68
                          case h68 =>
                            exact DL.crp_str
                          case t68 =>
                            refine' .cons ?h69 ?t69
                            case h69 =>
                              exact DL.crp_str
                            case t69 =>
                              refine' .cons ?h70 ?t70
                              case h70 =>
                                exact DL.crp_str
                              case t70 =>
                                exact .nil
                      case t66 =>
                        refine' .off ?a71 ?t71
                        (case a71 => k_is)
                        case t71 =>
                          refine' .off ?a72 ?t72
                          (case a72 => k_is)
                          case t72 =>
                            refine' .off ?a73 ?t73
                            (case a73 => k_is)
                            case t73 =>
                              exact .nil
      · refine' DL.cg_mk XK G ?a74 ?r74
        (case a74 => k_is)
        case r74 =>
          refine' DL.crp_tup ?l75 ?s75 ?r75
          (case l75 => k_is)
          (case s75 => decide)
          case r75 =>
            refine' .cons ?h76 ?t76
            case h76 =>
              exact DL.crp_str
            case t76 =>
              exact .nil
      · refine' DL.cg_mk XK G ?a77 ?r77
        (case a77 => k_is)
        case r77 =>
          refine' DL.crp_tup ?l78 ?s78 ?r78
          (case l78 => k_is)
          (case s78 => decide)
          case r78 =>
            refine' .cons ?h79 ?t79
            case h79 =>
              exact DL.crp_str
            case t79 =>
              exact .nil
      · refine' DL.df_mk XK G ?a80 ?l80 ?c80 ?k80 ?b80
        (case a80 => k_is)
        (case l80 => k_is)
        (case c80 => k_is)
        (case k80 => k_is)
        case b80 =>
          exact fun F => F.binds (ps := ["kind"]) fun _ _ _ _ _ _ us hl => match us, hl with | [_], _ => rfl
      · refine' DL.df_mk XK G ?a81 ?l81 ?c81 ?k81 ?b81
        (case a81 => k_is)
        (case l81 => k_is)
        (case c81 => k_is)
        (case k81 => k_is)
        case b81 =>
          exact fun F => F.binds (ps := ["kind", "value"]) fun _ _ _ _ _ _ us hl => match us, hl with | [_, _], _ => rfl
      · refine' DL.df_mk XK G ?a82 ?l82 ?c82 ?k82 ?b82
        (case a82 => k_is)
        (case l82 => k_is)
        (case c82 => k_is)
        (case k82 => k_is)
        case b82 =>
          exact fun F => F.binds (ps := ["holds"]) fun _ _ _ _ _ _ us hl => match us, hl with | [_], _ => rfl
      · refine' DL.df_mk XK G ?a83 ?l83 ?c83 ?k83 ?b83
        (case a83 => k_is)
        (case l83 => k_is)
        (case c83 => k_is)
        (case k83 => k_is)
        case b83 =>
          exact fun F => F.binds (ps := ["word", "kind", "one", "other"]) fun _ _ _ _ _ _ us hl => match us, hl with | [_, _, _, _], _ => rfl
      · refine' DL.df_mk XK G ?a84 ?l84 ?c84 ?k84 ?b84
        (case a84 => k_is)
        (case l84 => k_is)
        (case c84 => k_is)
        (case k84 => k_is)
        case b84 =>
          exact fun F => F.binds (ps := ["word", "one", "other"]) fun _ _ _ _ _ _ us hl => match us, hl with | [_, _, _], _ => rfl
      · refine' DL.df_mk XK G ?a85 ?l85 ?c85 ?k85 ?b85
        (case a85 => k_is)
        (case l85 => k_is)
        (case c85 => k_is)
        (case k85 => k_is)
        case b85 =>
          exact fun F => F.binds (ps := ["word", "kinds", "values"]) fun _ _ _ _ _ _ us hl => match us, hl with | [_, _, _], _ => rfl
      · refine' DL.df_mk XK G ?a86 ?l86 ?c86 ?k86 ?b86
        (case a86 => k_is)
        (case l86 => k_is)
        (case c86 => k_is)
        (case k86 => k_is)
        case b86 =>
          exact fun F => F.binds (ps := ["results", "kinds", "values"]) fun _ _ _ _ _ _ us hl => match us, hl with | [_, _, _], _ => rfl
      · refine' DL.df_mk XK G ?a87 ?l87 ?c87 ?k87 ?b87
        (case a87 => k_is)
        (case l87 => k_is)
        (case c87 => k_is)
        (case k87 => k_is)
        case b87 =>
          exact fun F => F.binds (ps := ["right", "kinds", "values"]) fun _ _ _ _ _ _ us hl => match us, hl with | [_, _, _], _ => rfl
      · refine' DL.df_mk XK G ?a88 ?l88 ?c88 ?k88 ?b88
        (case a88 => k_is)
        (case l88 => k_is)
        (case c88 => k_is)
        (case k88 => k_is)
        case b88 =>
          exact fun F => F.binds (ps := ["right"]) fun _ _ _ _ _ _ us hl => match us, hl with | [_], _ => rfl
      · refine' DL.df_mk XK G ?a89 ?l89 ?c89 ?k89 ?b89
        (case a89 => k_is)
        (case l89 => k_is)
        (case c89 => k_is)
        (case k89 => k_is)
        case b89 =>
          exact fun F => F.binds (ps := ["right"]) fun _ _ _ _ _ _ us hl => match us, hl with | [_], _ => rfl
      · refine' DL.df_mk XK G ?a90 ?l90 ?c90 ?k90 ?b90
        (case a90 => k_is)
        (case l90 => k_is)
        (case c90 => k_is)
        (case k90 => k_is)
        case b90 =>
          exact fun F => F.binds (ps := ["right"]) fun _ _ _ _ _ _ us hl => match us, hl with | [_], _ => rfl
      · refine' DL.df_mk XK G ?a91 ?l91 ?c91 ?k91 ?b91
        (case a91 => k_is)
        (case l91 => k_is)
        (case c91 => k_is)
        (case k91 => k_is)
        case b91 =>
          exact fun F => F.binds (ps := ["standing"]) fun _ _ _ _ _ _ us hl => match us, hl with | [_], _ => rfl
      · refine' DL.df_mk XK G ?a92 ?l92 ?c92 ?k92 ?b92
        (case a92 => k_is)
        (case l92 => k_is)
        (case c92 => k_is)
        (case k92 => k_is)
        case b92 =>
          exact fun F => F.binds (ps := ["standings"]) fun _ _ _ _ _ _ us hl => match us, hl with | [_], _ => rfl
      · refine' DL.df_mk XK G ?a93 ?l93 ?c93 ?k93 ?b93
        (case a93 => k_is)
        (case l93 => k_is)
        (case c93 => k_is)
        (case k93 => k_is)
        case b93 =>
          exact fun F => F.binds (ps := ["right", "kinds", "standings", "memory"]) fun _ _ _ _ _ _ us hl => match us, hl with | [_, _, _, _], _ => rfl
      · refine' DL.df_mk XK G ?a94 ?l94 ?c94 ?k94 ?b94
        (case a94 => k_is)
        (case l94 => k_is)
        (case c94 => k_is)
        (case k94 => k_is)
        case b94 =>
          exact fun F => F.binds (ps := ["right", "kinds", "standings", "memory"]) fun _ _ _ _ _ _ us hl => match us, hl with | [_, _, _, _], _ => rfl
      · refine' DL.df_mk XK G ?a95 ?l95 ?c95 ?k95 ?b95
        (case a95 => k_is)
        (case l95 => k_is)
        (case c95 => k_is)
        (case k95 => k_is)
        case b95 =>
          exact fun F => F.binds (ps := ["right", "kinds", "standings", "memory"]) fun _ _ _ _ _ _ us hl => match us, hl with | [_, _, _, _], _ => rfl
      · refine' DL.df_mk XK G ?a96 ?l96 ?c96 ?k96 ?b96
        (case a96 => k_is)
        (case l96 => k_is)
        (case c96 => k_is)
        (case k96 => k_is)
        case b96 =>
          exact fun F => F.binds (ps := ["right", "kinds", "standings", "memory"]) fun _ _ _ _ _ _ us hl => match us, hl with | [_, _, _, _], _ => rfl
      · refine' DL.df_mk XK G ?a97 ?l97 ?c97 ?k97 ?b97
        (case a97 => k_is)
        (case l97 => k_is)
        (case c97 => k_is)
        (case k97 => k_is)
        case b97 =>
          exact fun F => F.binds (ps := ["right", "kinds", "standings", "memory"]) fun _ _ _ _ _ _ us hl => match us, hl with | [_, _, _, _], _ => rfl
      · refine' DL.df_mk XK G ?a98 ?l98 ?c98 ?k98 ?b98
        (case a98 => k_is)
        (case l98 => k_is)
        (case c98 => k_is)
        (case k98 => k_is)
        case b98 =>
          exact fun F => F.binds (ps := ["right", "kinds", "standings", "memory"]) fun _ _ _ _ _ _ us hl => match us, hl with | [_, _, _, _], _ => rfl
      · refine' DL.df_mk XK G ?a99 ?l99 ?c99 ?k99 ?b99
        (case a99 => k_is)
        (case l99 => k_is)
        (case c99 => k_is)
        (case k99 => k_is)
        case b99 =>
          exact fun F => F.binds (ps := ["right", "kinds", "standings", "memory"]) fun _ _ _ _ _ _ us hl => match us, hl with | [_, _, _, _], _ => rfl
      · refine' DL.df_mk XK G ?a100 ?l100 ?c100 ?k100 ?b100
        (case a100 => k_is)
        (case l100 => k_is)
        (case c100 => k_is)
        (case k100 => k_is)
        case b100 =>
          exact fun F => F.binds (ps := ["right", "kinds", "standings", "memory"]) fun _ _ _ _ _ _ us hl => match us, hl with | [_, _, _, _], _ => rfl
      · refine' DL.df_mk XK G ?a101 ?l101 ?c101 ?k101 ?b101
        (case a101 => k_is)
        (case l101 => k_is)
        (case c101 => k_is)
        (case k101 => k_is)
        case b101 =>
          exact fun F => F.binds (ps := ["_law_source", "_law_most"]) fun _ _ _ _ _ _ us hl => match us, hl with | [_, _], _ => rfl
      · refine' DL.df_mk XK G ?a102 ?l102 ?c102 ?k102 ?b102
        (case a102 => k_is)
        (case l102 => k_is)
        (case c102 => k_is)
        (case k102 => k_is)
        case b102 =>
          exact fun F => F.binds (ps := ["_law_source"]) fun _ _ _ _ _ _ us hl => match us, hl with | [_], _ => rfl
      · refine' DL.df_mk XK G ?a103 ?l103 ?c103 ?k103 ?b103
        (case a103 => k_is)
        (case l103 => k_is)
        (case c103 => k_is)
        (case k103 => k_is)
        case b103 =>
          exact fun F => F.binds (ps := ["_law_type_here"]) fun _ _ _ _ _ _ us hl => match us, hl with | [_], _ => rfl
      · refine' DL.df_mk XK G ?a104 ?l104 ?c104 ?k104 ?b104
        (case a104 => k_is)
        (case l104 => k_is)
        (case c104 => k_is)
        (case k104 => k_is)
        case b104 =>
          exact fun F => F.binds (ps := ["_law_source", "_law_type_here"]) fun _ _ _ _ _ _ us hl => match us, hl with | [_, _], _ => rfl
      · refine' DL.df_mk XK G ?a105 ?l105 ?c105 ?k105 ?b105
        (case a105 => k_is)
        (case l105 => k_is)
        (case c105 => k_is)
        (case k105 => k_is)
        case b105 =>
          exact fun F => F.binds (ps := ["_law_source"]) fun _ _ _ _ _ _ us hl => match us, hl with | [_], _ => rfl
      · refine' DL.df_mk XK G ?a106 ?l106 ?c106 ?k106 ?b106
        (case a106 => k_is)
        (case l106 => k_is)
        (case c106 => k_is)
        (case k106 => k_is)
        case b106 =>
          exact fun F => F.binds (ps := ["_law_right"]) fun _ _ _ _ _ _ us hl => match us, hl with | [_], _ => rfl
      · refine' DL.df_mk XK G ?a107 ?l107 ?c107 ?k107 ?b107
        (case a107 => k_is)
        (case l107 => k_is)
        (case c107 => k_is)
        (case k107 => k_is)
        case b107 =>
          exact fun F => F.binds (ps := ["_law_source", "_law_type_here"]) fun _ _ _ _ _ _ us hl => match us, hl with | [_, _], _ => rfl
      · refine' DL.df_mk XK G ?a108 ?l108 ?c108 ?k108 ?b108
        (case a108 => k_is)
        (case l108 => k_is)
        (case c108 => k_is)
        (case k108 => k_is)
        case b108 =>
          exact fun F => F.binds (ps := ["_law_one"]) fun _ _ _ _ _ _ us hl => match us, hl with | [_], _ => rfl
      · refine' DL.df_mk XK G ?a109 ?l109 ?c109 ?k109 ?b109
        (case a109 => k_is)
        (case l109 => k_is)
        (case c109 => k_is)
        (case k109 => k_is)
        case b109 =>
          exact fun F => F.binds (ps := ["_law_some", "_law_words"]) fun _ _ _ _ _ _ us hl => match us, hl with | [_, _], _ => rfl
      · refine' DL.df_mk XK G ?a110 ?l110 ?c110 ?k110 ?b110
        (case a110 => k_is)
        (case l110 => k_is)
        (case c110 => k_is)
        (case k110 => k_is)
        case b110 =>
          exact fun F => F.binds (ps := ["_law_word", "_law_kinds", "_law_some"]) fun _ _ _ _ _ _ us hl => match us, hl with | [_, _, _], _ => rfl
      · refine' DL.df_mk XK G ?a111 ?l111 ?c111 ?k111 ?b111
        (case a111 => k_is)
        (case l111 => k_is)
        (case c111 => k_is)
        (case k111 => k_is)
        case b111 =>
          exact fun F => F.binds (ps := ["_law_some_values", "_law_types"]) fun _ _ _ _ _ _ us hl => match us, hl with | [_, _], _ => rfl
      · refine' DL.df_mk XK G ?a112 ?l112 ?c112 ?k112 ?b112
        (case a112 => k_is)
        (case l112 => k_is)
        (case c112 => k_is)
        (case k112 => k_is)
        case b112 =>
          exact fun F => F.binds (ps := ["_law_right", "_law_some", "_law_memory", "_law_types"]) fun _ _ _ _ _ _ us hl => match us, hl with | [_, _, _, _], _ => rfl
      · refine' DL.df_mk XK G ?a113 ?l113 ?c113 ?k113 ?b113
        (case a113 => k_is)
        (case l113 => k_is)
        (case c113 => k_is)
        (case k113 => k_is)
        case b113 =>
          exact fun F => F.binds (ps := ["_law_script"]) fun _ _ _ _ _ _ us hl => match us, hl with | [_], _ => rfl
      · refine' DL.df_mk XK G ?a114 ?l114 ?c114 ?k114 ?b114
        (case a114 => k_is)
        (case l114 => k_is)
        (case c114 => k_is)
        (case k114 => k_is)
        case b114 =>
          exact fun F => F.binds (ps := ["_law_script"]) fun _ _ _ _ _ _ us hl => match us, hl with | [_], _ => rfl
      · exact fun y f e => PySem.W.mg_of XK G e
