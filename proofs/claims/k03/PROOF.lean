import PyProof.Rows.All
import Wide.All
import OpenK.AllK
import Wide.FinOn
import KE.KStateDown
import HandS.ForMost
import HandS.Evl
import HandS.WordsExc
import HandS.Defaults
import HandS.More
import HandS.Wide
import HandS.IsInst
import HandS.Zip
import HandS.SortInts
import HandS.TupMul
import HandS.TupLe
import HandS.TupAny
import HandS.Conv
import HandS.Style
import HandS.Walk
import KE.GoesMore
import KE.GoesZip
import KE.GoesEnum
import HandS.Head0
import HandS.Head1
import HandS.Head2
import HandS.HeadEnd
import HandS.HeadHook1
import HandS.HeadHook2
import HandS.HeadHook3
import HandS.HeadHook4
import HandS.HeadWalk
import HandS.Deep
import HandS.TryOnly
import HandS.Exc
import HandS.ExcOwn
import HandS.ExcSuper
import HandS.ForSpec
import Open.SpecLaws
import KE.OsGo
import HandS.Small
import HandS.FStr
import HandS.ExcIs
import HandS.Lambda
import HandS.NestedK
import HandS.SetFor
import HandS.Strs
import HandS.TupSets
import KE.KDictZip
import HandS.RevRange
import KE.KRevSl
import PySem.Challenge.RW_overlayhall_k03_trees_refused
set_option Elab.async false
set_option linter.all false
set_option maxRecDepth 100000
set_option maxHeartbeats 0
/-! ### what all laws share: the drawer, data -/
namespace Ov
open PySem PySem.Spec PyProof.Rows L2
/-- the drawer: its list at h, its cells at c -/
def Dr (H : Hp) (h c : Addr) : Prop := ∃ (m k : Int) (xs : List Int), H h = some (.lst [.int m, .ref c, .int k]) ∧ H c = some (.lst (xs.map V.int)) ∧ xs.length ≤ 63
/-- all but the drawer stays -/
def But (h c : Addr) (H H' : Hp) : Prop := ∀ a o, a ≠ h → a ≠ c → H a = some o → H' a = some o
theorem But.refl {h c : Addr} (H : Hp) : But h c H H := fun _ _ _ _ e => e
theorem But.trans {h c : Addr} {H H1 H2 : Hp} (a : But h c H H1) (b : But h c H1 H2) : But h c H H2 := fun x o n1 n2 e => b x o n1 n2 (a x o n1 n2 e)
theorem But.same {h c : Addr} {H H' : Hp} (a : Same H H') : But h c H H' := fun x o _ _ e => a x o e
theorem Same.new {H : Hp} {p : Addr} {o : HO} (h : H p = none) : Same H (upd H p o) := fun b u q => by rw [upd_ne (ne_of_none q h)]; exact q
theorem But.new {h c : Addr} {H : Hp} {p : Addr} {o : HO} (e : H p = none) : But h c H (upd H p o) := .same (Same.new e)
theorem But.updh {h c : Addr} {H : Hp} {o : HO} : But h c H (upd H h o) := fun x u n1 _ e => by rw [upd_ne n1]; exact e
theorem But.updc {h c : Addr} {H : Hp} {o : HO} : But h c H (upd H c o) := fun x u _ n2 e => by rw [upd_ne n2]; exact e
theorem But.tup {h c a : Addr} {H H' : Hp} {xs : List V} (b : But h c H H') (d : Dr H h c) (e : H a = some (.tup xs)) : H' a = some (.tup xs) := by
  obtain ⟨m, k, ns, h1, h2, _⟩ := d
  exact b a _ (ne_of e h1 (by intro z; cases z)) (ne_of e h2 (by intro z; cases z)) e
theorem Dr.same {h c : Addr} {H H' : Hp} (d : Dr H h c) (e : Same H H') : Dr H' h c := by
  obtain ⟨m, k, ns, h1, h2, h3⟩ := d
  exact ⟨m, k, ns, e _ _ h1, e _ _ h2, h3⟩
theorem But.updn {h c D : Addr} {H H' : Hp} {o : HO} (b : But h c H H') (hD : H D = none) : But h c H (upd H' D o) := fun a u n1 n2 e => by rw [upd_ne (ne_of_none e hD)]; exact b a u n1 n2 e
theorem Same.updn {D : Addr} {H H' : Hp} {o : HO} (b : Same H H') (hD : H D = none) : Same H (upd H' D o) := fun a u e => by rw [upd_ne (ne_of_none e hD)]; exact b a u e
theorem Dr.upd {h c D : Addr} {H : Hp} {o : HO} (d : Dr H h c) (n1 : D ≠ h) (n2 : D ≠ c) : Dr (upd H D o) h c := by
  obtain ⟨m, k, ns, h1, h2, h3⟩ := d
  exact ⟨m, k, ns, by rw [upd_ne n1.symm]; exact h1, by rw [upd_ne n2.symm]; exact h2, h3⟩
theorem Dr.ne {h c : Addr} {H : Hp} (d : Dr H h c) : h ≠ c := by
  obtain ⟨m, k, ns, h1, h2, _⟩ := d
  refine ne_of h1 h2 (fun z => ?_)
  have z1 : [V.int m, .ref c, .int k] = ns.map V.int := by injection z
  have z2 := congrArg (fun l : List V => l[1]?) z1
  have z3 : some (V.ref c) = (ns.map V.int)[1]? := z2
  rw [List.getElem?_map] at z3
  cases q : ns[1]? with
  | none => rw [q] at z3; cases z3
  | some u => rw [q] at z3; cases z3
/-- a draw: one of n -/
def spNext : Sp := fun vs H Q _ => ∃ (h c : Addr) (n : Int), vs = [.ref h, .int n] ∧ Dr H h c ∧ 0 < n ∧ n ≤ 1000000 ∧ ∀ (r : Int) (H' : Hp), 0 ≤ r → r < n → But h c H H' → Dr H' h c → Q (.int r) H'
/-- the drawer is made of the script -/
def spMix (K : PySem.W.Frag) : Sp := fun vs H Q _ => ∃ (a : Addr) (ns : List Int) (z : Int), vs = [.ref a, .int z] ∧ SqL K H a (ns.map V.int) ∧ ns.length ≤ 63 ∧ -(2 ^ 31) < z ∧ z < 2 ^ 31 ∧ ∀ (h c : Addr) (H' : Hp), H h = none → H c = none → Same H H' → Dr H' h c → Q (.ref h) H'
/-! ### rules with the written part told (within a comprehension) -/
section
variable {X : Cx} {K : PySem.W.Frag}
theorem pi_listK {tg l : Expr} {tl : TE} (hK : X.K = K) (hl : PE X l tl) : PI X tg l (iList K tl) := by subst hK; exact pi_list hl
theorem pi_tupK {tg l : Expr} {tl : TE} (hK : X.K = K) (hl : PE X l tl) : PI X tg l (iTup K tl) := by subst hK; exact pi_tup hl
theorem pg_tupK {es : List Expr} {k : Nat} {pos : Pos} {t : TGs} {n : Nat} (hK : X.K = K) (hc : X.calm = true) (h : PGs X es t)
    (hn : (assignEach es X.env).length = n := by rfl) (hst : (assignEach es X.env).findIdx? (·.1) = none := by rfl) : PG X (.Tuple es k pos) (gTup K n t) := by subst hK; exact pg_tup hc h hn hst
theorem pe_bm0K {o : Expr} {to : TE} {name : Str} {apos cpos : Pos} {T id : String} {r : V → List V → Hp → VK → Prop} (hK : X.K = K) (pa : PlainAttrs T) (slot : Slot T name id) (hty : typeOf (.builtin id) = pure (.type "method_descriptor")) (hm : MtR X id r) (ho : PE X o to)
    (hbase : attributeBase o name X.env (eval o X.env) = eval o X.env := by rfl) (hline : (apos.endLine == cpos.line) = true := by rfl) : PE X (.Call (.Attribute o name apos) [] [] cpos) (tBM0 K T r to) := by subst hK; exact pe_bm0 pa slot hty hm ho hbase hline
theorem pe_bmK {o e : Expr} {es : List Expr} {to : TE} {t : TA} {name : Str} {apos cpos : Pos} {T id : String} {r : V → List V → Hp → VK → Prop} (hK : X.K = K) (pa : PlainAttrs T) (slot : Slot T name id) (hty : typeOf (.builtin id) = pure (.type "method_descriptor")) (hm : MtR X id r) (ho : PE X o to) (ha : PA X (e :: es) t)
    (hbase : attributeBase o name X.env (eval o X.env) = eval o X.env := by rfl)
    (hfew : ((backTo cpos (starEach (e :: es) X.env)).all (fun x => !x.1) && (backToKw cpos (keywordEach [] X.env)).all (fun x => x.1.isSome)
      && decide ((e :: es).length + ([] : List Keyword).length + (if ([] : List Keyword).isEmpty then 0 else 1) < 30)) = true := by rfl)
    (hline : (apos.endLine == cpos.line) = true := by rfl) (hs : starEach (e :: es) X.env = (false, eval e X.env) :: starEach es X.env := by rfl) (hplain : (backTo cpos (starEach es X.env)).any (·.1) = false := by rfl) : PE X (.Call (.Attribute o name apos) (e :: es) [] cpos) (tBM K T r to t) := by subst hK; exact pe_bm pa slot hty hm ho ha hbase hfew hline hs hplain
theorem pe_revLK {e : Expr} {te : TE} {k : Nat} {p1 p2 p3 pos : Pos} (hK : X.K = K) (he : PE X e te) : PE X (.Subscript e (.Slice none none (some (.UnaryOp .USub (.Constant (.int 1) k p1) p2)) p3) pos) (tRevL K te) := by subst hK; exact pe_revL he
theorem pi_zipAK {e e2 : Expr} {ta : TA} {p pos tpos : Pos} {elts : List Expr} {kk : Nat} (hK : X.K = K) (hg : Gl X "zip") (hm : X.mg "zip" = none) (ha : PA X [e, e2] ta)
    (hs : starEach [e, e2] X.env = (false, eval e X.env) :: starEach [e2] X.env := by rfl) (hpl : (backTo pos (starEach [e2] X.env)).any (·.1) = false := by rfl) :
    PI X (.Tuple elts kk tpos) (.Call (.Name "zip" p) [e, e2] [] pos) (RZ.iZipA K ta) := by subst hK; exact RZ.pi_zipA hg hm ha hs hpl
end
/-- what can't be asked -/
theorem fn0 {P : Program} {w : World} {K : PySem.W.Frag} {mg : Str → Option Value} {base : Heap} {k : Nat} {f : Addr} {fd : FuncData} {ps : List Str} {sp : Sp} (no : ∀ vs H Q E, ¬ sp vs H Q E) : FnOk P w K mg base CX0 k f fd ps sp :=
  ⟨fun vs H Q E h => absurd h (no vs H Q E), fun A outer s H args us vs Q E _ _ _ _ h => absurd h (no vs H Q E)⟩
/-- a promise for each i is a promise of some i -/
theorem fn_ex {ι : Type} {P : Program} {w : World} {K : PySem.W.Frag} {mg : Str → Option Value} {base : Heap} {CX : CXT} {k : ι → Nat} {m : Nat} {f : Addr} {fd : FuncData} {ps : List Str} {sp : ι → Sp} (h : ∀ i, FnOk P w K mg base CX (k i) f fd ps (sp i)) (le : ∀ i, k i ≤ m) :
    FnOk P w K mg base CX m f fd ps (fun vs H Q E => ∃ i, sp i vs H Q E) :=
  ⟨fun vs H Q E ⟨i, x⟩ => (h i).len vs H Q E x, fun A outer s H args us vs Q E hr h1 h2 h3 ⟨i, x⟩ => (h i).run A outer s H args us vs Q E (hr.mono (le i)) h1 h2 h3 x⟩
/-! ### comprehensions without a test -/
theorem lc_rangeY {lo : Int} {n : Nat} {g : TG} {te : TE} {vs : List Nat} {σ : L2.St} {H1 : Hp} {D : Addr} {Qd : Hp → Prop} (Pv : Nat → Hp → Prop) (h0 : Pv 0 (upd H1 D (.lst [])))
    (hs : ∀ i H, i < n → Pv i H → g (.int (lo + i)) (wipe σ vs) H fun σ2 H2 => wipe σ2 vs = wipe σ vs ∧ te σ2 H2 fun y H4 => ∃ acc, H4 D = some (.lst acc) ∧ acc.length < sizeLine ∧ Pv (i + 1) (upd H4 D (.lst (acc ++ [y])))) (hd : ∀ H, Pv n H → Qd H) :
    ∃ W : Nat → Nat → Hp → Prop, (∃ m, W 0 m (upd H1 D (.lst []))) ∧ ∀ i m H, W i m H →
      ((Itr lo n).stop i H ∧ Qd H) ∨ ((Itr lo n).go i H ∧ ∃ Nx : Hp → Prop, (∀ H', Nx H' → ∃ m', m' < m ∧ W (i + 1) m' H') ∧ ∀ x H', (Itr lo n).yld i H x H' → g x (wipe σ vs) H' fun σ2 H2 => wipe σ2 vs = wipe σ vs ∧ tYes σ2 H2 fun b H3 =>
        if b = true then te σ2 H3 fun y H4 => ∃ acc, H4 D = some (.lst acc) ∧ acc.length < sizeLine ∧ Nx (upd H4 D (.lst (acc ++ [y]))) else Nx H3) := lc_range (tt := tYes) Pv h0 hs hd
theorem lc_listY {K : PySem.W.Frag} {a : Addr} {xs : List V} {g : TG} {te : TE} {vs : List Nat} {σ : L2.St} {H1 : Hp} {D : Addr} {Qd : Hp → Prop} (Pv : Nat → Hp → Prop) (h0 : Pv 0 (upd H1 D (.lst []))) (hl : ∀ i H, i ≤ xs.length → Pv i H → SqL K H a xs)
    (hs : ∀ i x H, xs[i]? = some x → Pv i H → g x (wipe σ vs) H fun σ2 H2 => wipe σ2 vs = wipe σ vs ∧ te σ2 H2 fun y H4 => ∃ acc, H4 D = some (.lst acc) ∧ acc.length < sizeLine ∧ Pv (i + 1) (upd H4 D (.lst (acc ++ [y])))) (hd : ∀ H, Pv xs.length H → Qd H) :
    ∃ W : Nat → Nat → Hp → Prop, (∃ m, W 0 m (upd H1 D (.lst []))) ∧ ∀ i m H, W i m H →
      ((Itl K a).stop i H ∧ Qd H) ∨ ((Itl K a).go i H ∧ ∃ Nx : Hp → Prop, (∀ H', Nx H' → ∃ m', m' < m ∧ W (i + 1) m' H') ∧ ∀ x H', (Itl K a).yld i H x H' → g x (wipe σ vs) H' fun σ2 H2 => wipe σ2 vs = wipe σ vs ∧ tYes σ2 H2 fun b H3 =>
        if b = true then te σ2 H3 fun y H4 => ∃ acc, H4 D = some (.lst acc) ∧ acc.length < sizeLine ∧ Nx (upd H4 D (.lst (acc ++ [y]))) else Nx H3) := lc_list (tt := tYes) Pv h0 hl hs hd
theorem lc_tupY {K : PySem.W.Frag} {a : Addr} {xs : List V} {g : TG} {te : TE} {vs : List Nat} {σ : L2.St} {H1 : Hp} {D : Addr} {Qd : Hp → Prop} (Pv : Nat → Hp → Prop) (h0 : Pv 0 (upd H1 D (.lst []))) (hl : ∀ i H, i ≤ xs.length → Pv i H → SqT K H a xs)
    (hs : ∀ i x H, xs[i]? = some x → Pv i H → g x (wipe σ vs) H fun σ2 H2 => wipe σ2 vs = wipe σ vs ∧ te σ2 H2 fun y H4 => ∃ acc, H4 D = some (.lst acc) ∧ acc.length < sizeLine ∧ Pv (i + 1) (upd H4 D (.lst (acc ++ [y])))) (hd : ∀ H, Pv xs.length H → Qd H) :
    ∃ W : Nat → Nat → Hp → Prop, (∃ m, W 0 m (upd H1 D (.lst []))) ∧ ∀ i m H, W i m H →
      ((Itt K a).stop i H ∧ Qd H) ∨ ((Itt K a).go i H ∧ ∃ Nx : Hp → Prop, (∀ H', Nx H' → ∃ m', m' < m ∧ W (i + 1) m' H') ∧ ∀ x H', (Itt K a).yld i H x H' → g x (wipe σ vs) H' fun σ2 H2 => wipe σ2 vs = wipe σ vs ∧ tYes σ2 H2 fun b H3 =>
        if b = true then te σ2 H3 fun y H4 => ∃ acc, H4 D = some (.lst acc) ∧ acc.length < sizeLine ∧ Nx (upd H4 D (.lst (acc ++ [y]))) else Nx H3) := lc_tup (tt := tYes) Pv h0 hl hs hd
def rTupS (K : PySem.W.Frag) : List V → Hp → VK → Prop := fun xs H Q => ∃ p ys, xs = [.ref p] ∧ ((SqL K H p ys ∧ ∀ l, H l = none → Q (.ref l) (upd H l (.tup ys))) ∨ (SqT K H p ys ∧ Q (.ref p) H))
def rInKd (K : PySem.W.Frag) (d : Addr) (neg : Bool) : V → V → Hp → VK → Prop := fun x y H Q => ∃ (z : Str) (r : Option Value), x = .str z ∧ y = .ref d ∧ PySem.W.nsIn K d z = some r ∧ Q (.bl (if neg then !r.isSome else r.isSome)) H
theorem sm (n : Nat) (h : n ≤ 1000 := by omega) : n < sizeLine := Nat.lt_of_le_of_lt h (by decide)
theorem sml (n : Nat) (h : n ≤ 1000 := by omega) : n ≤ sizeLine := Nat.le_of_lt (sm n h)
theorem dpInts {K : PySem.W.Frag} {H : Hp} : ∀ ns : List Int, DpAll K H (ns.map V.int) (ns.map PyData.int)
  | [] => .nil
  | n :: ns => .cons (.int n) (dpInts ns)
theorem intsDepth : ∀ ns : List Int, PyData.depthAll (ns.map PyData.int) = 0
  | [] => by simp [PyData.depthAll]
  | n :: ns => by simp [PyData.depthAll, PyData.depth, intsDepth ns]
theorem intsLay : ∀ ns : List Int, PyData.canLayAll0 (ns.map PyData.int) = true
  | [] => by simp [PyData.canLayAll0]
  | n :: ns => by simp [PyData.canLayAll0, PyData.canLay0, intsLay ns]
theorem intsShaped (ns : List Int) : SeqAt.shaped (.list (ns.map PyData.int)) = true := by
  show (PyData.canLay0 (.list (ns.map PyData.int)) && decide (PyData.depth (.list (ns.map PyData.int)) ≤ 64)) = true
  rw [Bool.and_eq_true]
  refine ⟨by simp only [PyData.canLay0]; exact intsLay ns, decide_eq_true ?_⟩
  simp only [PyData.depth]
  rw [intsDepth]
  omega
theorem eqvNil (ns : List Int) : PyData.eqv (.list (ns.map PyData.int)) (.list []) = ns.isEmpty := by
  cases ns with
  | nil => simp [PyData.eqv, PyData.eqvAll]
  | cons n ns => simp [PyData.eqv, PyData.eqvAll]
theorem k_tuple_tuple {K : PySem.W.Frag} : PySem.W.kitOne K (.type "tuple") (.type "tuple") = some true := kit_ty (by decide +kernel)
theorem k_tuple_int {K : PySem.W.Frag} : PySem.W.kitOne K (.type "tuple") (.type "int") = some false := kit_ty (by decide +kernel)
theorem k_tuple_str {K : PySem.W.Frag} : PySem.W.kitOne K (.type "tuple") (.type "str") = some false := kit_ty (by decide +kernel)
theorem k_tuple_bool {K : PySem.W.Frag} : PySem.W.kitOne K (.type "tuple") (.type "bool") = some false := kit_ty (by decide +kernel)
theorem k_tuple_list {K : PySem.W.Frag} : PySem.W.kitOne K (.type "tuple") (.type "list") = some false := kit_ty (by decide +kernel)
theorem k_int_tuple {K : PySem.W.Frag} : PySem.W.kitOne K (.type "int") (.type "tuple") = some false := kit_ty (by decide +kernel)
theorem k_int_int {K : PySem.W.Frag} : PySem.W.kitOne K (.type "int") (.type "int") = some true := kit_ty (by decide +kernel)
theorem k_int_str {K : PySem.W.Frag} : PySem.W.kitOne K (.type "int") (.type "str") = some false := kit_ty (by decide +kernel)
theorem k_int_bool {K : PySem.W.Frag} : PySem.W.kitOne K (.type "int") (.type "bool") = some false := kit_ty (by decide +kernel)
theorem k_int_list {K : PySem.W.Frag} : PySem.W.kitOne K (.type "int") (.type "list") = some false := kit_ty (by decide +kernel)
theorem k_str_tuple {K : PySem.W.Frag} : PySem.W.kitOne K (.type "str") (.type "tuple") = some false := kit_ty (by decide +kernel)
theorem k_str_int {K : PySem.W.Frag} : PySem.W.kitOne K (.type "str") (.type "int") = some false := kit_ty (by decide +kernel)
theorem k_str_str {K : PySem.W.Frag} : PySem.W.kitOne K (.type "str") (.type "str") = some true := kit_ty (by decide +kernel)
theorem k_str_bool {K : PySem.W.Frag} : PySem.W.kitOne K (.type "str") (.type "bool") = some false := kit_ty (by decide +kernel)
theorem k_str_list {K : PySem.W.Frag} : PySem.W.kitOne K (.type "str") (.type "list") = some false := kit_ty (by decide +kernel)
theorem k_bool_tuple {K : PySem.W.Frag} : PySem.W.kitOne K (.type "bool") (.type "tuple") = some false := kit_ty (by decide +kernel)
theorem k_bool_int {K : PySem.W.Frag} : PySem.W.kitOne K (.type "bool") (.type "int") = some true := kit_ty (by decide +kernel)
theorem k_bool_str {K : PySem.W.Frag} : PySem.W.kitOne K (.type "bool") (.type "str") = some false := kit_ty (by decide +kernel)
theorem k_bool_bool {K : PySem.W.Frag} : PySem.W.kitOne K (.type "bool") (.type "bool") = some true := kit_ty (by decide +kernel)
theorem k_bool_list {K : PySem.W.Frag} : PySem.W.kitOne K (.type "bool") (.type "list") = some false := kit_ty (by decide +kernel)
theorem k_list_tuple {K : PySem.W.Frag} : PySem.W.kitOne K (.type "list") (.type "tuple") = some false := kit_ty (by decide +kernel)
theorem k_list_int {K : PySem.W.Frag} : PySem.W.kitOne K (.type "list") (.type "int") = some false := kit_ty (by decide +kernel)
theorem k_list_str {K : PySem.W.Frag} : PySem.W.kitOne K (.type "list") (.type "str") = some false := kit_ty (by decide +kernel)
theorem k_list_bool {K : PySem.W.Frag} : PySem.W.kitOne K (.type "list") (.type "bool") = some false := kit_ty (by decide +kernel)
theorem k_list_list {K : PySem.W.Frag} : PySem.W.kitOne K (.type "list") (.type "list") = some true := kit_ty (by decide +kernel)
theorem k_NoneType_tuple {K : PySem.W.Frag} : PySem.W.kitOne K (.type "NoneType") (.type "tuple") = some false := kit_ty (by decide +kernel)
theorem k_NoneType_int {K : PySem.W.Frag} : PySem.W.kitOne K (.type "NoneType") (.type "int") = some false := kit_ty (by decide +kernel)
theorem k_NoneType_str {K : PySem.W.Frag} : PySem.W.kitOne K (.type "NoneType") (.type "str") = some false := kit_ty (by decide +kernel)
theorem k_NoneType_bool {K : PySem.W.Frag} : PySem.W.kitOne K (.type "NoneType") (.type "bool") = some false := kit_ty (by decide +kernel)
theorem k_NoneType_list {K : PySem.W.Frag} : PySem.W.kitOne K (.type "NoneType") (.type "list") = some false := kit_ty (by decide +kernel)
end Ov
/-! ### bodies as data -/
namespace Ov
open PySem PySem.Spec PyProof.Rows L2
inductive Op where
  | num | arg | way | plus | less | times | ife | thn | say | call | through
  deriving DecidableEq
def Op.name : Op → Str
  | .num => "num" | .arg => "argument" | .way => "way" | .plus => "plus" | .less => "less" | .times => "times" | .ife => "if" | .thn => "then" | .say => "say" | .call => "call" | .through => "through"
def Op.arity : Op → Nat
  | .num => 0 | .arg => 0 | .way => 0 | .plus => 2 | .less => 2 | .times => 2 | .ife => 3 | .thn => 2 | .say => 1 | .call => 1 | .through => 2
def Op.gives : Op → Bool
  | .num => true | .way => true | .call => true | _ => false
def Op.pre (o : Op) (g : Int) : List V := if o.gives then [.int g] else []
def Op.fits (n : Nat) : Op → Int → Prop
  | .num, g => 0 ≤ g ∧ g ≤ 99
  | .way, g => 0 ≤ g ∧ g < n
  | .call, g => 0 ≤ g ∧ g < n
  | _, _ => True
/-- a word and what is within it -/
inductive W where
  | mk (o : Op) (g : Int) (as : List W)
def W.op : W → Op
  | .mk o _ _ => o
def W.g : W → Int
  | .mk _ g _ => g
def W.as : W → List W
  | .mk _ _ as => as
mutual
def W.size : W → Nat
  | .mk _ _ as => 1 + W.sizes as
def W.sizes : List W → Nat
  | [] => 0
  | w :: ws => w.size + W.sizes ws
end
/-- words of n functions, at most d within one another -/
inductive WOk (n : Nat) : Nat → W → Prop
  | mk {d : Nat} {o : Op} {g : Int} {as : List W} : as.length = o.arity → o.fits n g → (∀ a ∈ as, WOk n d a) → WOk n (d + 1) (.mk o g as)
theorem WOk.mono {n d e : Nat} {w : W} (h : WOk n d w) : d ≤ e → WOk n e w := by
  induction h generalizing e with
  | @mk d o g as h1 h2 _ ih =>
    intro le
    obtain ⟨f, rfl⟩ : ∃ f, e = f + 1 := ⟨e - 1, by omega⟩
    exact .mk h1 h2 fun a ha => ih a ha (by omega)
mutual
/-- the word w stands at v -/
inductive WAt (H : Hp) : V → W → Prop
  | mk {a : Addr} {o : Op} {g : Int} {vs : List V} {as : List W} : H a = some (.tup (.str o.name :: (o.pre g ++ vs))) → WsAt H vs as → WAt H (.ref a) (.mk o g as)
inductive WsAt (H : Hp) : List V → List W → Prop
  | nil : WsAt H [] []
  | cons {v : V} {vs : List V} {w : W} {ws : List W} : WAt H v w → WsAt H vs ws → WsAt H (v :: vs) (w :: ws)
end
/-- tuples stay -/
def Keep (H H' : Hp) : Prop := ∀ a xs, H a = some (.tup xs) → H' a = some (.tup xs)
theorem Keep.refl (H : Hp) : Keep H H := fun _ _ e => e
theorem Keep.trans {H H1 H2 : Hp} (a : Keep H H1) (b : Keep H1 H2) : Keep H H2 := fun x o e => b x o (a x o e)
theorem Keep.same {H H' : Hp} (e : Same H H') : Keep H H' := fun a xs h => e a _ h
theorem Keep.but {h c : Addr} {H H' : Hp} (b : But h c H H') (d : Dr H h c) : Keep H H' := fun _ _ e => b.tup d e
theorem Keep.updL {H : Hp} {a : Addr} {xs ys : List V} (e : H a = some (.lst xs)) : Keep H (upd H a (.lst ys)) := fun b zs h => by
  rw [upd_ne (ne_of h e (by intro z; cases z))]
  exact h
mutual
theorem WAt.keep {H H' : Hp} (k : Keep H H') : ∀ {v : V} {w : W}, WAt H v w → WAt H' v w
  | _, _, .mk h r => .mk (k _ _ h) (WsAt.keep k r)
theorem WsAt.keep {H H' : Hp} (k : Keep H H') : ∀ {vs : List V} {ws : List W}, WsAt H vs ws → WsAt H' vs ws
  | _, _, .nil => .nil
  | _, _, .cons h r => .cons (h.keep k) (WsAt.keep k r)
end
theorem WsAt.length {H : Hp} : ∀ {vs : List V} {ws : List W}, WsAt H vs ws → vs.length = ws.length
  | _, _, .nil => rfl
  | _, _, .cons _ r => congrArg Nat.succ (WsAt.length r)
theorem WsAt.get {H : Hp} : ∀ {vs : List V} {ws : List W} {i : Nat} {v : V}, WsAt H vs ws → vs[i]? = some v → ∃ w, ws[i]? = some w ∧ WAt H v w
  | _, _, _, _, .nil, e => by simp at e
  | _, _, 0, _, .cons h r, e => by
    have e2 := Option.some.inj e
    subst e2
    exact ⟨_, rfl, h⟩
  | _, _, i + 1, v, .cons _ r, e => WsAt.get (i := i) (v := v) r e
theorem WAt.ref {H : Hp} {v : V} {w : W} (h : WAt H v w) : ∃ b xs, v = .ref b ∧ H b = some (.tup xs) := by
  cases h with
  | mk h _ => exact ⟨_, _, rfl, h⟩
theorem W.size_mk (o : Op) (g : Int) (as : List W) : (W.mk o g as).size = 1 + W.sizes as := by rw [W.size]
theorem W.sizes_sum : ∀ ws : List W, ((W.sizes ws : Nat) : Int) = (ws.map fun z => (z.size : Int)).sum
  | [] => by unfold W.sizes; rfl
  | w :: ws => by
    have ih := W.sizes_sum ws
    unfold W.sizes
    rw [List.map_cons, List.sum_cons]
    omega
/-- a word of n functions, d deep, at v -/
def Wd (H : Hp) (n d : Nat) (v : V) : Prop := ∃ w, WAt H v w ∧ WOk n d w
theorem Wd.keep {H H' : Hp} {n d : Nat} {v : V} (k : Keep H H') (h : Wd H n d v) : Wd H' n d v := by
  obtain ⟨w, h1, h2⟩ := h
  exact ⟨w, h1.keep k, h2⟩
theorem Wd.mono {H : Hp} {n d e : Nat} {v : V} (h : Wd H n d v) (le : d ≤ e) : Wd H n e v := by
  obtain ⟨w, h1, h2⟩ := h
  exact ⟨w, h1, h2.mono le⟩
theorem wd0 {H : Hp} {n d : Nat} {a : Addr} (o : Op) (g : Int) (e : H a = some (.tup (.str o.name :: (o.pre g ++ [])))) (f : o.fits n g) (ha : o.arity = 0 := by rfl) : Wd H n (d + 1) (.ref a) :=
  ⟨.mk o g [], .mk e .nil, .mk ha.symm f (fun _ h => by cases h)⟩
theorem wd1 {H : Hp} {n d : Nat} {a : Addr} {x : V} (o : Op) (g : Int) (e : H a = some (.tup (.str o.name :: (o.pre g ++ [x])))) (f : o.fits n g) (hx : Wd H n d x) (ha : o.arity = 1 := by rfl) : Wd H n (d + 1) (.ref a) := by
  obtain ⟨w, h1, h2⟩ := hx
  exact ⟨.mk o g [w], .mk e (.cons h1 .nil), .mk ha.symm f (fun z h => by
    rcases List.mem_singleton.mp h with rfl
    exact h2)⟩
theorem wd2 {H : Hp} {n d : Nat} {a : Addr} {x y : V} (o : Op) (g : Int) (e : H a = some (.tup (.str o.name :: (o.pre g ++ [x, y])))) (f : o.fits n g) (hx : Wd H n d x) (hy : Wd H n d y) (ha : o.arity = 2 := by rfl) : Wd H n (d + 1) (.ref a) := by
  obtain ⟨w, h1, h2⟩ := hx
  obtain ⟨u, h3, h4⟩ := hy
  exact ⟨.mk o g [w, u], .mk e (.cons h1 (.cons h3 .nil)), .mk ha.symm f (fun z h => by
    simp only [List.mem_cons, List.mem_nil_iff, or_false] at h
    rcases h with rfl | rfl
    · exact h2
    · exact h4)⟩
theorem wd3 {H : Hp} {n d : Nat} {a : Addr} {x y z : V} (o : Op) (g : Int) (e : H a = some (.tup (.str o.name :: (o.pre g ++ [x, y, z])))) (f : o.fits n g) (hx : Wd H n d x) (hy : Wd H n d y) (hz : Wd H n d z) (ha : o.arity = 3 := by rfl) : Wd H n (d + 1) (.ref a) := by
  obtain ⟨w, h1, h2⟩ := hx
  obtain ⟨u, h3, h4⟩ := hy
  obtain ⟨q, h5, h6⟩ := hz
  exact ⟨.mk o g [w, u, q], .mk e (.cons h1 (.cons h3 (.cons h5 .nil))), .mk ha.symm f (fun r h => by
    simp only [List.mem_cons, List.mem_nil_iff, or_false] at h
    rcases h with rfl | rfl | rfl
    · exact h2
    · exact h4
    · exact h6)⟩
/-! ### what a body is drawn by -/
def KindS (k : Str) : Prop := k = "number" ∨ k = "way"
structure EnvAt (H : Hp) (h c e : Addr) (n : Nat) (came : Str) (pl kl : Addr) (ps : List Int) (ks : List Str) : Prop where
  e : H e = some (.dK [(.inr "came", .str came), (.inr "plain", .ref pl), (.inr "kinds", .ref kl)])
  ck : KindS came
  p : H pl = some (.lst (ps.map V.int))
  p0 : ps ≠ []
  p8 : ps.length ≤ 8
  pn : ∀ x ∈ ps, 0 ≤ x ∧ x < n
  k : H kl = some (.lst (ks.map V.str))
  kn : ks.length = n
  n1 : 1 ≤ n
  n8 : n ≤ 8
  kk : ∀ x ∈ ks, KindS x
  ph : pl ≠ h
  pc : pl ≠ c
  kh : kl ≠ h
  kc : kl ≠ c
theorem EnvAt.but {H H' : Hp} {h c e : Addr} {n : Nat} {came : Str} {pl kl : Addr} {ps : List Int} {ks : List Str} (x : EnvAt H h c e n came pl kl ps ks) (d : Dr H h c) (b : But h c H H') : EnvAt H' h c e n came pl kl ps ks := by
  obtain ⟨m, k, ns, h1, h2, _⟩ := d
  exact { x with
    e := b _ _ (ne_of x.e h1 (by intro z; cases z)) (ne_of x.e h2 (by intro z; cases z)) x.e
    p := b _ _ x.ph x.pc x.p
    k := b _ _ x.kh x.kc x.k }
theorem EnvAt.same {H H' : Hp} {h c e : Addr} {n : Nat} {came : Str} {pl kl : Addr} {ps : List Int} {ks : List Str} (x : EnvAt H h c e n came pl kl ps ks) (b : Same H H') : EnvAt H' h c e n came pl kl ps ks :=
  { x with
    e := b _ _ x.e
    p := b _ _ x.p
    k := b _ _ x.k }
theorem kind_at {ks : List Str} (hk : ∀ x ∈ ks, KindS x) {r : Int} (h0 : 0 ≤ r) (h1 : r < ks.length) : ∃ k, KindS k ∧ atI (ks.map V.str) r = some (.str k) := by
  obtain ⟨j, rfl⟩ : ∃ j : Nat, r = (j : Int) := ⟨r.toNat, by omega⟩
  have hl : j < ks.length := by omega
  refine ⟨ks[j], hk _ (List.getElem_mem hl), ?_⟩
  exact atI_nat (by rw [List.getElem?_map, List.getElem?_eq_getElem hl]; rfl)
theorem int_at {ps : List Int} {P : Int → Prop} (hk : ∀ x ∈ ps, P x) {r : Int} (h0 : 0 ≤ r) (h1 : r < ps.length) : ∃ k, P k ∧ atI (ps.map V.int) r = some (.int k) := by
  obtain ⟨j, rfl⟩ : ∃ j : Nat, r = (j : Int) := ⟨r.toNat, by omega⟩
  have hl : j < ps.length := by omega
  refine ⟨ps[j], hk _ (List.getElem_mem hl), ?_⟩
  exact atI_nat (by rw [List.getElem?_map, List.getElem?_eq_getElem hl]; rfl)
theorem val_at {vs : List V} {P : V → Prop} (hk : ∀ x ∈ vs, P x) {r : Int} (h0 : 0 ≤ r) (h1 : r < vs.length) : ∃ k, P k ∧ atI vs r = some k := by
  obtain ⟨j, rfl⟩ : ∃ j : Nat, r = (j : Int) := ⟨r.toNat, by omega⟩
  have hl : j < vs.length := by omega
  refine ⟨vs[j], hk _ (List.getElem_mem hl), ?_⟩
  exact atI_nat (List.getElem?_eq_getElem hl)
theorem two_at (x y : V) {r : Int} (h0 : 0 ≤ r) (h1 : r < 2) : atI [x, y] r = some (if r = 0 then x else y) := by
  rcases (by omega : r = 0 ∨ r = 1) with rfl | rfl <;> rfl
/-- the shape of a body's promise: a word of n functions comes, d deep -/
def spWord (n : Nat) (d : Nat) (pre : List V → Hp → Addr → Addr → Prop) : Sp := fun vs H Q _ => ∃ h c, pre vs H h c ∧ Dr H h c ∧
  ∀ v H', But h c H H' → Dr H' h c → Wd H' n d v → Q v H'
def preE (n : Nat) (h c e : Addr) (H : Hp) : Prop := ∃ came pl kl ps ks, EnvAt H h c e n came pl kl ps ks
theorem preE.but {H H' : Hp} {h c e : Addr} {n : Nat} (x : preE n h c e H) (d : Dr H h c) (b : But h c H H') : preE n h c e H' := by
  obtain ⟨came, pl, kl, ps, ks, x⟩ := x
  exact ⟨came, pl, kl, ps, ks, x.but d b⟩
def preLeaf (n : Nat) : List V → Hp → Addr → Addr → Prop := fun vs H h c => ∃ e k, vs = [.ref h, .ref e, .str k] ∧ KindS k ∧ preE n h c e H
def preBody (n m : Nat) : List V → Hp → Addr → Addr → Prop := fun vs H h c => ∃ e k z, vs = [.ref h, .ref e, .str k, .int z] ∧ z = (m : Int) ∧ KindS k ∧ preE n h c e H
def preDeep (n m : Nat) : List V → Hp → Addr → Addr → Prop := fun vs H h c => ∃ e z, vs = [.ref h, .ref e, .int z] ∧ z = (m : Int) ∧ preE n h c e H
theorem kindN : KindS "number" := .inl rfl
theorem kindW : KindS "way" := .inr rfl
theorem two_kinds (r : Int) (h0 : 0 ≤ r) (h1 : r < 2) : ∃ k, KindS k ∧ atI [V.str "number", .str "way"] r = some (.str k) := by
  rcases (by omega : r = 0 ∨ r = 1) with rfl | rfl
  · exact ⟨_, kindN, rfl⟩
  · exact ⟨_, kindW, rfl⟩
theorem three_words (r : Int) (h0 : 0 ≤ r) (h1 : r < 3) : ∃ o : Op, o.arity = 2 ∧ o.gives = false ∧ (∀ n g, o.fits n g) ∧ atI [V.str "plus", .str "less", .str "times"] r = some (.str o.name) := by
  rcases (by omega : r = 0 ∨ r = 1 ∨ r = 2) with rfl | rfl | rfl
  · exact ⟨.plus, rfl, rfl, fun _ _ => trivial, rfl⟩
  · exact ⟨.less, rfl, rfl, fun _ _ => trivial, rfl⟩
  · exact ⟨.times, rfl, rfl, fun _ _ => trivial, rfl⟩
theorem Dr.new {H : Hp} {h c l : Addr} (d : Dr H h c) (hl : H l = none) : l ≠ h ∧ l ≠ c := by
  obtain ⟨m, k, ns, h1, h2, _⟩ := d
  exact ⟨(ne_of_none h1 hl).symm, (ne_of_none h2 hl).symm⟩
theorem wds_keep {H H' : Hp} {n d : Nat} {vs : List V} (k : Keep H H') (h : ∀ v ∈ vs, Wd H n d v) : ∀ v ∈ vs, Wd H' n d v := fun v hv => (h v hv).keep k
theorem wds_app {H : Hp} {n d : Nat} {vs us : List V} (h : ∀ v ∈ vs, Wd H n d v) (h' : ∀ v ∈ us, Wd H n d v) : ∀ v ∈ vs ++ us, Wd H n d v := fun v hv => by
  rcases List.mem_append.mp hv with q | q
  · exact h v q
  · exact h' v q
theorem wds_one {H : Hp} {n d : Nat} {v : V} (h : Wd H n d v) : ∀ u ∈ [v], Wd H n d u := fun u hu => by
  rcases List.mem_singleton.mp hu with rfl
  exact h
end Ov
namespace Ov
open PySem PySem.Spec PyProof.Rows L2
def spWords (d : Nat) : Sp := fun vs H Q _ => ∃ v n u, vs = [v] ∧ WAt H v u ∧ WOk n d u ∧ ∀ H', Same H H' → Q (.int (u.size : Int)) H'
end Ov
/-! ### programs -/
namespace Ov
open PySem PySem.Spec PyProof.Rows L2
/-- the function f stands at v -/
def FAt (H : Hp) (v : V) (f : Int × W) : Prop := ∃ b bv, v = .ref b ∧ H b = some (.tup [.int f.1, bv]) ∧ WAt H bv f.2
def PrAt (H : Hp) (v : V) (p : List (Int × W)) : Prop := ∃ a vs, v = .ref a ∧ H a = some (.tup vs) ∧ Paired (FAt H) vs p
def FOk (n : Nat) (f : Int × W) : Prop := 1 ≤ f.1 ∧ f.1 ≤ 8 ∧ WOk n 7 f.2 ∧ f.2.size ≤ 40
structure PrOk (p : List (Int × W)) : Prop where
  l1 : 1 ≤ p.length
  l8 : p.length ≤ 8
  f : ∀ f ∈ p, FOk p.length f
theorem FAt.keep {H H' : Hp} {v : V} {f : Int × W} (k : Keep H H') (h : FAt H v f) : FAt H' v f := by
  obtain ⟨b, bv, e, h1, h2⟩ := h
  exact ⟨b, bv, e, k _ _ h1, h2.keep k⟩
theorem PrAt.keep {H H' : Hp} {v : V} {p : List (Int × W)} (k : Keep H H') (h : PrAt H v p) : PrAt H' v p := by
  obtain ⟨a, vs, e, h1, h2⟩ := h
  exact ⟨a, vs, e, k _ _ h1, L2.Paired.mapP h2 fun _ _ z => z.keep k⟩
theorem wok0 {n : Nat} {w : W} : ¬ WOk n 0 w := fun h => nomatch h
theorem wok1_size {n : Nat} {w : W} (h : WOk n 1 w) : w.size = 1 := by
  cases h with
  | @mk d o g as h1 h2 h3 =>
    cases as with
    | nil => rw [W.size_mk]; rfl
    | cons a r => exact absurd (h3 a List.mem_cons_self) wok0
theorem three_kinds (r : Int) (h0 : 0 ≤ r) (h1 : r < 3) : ∃ k, KindS k ∧ atI [V.str "number", .str "number", .str "way"] r = some (.str k) := by
  rcases (by omega : r = 0 ∨ r = 1 ∨ r = 2) with rfl | rfl | rfl
  · exact ⟨_, kindN, rfl⟩
  · exact ⟨_, kindN, rfl⟩
  · exact ⟨_, kindW, rfl⟩
theorem four_kinds (r : Int) (h0 : 0 ≤ r) (h1 : r < 4) : ∃ k, KindS k ∧ atI [V.str "number", .str "number", .str "number", .str "way"] r = some (.str k) := by
  rcases (by omega : r = 0 ∨ r = 1 ∨ r = 2 ∨ r = 3) with rfl | rfl | rfl | rfl
  · exact ⟨_, kindN, rfl⟩
  · exact ⟨_, kindN, rfl⟩
  · exact ⟨_, kindN, rfl⟩
  · exact ⟨_, kindW, rfl⟩
theorem two_sizes (r : Int) (h0 : 0 ≤ r) (h1 : r < 2) : ∃ z : Int, 1 ≤ z ∧ z ≤ 8 ∧ atI [V.int 2, .int 8] r = some (.int z) := by
  rcases (by omega : r = 0 ∨ r = 1) with rfl | rfl
  · exact ⟨2, by decide, by decide, rfl⟩
  · exact ⟨8, by decide, by decide, rfl⟩
/-- a program is drawn -/
def spProgram : Sp := fun vs H Q _ => ∃ h c m, vs = [.ref h, .int m] ∧ Dr H h c ∧ 1 ≤ m ∧ m ≤ 8 ∧ ∀ v H' p, But h c H H' → Dr H' h c → PrAt H' v p → PrOk p → Q v H'
/-- the bodies' promises, for any number of functions and any depth up to 4 -/
def spBodies : Sp := fun vs H Q E => ∃ i : Nat × _root_.Fin 5, spWord i.1 (i.2.val + 2) (preBody i.1 i.2.val) vs H Q E
def spLeaves : Sp := fun vs H Q E => ∃ n : Nat, spWord n 1 (preLeaf n) vs H Q E
end Ov
/-! ### trees as data -/
namespace Ov
open PySem PySem.Spec PyProof.Rows L2
theorem flat_set {α : Type} (x : α) : ∀ (ps : List (List α)) (k : Nat) (p : List α), ps[k]? = some p → (ps.set k (p ++ [x])).flatten.Perm (ps.flatten ++ [x])
  | [], k, p, h => by simp at h
  | q :: r, 0, p, h => by
    have e : q = p := Option.some.inj h
    subst e
    show ((q ++ [x]) ++ r.flatten).Perm ((q ++ r.flatten) ++ [x])
    rw [List.append_assoc, List.append_assoc]
    exact List.Perm.append_left q List.perm_append_comm
  | q :: r, k + 1, p, h => by
    show (q ++ (r.set k (p ++ [x])).flatten).Perm ((q ++ r.flatten) ++ [x])
    rw [List.append_assoc]
    exact List.Perm.append_left q (flat_set x r k p h)
theorem erase_perm {α : Type} : ∀ (l : List α) (k : Nat) (x : α), l[k]? = some x → (x :: l.eraseIdx k).Perm l
  | [], k, x, h => by simp at h
  | a :: r, 0, x, h => by
    have e : a = x := Option.some.inj h
    subst e
    exact List.Perm.refl _
  | a :: r, k + 1, x, h => by
    have ih := erase_perm r k x h
    show (x :: a :: r.eraseIdx k).Perm (a :: r)
    exact (List.Perm.swap a x _).trans (ih.cons a)
def nV (p : List Nat) : List V := p.map fun (x : Nat) => V.int (x : Int)
theorem nV_len (p : List Nat) : (nV p).length = p.length := List.length_map _
theorem nV_get {p : List Nat} {k x : Nat} (h : p[k]? = some x) : (nV p)[k]? = some (.int (x : Int)) := by unfold nV; rw [List.getElem?_map, h]; rfl
theorem nV_app (p : List Nat) (x : Nat) : nV (p ++ [x]) = nV p ++ [.int (x : Int)] := List.map_append
theorem nV_erase : ∀ (p : List Nat) (k : Nat), (nV p).eraseIdx k = nV (p.eraseIdx k)
  | [], _ => rfl
  | _ :: _, 0 => rfl
  | a :: r, k + 1 => congrArg (V.int (a : Int) :: ·) (nV_erase r k)
theorem rgV_nV (n : Nat) : rgV 0 (n : Int) = nV (List.range n) := by
  unfold rgV nV
  rw [show ((n : Int) - 0).toNat = n by omega]
  refine List.map_congr_left fun i _ => ?_
  rw [Int.zero_add]
/-- what parts of i functions are -/
structure PInv (i : Nat) (ps : List (List Nat)) : Prop where
  ne : ∀ p ∈ ps, p ≠ []
  rise : ∀ p ∈ ps, p.Pairwise (· < ·)
  firsts : (ps.map (·.headD 0)).Pairwise (· < ·)
  perm : ps.flatten.Perm (List.range i)
theorem PInv.lt {i : Nat} {ps : List (List Nat)} (h : PInv i ps) {p : List Nat} (hp : p ∈ ps) {x : Nat} (hx : x ∈ p) : x < i :=
  List.mem_range.mp (h.perm.mem_iff.mp (List.mem_flatten.mpr ⟨p, hp, hx⟩))
theorem PInv.head {i : Nat} {ps : List (List Nat)} (h : PInv i ps) {p : List Nat} (hp : p ∈ ps) : p.headD 0 < i := by
  have ne := h.ne p hp
  cases p with
  | nil => exact absurd rfl ne
  | cons a r => exact h.lt hp List.mem_cons_self
theorem PInv.app {i : Nat} {ps : List (List Nat)} (h : PInv i ps) : PInv (i + 1) (ps ++ [[i]]) where
  ne := fun p hp => by
    rcases List.mem_append.mp hp with z | z
    · exact h.ne p z
    · rw [List.mem_singleton.mp z]; exact List.cons_ne_nil _ _
  rise := fun p hp => by
    rcases List.mem_append.mp hp with z | z
    · exact h.rise p z
    · rw [List.mem_singleton.mp z]; exact List.pairwise_singleton _ _
  firsts := by
    rw [List.map_append, List.pairwise_append]
    refine ⟨h.firsts, List.pairwise_singleton _ _, fun a ha b hb => ?_⟩
    obtain ⟨p, hp, rfl⟩ := List.mem_map.mp ha
    have e : b = i := by simpa using hb
    rw [e]
    exact h.head hp
  perm := by
    rw [List.flatten_append, List.range_succ]
    exact List.Perm.append_right _ h.perm
theorem mem_set_cases {α : Type} {l : List α} {k : Nat} {x y : α} (h : y ∈ l.set k x) : y ∈ l ∨ y = x := List.mem_or_eq_of_mem_set h
theorem PInv.set {i k : Nat} {ps : List (List Nat)} {p : List Nat} (h : PInv i ps) (hk : ps[k]? = some p) : PInv (i + 1) (ps.set k (p ++ [i])) where
  ne := fun q hq => by
    rcases mem_set_cases hq with z | z
    · exact h.ne q z
    · rw [z]; simp
  rise := fun q hq => by
    rcases mem_set_cases hq with z | z
    · exact h.rise q z
    · rw [z, List.pairwise_append]
      refine ⟨h.rise p (List.mem_of_getElem? hk), List.pairwise_singleton _ _, fun a ha b hb => ?_⟩
      rw [List.mem_singleton.mp hb]
      exact h.lt (List.mem_of_getElem? hk) ha
  firsts := by
    have e : (ps.set k (p ++ [i])).map (·.headD 0) = ps.map (·.headD 0) := by
      rw [List.map_set]
      have ne := h.ne p (List.mem_of_getElem? hk)
      have e2 : (p ++ [i]).headD 0 = p.headD 0 := by
        cases p with
        | nil => exact absurd rfl ne
        | cons a r => rfl
      rw [e2]
      refine List.ext_getElem? fun j => ?_
      rw [List.getElem?_set]
      split
      · rename_i z
        subst z
        rw [List.getElem?_map, hk]
        split
        · rfl
        · rename_i y
          have := (List.getElem?_eq_some_iff.mp hk).1
          rw [List.length_map] at y
          exact absurd this y
      · rfl
    rw [e]
    exact h.firsts
  perm := by
    rw [List.range_succ]
    exact (flat_set i ps k p hk).trans (List.Perm.append_right _ h.perm)
/-- on what parts stand, by their order -/
def SInv (od : List Nat) (st : List Int) : Prop := ∀ (t x : Nat), od[t]? = some x → st[x]? = some (-1) ∨ ∃ (j y : Nat), j < t ∧ od[j]? = some y ∧ st[x]? = some ((y : Nat) : Int)
theorem SInv.set {od : List Nat} {st : List Int} {k x : Nat} {z : Int} (h : SInv od st) (nd : od.Nodup) (hk : od[k]? = some x) (hx : x < st.length) (hz : z = -1 ∨ ∃ (j y : Nat), j < k ∧ od[j]? = some y ∧ z = ((y : Nat) : Int)) : SInv od (st.set x z) := fun t y hy => by
  by_cases e : x = y
  · subst e
    have et : t = k := by
      obtain ⟨h1, e1⟩ := List.getElem?_eq_some_iff.mp hy
      obtain ⟨h2, e2⟩ := List.getElem?_eq_some_iff.mp hk
      exact (List.getElem_inj nd).mp (e1.trans e2.symm)
    subst et
    rw [List.getElem?_set_self hx]
    rcases hz with rfl | ⟨j, y, h1, h2, rfl⟩
    · exact .inl rfl
    · exact .inr ⟨j, y, h1, h2, rfl⟩
  · rw [List.getElem?_set_ne e]
    exact h t y hy
/-- a tree of n functions: parts, on what they stand -/
structure TrOk (n : Nat) (ps : List (List Nat)) (st : List Int) : Prop where
  p : PInv n ps
  len : st.length = ps.length
  ord : ∃ od : List Nat, od.Perm (List.range ps.length) ∧ SInv od st
def PartAt (H : Hp) (v : V) (p : List Nat) : Prop := ∃ b, v = .ref b ∧ H b = some (.tup (nV p))
def TrAt (H : Hp) (v : V) (ps : List (List Nat)) (st : List Int) : Prop := ∃ a pa sa vs, v = .ref a ∧ H a = some (.tup [.ref pa, .ref sa]) ∧ H pa = some (.tup vs) ∧ Paired (PartAt H) vs ps ∧ H sa = some (.tup (st.map V.int))
theorem PartAt.keep {H H' : Hp} {v : V} {p : List Nat} (k : Keep H H') (h : PartAt H v p) : PartAt H' v p := by
  obtain ⟨b, e, h⟩ := h
  exact ⟨b, e, k _ _ h⟩
theorem TrAt.keep {H H' : Hp} {v : V} {ps : List (List Nat)} {st : List Int} (k : Keep H H') (h : TrAt H v ps st) : TrAt H' v ps st := by
  obtain ⟨a, pa, sa, vs, e, h1, h2, h3, h4⟩ := h
  exact ⟨a, pa, sa, vs, e, k _ _ h1, k _ _ h2, L2.Paired.mapP h3 fun _ _ z => z.keep k, k _ _ h4⟩
/-- lists that grow: each its own -/
def LsAt (H : Hp) (bs : List Addr) (qs : List (List Nat)) : Prop := Paired (fun b q => H b = some (.lst (nV q))) bs qs
theorem LsAt.keep {H H' : Hp} : ∀ {bs : List Addr} {qs : List (List Nat)}, (∀ b ∈ bs, ∀ o, H b = some o → H' b = some o) → LsAt H bs qs → LsAt H' bs qs
  | _, _, _, .nil => .nil
  | _, _, k, .cons h r => .cons (k _ List.mem_cons_self _ h) (LsAt.keep (fun b hb => k b (List.mem_cons_of_mem _ hb)) r)
theorem LsAt.get {H : Hp} : ∀ {bs : List Addr} {qs : List (List Nat)} {k : Nat} {q : List Nat}, LsAt H bs qs → qs[k]? = some q → ∃ b, bs[k]? = some b ∧ H b = some (.lst (nV q))
  | _, _, _, _, .nil, e => by simp at e
  | _, _, 0, q, .cons h r, e => by
    have e2 := Option.some.inj e
    subst e2
    exact ⟨_, rfl, h⟩
  | _, _, k + 1, q, .cons _ r, e => LsAt.get (k := k) (q := q) r e
theorem LsAt.set {H : Hp} : ∀ {bs : List Addr} {qs : List (List Nat)} {k : Nat} {b : Addr} {q' : List Nat}, LsAt H bs qs → bs.Nodup → bs[k]? = some b → LsAt (upd H b (.lst (nV q'))) bs (qs.set k q')
  | _, _, _, _, _, .nil, _, e => by simp at e
  | a :: bs, _ :: qs, 0, b, q', .cons h r, nd, e => by
    have e2 : a = b := Option.some.inj e
    subst e2
    refine .cons upd_same (LsAt.keep (fun c hc o ho => ?_) r)
    have ne : c ≠ a := fun z => by rw [z] at hc; exact (List.nodup_cons.mp nd).1 hc
    rw [upd_ne ne]
    exact ho
  | a :: bs, _ :: qs, k + 1, b, q', .cons h r, nd, e => by
    have hb : b ∈ bs := List.mem_of_getElem? (show bs[k]? = some b from e)
    have ne : a ≠ b := fun z => by rw [z] at nd; exact (List.nodup_cons.mp nd).1 hb
    exact .cons (by rw [upd_ne ne]; exact h) (LsAt.set r (List.nodup_cons.mp nd).2 e)
theorem LsAt.mem {H : Hp} : ∀ {bs : List Addr} {qs : List (List Nat)}, LsAt H bs qs → ∀ b ∈ bs, ∃ q, H b = some (.lst (nV q))
  | _, _, .nil, b, hb => nomatch hb
  | _, _, .cons h r, b, hb => by
    rcases List.mem_cons.mp hb with z | z
    · rw [z]; exact ⟨_, h⟩
    · exact LsAt.mem r b z
theorem cut_to (xs : List V) (k : Nat) (h : k ≤ xs.length) : cutV xs none (some (k : Int)) = xs.take k := by
  unfold cutV
  rw [HT.sIx_none, HT.sIx_nat, Nat.min_eq_left h, List.drop_zero, Nat.sub_zero]
theorem mem_flat_len : ∀ {ps : List (List Nat)} {p : List Nat}, p ∈ ps → p.length ≤ ps.flatten.length
  | q :: r, p, h => by
    rw [List.flatten_cons, List.length_append]
    rcases List.mem_cons.mp h with z | z
    · rw [z]; omega
    · have := mem_flat_len z; omega
theorem flat_len : ∀ {ps : List (List Nat)}, (∀ p ∈ ps, p ≠ []) → ps.length ≤ ps.flatten.length
  | [], _ => Nat.le_refl _
  | q :: r, h => by
    have h1 := flat_len (ps := r) fun p hp => h p (List.mem_cons_of_mem _ hp)
    have h2 := List.length_pos_iff.mpr (h q List.mem_cons_self)
    rw [List.flatten_cons, List.length_append, List.length_cons]
    omega
theorem PInv.plen {i : Nat} {ps : List (List Nat)} (h : PInv i ps) {p : List Nat} (hp : p ∈ ps) : p.length ≤ i := by
  have h1 := mem_flat_len hp
  have h2 := h.perm.length_eq
  rw [List.length_range] at h2
  omega
theorem PInv.count {i : Nat} {ps : List (List Nat)} (h : PInv i ps) : ps.length ≤ i := by
  have h1 := flat_len h.ne
  have h2 := h.perm.length_eq
  rw [List.length_range] at h2
  omega
theorem PInv.pos {i : Nat} {ps : List (List Nat)} (h : PInv i ps) (hi : 0 < i) : 0 < ps.length := by
  cases ps with
  | nil =>
    have h2 := h.perm.length_eq
    rw [List.length_range] at h2
    exact absurd h2 (by show ¬ 0 = i; omega)
  | cons a r => exact Nat.succ_pos _
theorem set_last (ps : List (List Nat)) (x : List Nat) : (ps ++ [[]]).set ps.length x = ps ++ [x] := by
  rw [List.set_append_right (h := Nat.le_refl _), Nat.sub_self]
  rfl
theorem rep_neg (m : Nat) : (List.replicate ((m : Nat) : Int).toNat [V.int (-1)]).flatten = (List.replicate m (-1 : Int)).map V.int := by
  rw [Int.toNat_natCast]
  induction m with
  | zero => rfl
  | succ m ih =>
    show [V.int (-1)] ++ (List.replicate m [V.int (-1)]).flatten = _
    rw [ih]
    rfl
theorem SInv.start (od : List Nat) (m : Nat) (h : ∀ x ∈ od, x < m) : SInv od (List.replicate m (-1)) := fun t x hx => .inl (by
  rw [List.getElem?_replicate, if_pos (h x (List.mem_of_getElem? hx))])
/-- a tree is drawn -/
def spTree : Sp := fun vs H Q _ => ∃ h c a n vp, vs = [.ref h, .ref a] ∧ Dr H h c ∧ H a = some (.tup vp) ∧ vp.length = n ∧ 1 ≤ n ∧ n ≤ 8 ∧ ∀ v H' ps st, But h c H H' → Dr H' h c → TrAt H' v ps st → TrOk n ps st → Q v H'
end Ov
/-! ### enumerate and zip over lists and tuples alike -/
namespace Ov
open PySem PySem.Spec PyProof.Rows L2
/-- what is walked: a list | a tuple -/
inductive Sk where
  | l | t
def Sk.S (K : PySem.W.Frag) (H : Hp) (a : Addr) (xs : List V) : Sk → Prop
  | .l => SqL K H a xs
  | .t => SqT K H a xs
def Sk.It (h : Heap) (it a : Addr) (i : Nat) : Sk → Prop
  | .l => h.IsListIter it a i
  | .t => h.IsTupleIter it a i
def Sk.Is (h : Heap) (a : Addr) (its : Array Value) : Sk → Prop
  | .l => h.IsList a its
  | .t => h.IsTuple a its
def Sk.new (a : Addr) : Sk → Obj
  | .l => { cls := .type "list_iterator", data := .fields #[.ref a, .int 0 0] }
  | .t => { cls := .type "tuple_iterator", data := .fields #[.ref a, .int 0 0] }
def Sk.St (k : Sk) (it a : Addr) (its : Array Value) : Nat → Heap → Prop := fun i h => k.It h it a i ∧ k.Is h a its
theorem Sk.draws (k : Sk) {P : Program} {w : World} {A : Around} (hh : A.handled = none) (it a : Addr) (ne : a ≠ it) (its : Array Value) : Draws P w A it [it, a] its.size (fun i v => its[i]? = some v) (k.St it a its) := by
  cases k
  · exact Draws.list hh it a ne its
  · exact Draws.tuple hh it a ne its
theorem Sk.begins (k : Sk) (a : Addr) (its : Array Value) : Begins (.ref a) (k.new a) (fun h => k.Is h a its) := by
  cases k
  · exact begins_list a its
  · exact begins_tuple a its
theorem Sk.it_obj {k : Sk} {h : Heap} {it a : Addr} {i : Nat} (x : k.It h it a i) : ∃ o, h.get? it = some o ∧ ∀ v, o.data ≠ .cell v := by
  cases k
  · obtain ⟨o, h1, _, h2⟩ := x
    exact ⟨o, h1, fun v z => by rw [h2] at z; cases z⟩
  · obtain ⟨o, h1, _, h2⟩ := x
    exact ⟨o, h1, fun v z => by rw [h2] at z; cases z⟩
theorem Sk.it_keep {k : Sk} {h g : Heap} {it a : Addr} {i : Nat} (x : k.It h it a i) (q : ∀ o, h.get? it = some o → g.get? it = some o) : k.It g it a i := by
  cases k
  · exact Heap.IsListIter.at x q
  · exact Heap.IsTupleIter.at x q
theorem Sk.it_new {k : Sk} {h : Heap} {it a : Addr} (e : h.get? it = some (k.new a)) : k.It h it a 0 := by
  cases k
  · exact ⟨_, e, rfl, rfl⟩
  · exact ⟨_, e, rfl, rfl⟩
theorem Sk.is_lt {k : Sk} {h : Heap} {a : Addr} {its : Array Value} (x : k.Is h a its) : a < h.objs.size := by
  cases k
  · obtain ⟨o, e, _⟩ := x
    exact Heap.lt_size e
  · obtain ⟨o, e, _⟩ := x
    exact Heap.lt_size e
theorem Sk.read {k : Sk} {X : Cx} {pins : List (Addr × Obj)} {σ : L2.St} {H : Hp} {s : Shared} {a : Addr} {xs : List V} (I : Inv X pins σ H s) (h : k.S X.K H a xs) : ∃ its, Vals xs its ∧ k.Is s.heap a its.toArray := by
  cases k
  · obtain ⟨its, r, p, _⟩ := I.list h
    exact ⟨its, r, p.isList⟩
  · obtain ⟨its, r, p, _⟩ := I.tuple h
    exact ⟨its, r, p⟩
theorem Sk.inj {k : Sk} {X : Cx} {pins : List (Addr × Obj)} {σ : L2.St} {H : Hp} {s : Shared} {a : Addr} {xs ys : List V} (I : Inv X pins σ H s) (h : k.S X.K H a xs) (h' : k.S X.K H a ys) : xs = ys := by
  cases k
  · exact I.list_inj h h'
  · exact I.tuple_inj h h'
/-- enumerate: each item in a new pair -/
def EnI (K : PySem.W.Frag) (k : Sk) (a : Addr) : L2.It where
  go := fun i H => ∃ (xs : List V) (x : V), k.S K H a xs ∧ xs[i]? = some x
  yld := fun i H v H' => ∃ T x, v = .ref T ∧ H T = none ∧ H' = upd H T (.tup [.int (i : Nat), x]) ∧ ∀ xs, k.S K H a xs → xs[i]? = some x
  stop := fun i H => ∃ xs : List V, k.S K H a xs ∧ i = xs.length
/-- zip -/
def ZpI (K : PySem.W.Frag) (k m : Sk) (a b : Addr) : L2.It where
  go := fun i H => ∃ (xs ys : List V) (x y : V), k.S K H a xs ∧ m.S K H b ys ∧ xs[i]? = some x ∧ ys[i]? = some y
  yld := fun i H v H' => ∃ T x y, v = .ref T ∧ H T = none ∧ H' = upd H T (.tup [x, y]) ∧ (∀ xs, k.S K H a xs → xs[i]? = some x) ∧ ∀ ys, m.S K H b ys → ys[i]? = some y
  stop := fun i H => ∃ xs ys : List V, k.S K H a xs ∧ m.S K H b ys ∧ i ≤ xs.length ∧ i ≤ ys.length ∧ (i = xs.length ∨ i = ys.length)
/-- the cells of an enumerate -/
def EnT (k : Sk) (e it a : Addr) : Nat → Heap → Prop := fun i h => (∃ old, IsEnum h e it ((i : Nat) : Int) old) ∧ k.It h it a i ∧ e ≠ it ∧ a ≠ it ∧ e ≠ a
theorem two_mem {b e it : Addr} (h : b ∈ [e, it]) : b = e ∨ b = it := by simpa using h
theorem en_turn {P : Program} {w : World} {K : PySem.W.Frag} {elts : List Expr} {kk : Nat} {tpos : Pos} (k : Sk) (e it a : Addr) : Turn P w K (.Tuple elts kk tpos) (EnI K k a) [e, it] e (EnT k e it a) := by
  refine { mem := List.mem_cons_self, obj := ?_, keep := ?_, item := ?_, done := ?_, self := ?_ }
  · rintro i h ⟨⟨old, h1⟩, h2, _⟩ b hb
    rcases two_mem hb with z | z
    · refine ⟨_, by rw [z]; exact h1, ?_⟩
      intro v y
      cases y
    · rw [z]
      exact Sk.it_obj h2
  · rintro i h g ⟨⟨old, h1⟩, h2, h3⟩ q
    exact ⟨⟨old, q e (by simp) _ h1⟩, Sk.it_keep h2 (q it (by simp)), h3⟩
  · rintro X rfl rfl rfl hc i pins s σ H E I hf ⟨⟨old, h1⟩, h2, n1, n2, n3⟩ ⟨xs, x, hq, hx⟩
    obtain ⟨its, rv, his⟩ := Sk.read I hq
    obtain ⟨u, hu, ru⟩ := rv.get hx
    have hlt : i < its.toArray.size := by rw [List.size_toArray]; exact (List.getElem?_eq_some_iff.mp hu).1
    have hel : e < s.heap.objs.size := Heap.lt_size h1
    have hil : it < s.heap.objs.size := by obtain ⟨_, z, _⟩ := Sk.it_obj h2; exact Heap.lt_size z
    refine wpAny_pyNext_enum_itemD (k.draws (A := X.A.in1) (I.ok.hd hc) it a n2 its.toArray) h1 ⟨h2, his⟩ hlt n1 (by simp; exact ⟨n1, n3⟩) fun y g tk py out st hT hsz hk => ?_
    obtain rfl : y = u := by
      have z : its[i]? = some y := by simpa using py
      exact Option.some.inj (z.symm.trans hu)
    refine ⟨_, rfl, wpAny_letOwnedTupleGo_enum (s := { s with heap := g, toks := tk + 1 }) out fun g2 he2 sb => ?_⟩
    have hT2 : g2.get? s.heap.objs.size = some { cls := .type "tuple", data := .seq #[.int i tk, y] } := by rw [sb.2 _ (Nat.ne_of_gt hel)]; exact hT
    have ok : ObjOk X.prog X.w (upd H s.heap.objs.size (.tup [.int (i : Nat), x])) g2 s.heap.objs.size (.tup [.int (i : Nat), x]) := ⟨sml 2, [.int i tk, y], .cons ⟨tk, rfl⟩ (.cons ru .nil), ⟨_, hT2, rfl, _, rfl⟩⟩
    have I2 : Inv X pins σ (upd H s.heap.objs.size (.tup [.int (i : Nat), x])) { s with heap := g2, toks := tk + 1 } := by
      refine I.turnedNew (ch := [e, it]) (fun b o hb q => ?_) hf (Nat.le_refl _) ok
      have b1 : b ≠ e := fun z => hb (by rw [z]; simp)
      have b2 : b ≠ it := fun z => hb (by rw [z]; simp)
      rw [sb.2 b b1]
      exact hk b o b1 b2 q
    refine ⟨.ref s.heap.objs.size, _, I2, rfl, ⟨_, x, rfl, I.hok.fresh (Nat.le_refl _), rfl, fun ys hy => ?_⟩, ⟨⟨y, ?_⟩, ?_, n1, n2, n3⟩, fun b hb => ?_⟩
    · rw [Sk.inj I hy hq]
      exact hx
    · rw [show ((i + 1 : Nat) : Int) = (i : Int) + 1 by omega]
      exact he2
    · exact Sk.it_keep st.1 fun o z => by rw [sb.2 it n1.symm]; exact z
    · have b1 : b ≠ s.heap.objs.size := by
        rcases two_mem hb with z | z
        · rw [z]; exact Nat.ne_of_lt hel
        · rw [z]; exact Nat.ne_of_lt hil
      rw [upd_ne b1]
      exact (hf b hb).1
  · rintro X rfl rfl rfl hc i pins s σ H E I hf ⟨⟨old, h1⟩, h2, n1, n2, n3⟩ ⟨xs, hq, hx⟩
    subst hx
    obtain ⟨its, rv, his⟩ := Sk.read I hq
    have el : xs.length = its.toArray.size := by rw [List.size_toArray]; exact rv.length
    rw [el] at h2
    obtain ⟨f0, f1, f2, f3, f4, f5⟩ := hf it (by simp)
    exact wpAny_pyNext_enum_endD (k.draws (A := X.A.in1) (I.ok.hd hc) it a n2 its.toArray) h1 ⟨h2, his⟩ fun g q => ⟨rfl, I.turned (t' := s.toks) (fun b o hb z => q b o hb z) f0 f1 f3 f4 f5⟩
  · rintro A i s Q E ⟨⟨old, h1⟩, _⟩ q
    exact wpAny_pyIter_enum h1 q
/-- enumerate(x) makes two cells -/
theorem en_meets {v : Value} {o : Obj} {C : Heap → Prop} (B : Begins v o C) : Meets (Builtin.«enumerate.__new__» ⟨[.type "enumerate", v], []⟩) (fun _ R s => C s.heap ∧
    R (.ok (.ret (.ref (s.heap.push o).objs.size))) { s with heap := (s.heap.push o).push { cls := .type "enumerate", data := .fields #[.none, .bool false, .ref s.heap.objs.size, rawInt 0, .none, .none] } }) := .of_wp fun prog w A R s h => by
  obtain ⟨hp, gs, dr, tk, os⟩ := s
  obtain ⟨hC, h⟩ := h
  have sub := sub_enumerate
  have go : ∀ {B1 : Around} {E Q : Value → Shared → Prop}, Q (.ref hp.objs.size) ⟨hp.push o, gs, dr, tk, os⟩ → wpAny (model prog w) B1 (pyIter v) Q E ⟨hp, gs, dr, tk, os⟩ := fun q => B.iter prog w _ _ ⟨hp, gs, dr, tk, os⟩ _ hC q
  wp_walk using go
  refine wpAny_stack_any fun st => wpAny_pure ?_
  split
  · rename_i c _ _ _ _ _
    cases (c == Value.type "enumerate") <;> (wp_walk using go; exact ⟨_, rfl, h⟩)
  · wp_walk using go
    exact ⟨_, rfl, h⟩
theorem en_call {P : Program} {w : World} {A : Around} {E Q : Value → Shared → Prop} {s : Shared} {v : Value} {o : Obj} {C : Heap → Prop} (B : Begins v o C) (hC : C s.heap)
    (q : ∀ g, IsEnum g (s.heap.objs.size + 1) s.heap.objs.size 0 .none → g.get? s.heap.objs.size = some o → (∀ b u, s.heap.get? b = some u → g.get? b = some u) → Q (.ref (s.heap.objs.size + 1)) { s with heap := g }) :
    wpAny (model P w) A (call (.type "enumerate") [v]) Q E s := by
  have z : (s.heap.push o).objs.size = s.heap.objs.size + 1 := Heap.size_push ..
  have e1 := Heap.get?_push_size (s.heap.push o) (o := { cls := .type "enumerate", data := .fields #[.none, .bool false, .ref s.heap.objs.size, rawInt 0, .none, .none] }) rfl
  rw [z] at e1
  refine callType_new F.called_enumerate (by decide) (F.typeCall_enumerate_1 _) (F.newCall_enumerate_1 _) (fun obj => F.args_object_init_2 obj _) F.entry_enumerate_new (en_meets B) ⟨hC, ?_⟩
  show _ ∧ _
  rw [z]
  exact ⟨⟨_, e1, rfl⟩, q _ e1 (Heap.get?_push_of_some _ (Heap.get?_push_size _ B.free)) fun b u x => Heap.get?_push_of_some _ (Heap.get?_push_of_some _ x)⟩
def iEn (K : PySem.W.Frag) (k : Sk) (ta : TA) : L2.TI := fun σ H R => ta σ H fun vs H1 => ∃ a xs, vs = [.ref a] ∧ k.S K H1 a xs ∧ R (EnI K k a) H1
theorem pi_en {X : Cx} {K : PySem.W.Frag} {e : Expr} {ta : TA} {p pos tpos : Pos} {elts : List Expr} {kk : Nat} (k : Sk) (hK : X.K = K) (hg : Gl X "enumerate") (hm : X.mg "enumerate" = none) (ha : PA X [e] ta) (hs : starEach [e] X.env = [(false, eval e X.env)] := by rfl) :
    PI X (.Tuple elts kk tpos) (.Call (.Name "enumerate" p) [e] [] pos) (iEn K k ta) := by
  subst hK
  refine ⟨fun pins s σ H R I h => Call_ (ld_blt I hg hm boot_enumerate (PyProof.Rows.callWith_type1 (thn (ha.run pos pins s σ H _ I h) fun us s1 ⟨vs, H1, I1, r1, q1⟩ => ?_) hs rfl))⟩
  obtain ⟨a, xs, rfl, hq, q⟩ := q1
  obtain ⟨u, rfl, ru⟩ := r1.one
  cases ru
  obtain ⟨its, rv, his⟩ := Sk.read I1 hq
  refine en_call (k.begins a its.toArray) his fun g h1 h2 hk => wpAny_pyIter_enum h1 ?_
  have I2 : Inv X pins σ H1 { s1 with heap := g } := I1.kept (t' := s1.toks) hk
  have la := Sk.is_lt his
  refine ⟨s1.heap.objs.size + 1, [s1.heap.objs.size + 1, s1.heap.objs.size], _, _, H1, rfl, I2, en_turn k (s1.heap.objs.size + 1) s1.heap.objs.size a, ⟨⟨.none, h1⟩, Sk.it_new h2, Nat.succ_ne_self _, Nat.ne_of_lt la, Nat.ne_of_gt (Nat.lt_succ_of_lt la)⟩, fun b hb => ?_, q⟩
  have le : s1.heap.objs.size ≤ b := by rcases two_mem hb with z | z <;> (rw [z]; first | exact Nat.le_refl _ | exact Nat.le_succ _)
  exact I1.fpOk le (I1.hok.fresh le)
/-- the cells of a zip -/
def ZpT (k m : Sk) (z ti to_ i1 i2 a b : Addr) : Nat → Heap → Prop := fun i h => IsZip h z ti to_ .none ∧ IsTupOf2 h ti (.ref i1) (.ref i2) ∧ (∃ x y, IsTupOf2 h to_ x y) ∧ k.It h i1 a i ∧ m.It h i2 b i
theorem five_mem {c z ti to_ i1 i2 : Addr} (h : c ∈ [z, ti, to_, i1, i2]) : c = z ∨ c = ti ∨ c = to_ ∨ c = i1 ∨ c = i2 := by simpa using h
theorem zp_sep {z ti to_ i1 i2 a b : Addr} (D : ZipApart z ti to_ i1 i2 a b) : ZipSep2 z ti to_ i1 i2 [i1, a] [i2, b] where
  TIz := D.TIz
  TOz := D.TOz
  TITO := D.TITO
  TIi1 := D.TIi1
  mem1 := List.mem_cons_self
  zf1 := by simp; exact ⟨D.i1z.symm, D.l1z.symm⟩
  Tf1 := by simp; exact ⟨D.TOi1, D.l1TO.symm⟩
  TIi2 := D.TIi2
  mem2 := List.mem_cons_self
  zf2 := by simp; exact ⟨D.i2z.symm, D.l2z.symm⟩
  Tf2 := by simp; exact ⟨D.TOi2, D.l2TO.symm⟩
  sep1_2 := by simp; exact ⟨D.i12, D.l2i1.symm⟩
  sep2_1 := by simp; exact ⟨D.i12.symm, D.l1i2.symm⟩
theorem zp_turn {P : Program} {w : World} {K : PySem.W.Frag} {elts : List Expr} {kk : Nat} {tpos : Pos} (k m : Sk) {z ti to_ i1 i2 a b : Addr} (D : ZipApart z ti to_ i1 i2 a b) : Turn P w K (.Tuple elts kk tpos) (ZpI K k m a b) [z, ti, to_, i1, i2] z (ZpT k m z ti to_ i1 i2 a b) := by
  refine { mem := List.mem_cons_self, obj := ?_, keep := ?_, item := ?_, done := ?_, self := ?_ }
  · rintro i h ⟨hz, h1, ⟨x, y, h2⟩, h3, h4⟩ c hc
    rcases five_mem hc with e | e | e | e | e <;> rw [e]
    · refine ⟨_, hz, ?_⟩
      intro v y
      cases y
    · refine ⟨_, h1, ?_⟩
      intro v y
      cases y
    · refine ⟨_, h2, ?_⟩
      intro v y
      cases y
    · exact Sk.it_obj h3
    · exact Sk.it_obj h4
  · rintro i h g ⟨hz, h1, ⟨x, y, h2⟩, h3, h4⟩ q
    exact ⟨q z (by simp) _ hz, q ti (by simp) _ h1, ⟨x, y, q to_ (by simp) _ h2⟩, Sk.it_keep h3 (q i1 (by simp)), Sk.it_keep h4 (q i2 (by simp))⟩
  · rintro X rfl rfl rfl hc i pins s σ H E I hf ⟨hz, h1, ⟨x0, y0, h2⟩, h3, h4⟩ ⟨xs, ys, x, y, hqx, hqy, hx, hy⟩
    obtain ⟨its, rv, his⟩ := Sk.read I hqx
    obtain ⟨jts, rw_, hjs⟩ := Sk.read I hqy
    obtain ⟨u, hu, ru⟩ := rv.get hx
    obtain ⟨v, hv, rv2⟩ := rw_.get hy
    have l1 : i < its.toArray.size := by rw [List.size_toArray]; exact (List.getElem?_eq_some_iff.mp hu).1
    have l2 : i < jts.toArray.size := by rw [List.size_toArray]; exact (List.getElem?_eq_some_iff.mp hv).1
    have hzl : z < s.heap.objs.size := Heap.lt_size hz
    refine wpAny_pyNext_zipD2_item (zp_sep D) (k.draws (A := X.A.in1) (I.ok.hd hc) i1 a D.l1i1 its.toArray) (m.draws (A := X.A.in1) (I.ok.hd hc) i2 b D.l2i2 jts.toArray) hz h1 h2 ⟨h3, his⟩ ⟨h4, hjs⟩ l1 l2 fun u' v' g tk pu pv z1 t1 s1 s2 hT hsz hk => ?_
    obtain rfl : u' = u := by
      have e : its[i]? = some u' := by simpa using pu
      exact Option.some.inj (e.symm.trans hu)
    obtain rfl : v' = v := by
      have e : jts[i]? = some v' := by simpa using pv
      exact Option.some.inj (e.symm.trans hv)
    refine ⟨_, rfl, wpAny_letOwnedTupleGo_zip (s := { s with heap := g, toks := tk }) z1 fun g2 z2 sb => ?_⟩
    have hT2 : g2.get? s.heap.objs.size = some { cls := .type "tuple", data := .seq #[u', v'] } := by rw [sb.2 _ (Nat.ne_of_gt hzl)]; exact hT
    have ok : ObjOk X.prog X.w (upd H s.heap.objs.size (.tup [x, y])) g2 s.heap.objs.size (.tup [x, y]) := ⟨sml 2, [u', v'], .cons ru (.cons rv2 .nil), ⟨_, hT2, rfl, _, rfl⟩⟩
    have I2 : Inv X pins σ (upd H s.heap.objs.size (.tup [x, y])) { s with heap := g2, toks := tk } := by
      refine I.turnedNew (ch := [z, ti, to_, i1, i2]) (fun c o hc2 q => ?_) hf (Nat.le_refl _) ok
      have n1 : c ≠ z := fun e => hc2 (by rw [e]; simp)
      have n2 : c ≠ to_ := fun e => hc2 (by rw [e]; simp)
      have n3 : c ≠ i1 := fun e => hc2 (by rw [e]; simp)
      have n4 : c ≠ i2 := fun e => hc2 (by rw [e]; simp)
      rw [sb.2 c n1]
      exact hk c o n1 n2 n3 n4 q
    refine ⟨.ref s.heap.objs.size, _, I2, rfl, ⟨_, x, y, rfl, I.hok.fresh (Nat.le_refl _), rfl, fun l hl => ?_, fun l hl => ?_⟩, ⟨z2, ?_, ⟨u', v', ?_⟩, ?_, ?_⟩, fun c hcm => ?_⟩
    · rw [Sk.inj I hl hqx]; exact hx
    · rw [Sk.inj I hl hqy]; exact hy
    · rw [show IsTupOf2 g2 ti (.ref i1) (.ref i2) = (g2.get? ti = _) from rfl, sb.2 ti D.TIz]
      exact hk _ _ D.TIz D.TITO D.TIi1 D.TIi2 h1
    · rw [show IsTupOf2 g2 to_ u' v' = (g2.get? to_ = _) from rfl, sb.2 to_ D.TOz]
      exact t1
    · exact Sk.it_keep s1.1 fun o e => by rw [sb.2 i1 D.i1z]; exact e
    · exact Sk.it_keep s2.1 fun o e => by rw [sb.2 i2 D.i2z]; exact e
    · have lt : c < s.heap.objs.size := by
        rcases five_mem hcm with e | e | e | e | e <;> rw [e]
        · exact hzl
        · exact Heap.lt_size h1
        · exact Heap.lt_size h2
        · obtain ⟨_, q, _⟩ := Sk.it_obj h3; exact Heap.lt_size q
        · obtain ⟨_, q, _⟩ := Sk.it_obj h4; exact Heap.lt_size q
      rw [upd_ne (Nat.ne_of_lt lt)]
      exact (hf c hcm).1
  · rintro X rfl rfl rfl hc i pins s σ H E I hf ⟨hz, h1, ⟨x0, y0, h2⟩, h3, h4⟩ ⟨xs, ys, hqx, hqy, le1, le2, hend⟩
    obtain ⟨its, rv, his⟩ := Sk.read I hqx
    obtain ⟨jts, rw_, hjs⟩ := Sk.read I hqy
    have e1 : xs.length = its.toArray.size := by rw [List.size_toArray]; exact rv.length
    have e2 : ys.length = jts.toArray.size := by rw [List.size_toArray]; exact rw_.length
    refine wpAny_pyNext_zipD2_end (zp_sep D) (k.draws (A := X.A.in1) (I.ok.hd hc) i1 a D.l1i1 its.toArray) (m.draws (A := X.A.in1) (I.ok.hd hc) i2 b D.l2i2 jts.toArray) hz h1 h2 ⟨h3, his⟩ ⟨h4, hjs⟩ (by omega) (by omega) (by omega) fun g tk hk => ⟨rfl, I.turnedL (ch := [z, ti, to_, i1, i2]) (fun c o hc2 q => ?_) hf⟩
    exact hk c o (fun e => hc2 (by rw [e]; simp)) (fun e => hc2 (by rw [e]; simp)) (fun e => hc2 (by rw [e]; simp)) (fun e => hc2 (by rw [e]; simp)) q
  · rintro A i s Q E ⟨hz, _⟩ q
    exact wpAny_pyIter_zip hz q
def iZp (K : PySem.W.Frag) (k m : Sk) (ta : TA) : L2.TI := fun σ H R => ta σ H fun vs H1 => ∃ a b xs ys, vs = [.ref a, .ref b] ∧ k.S K H1 a xs ∧ m.S K H1 b ys ∧ R (ZpI K k m a b) H1
theorem pi_zp {X : Cx} {K : PySem.W.Frag} {e e2 : Expr} {ta : TA} {p pos tpos : Pos} {elts : List Expr} {kk : Nat} (k m : Sk) (hK : X.K = K) (hg : Gl X "zip") (hm : X.mg "zip" = none) (ha : PA X [e, e2] ta)
    (hs : starEach [e, e2] X.env = (false, eval e X.env) :: starEach [e2] X.env := by rfl) (hpl : (backTo pos (starEach [e2] X.env)).any (·.1) = false := by rfl) :
    PI X (.Tuple elts kk tpos) (.Call (.Name "zip" p) [e, e2] [] pos) (iZp K k m ta) := by
  subst hK
  refine ⟨fun pins s σ H R I h => Call_ (ld_blt I hg hm PyProof.Rows.boot_zip (PyProof.Rows.callWith_type1 (thn (ha.run pos pins s σ H _ I h) fun us s1 ⟨vs, H1, I1, r1, q1⟩ => ?_) hs hpl))⟩
  obtain ⟨a, b, xs, ys, rfl, hqx, hqy, q⟩ := q1
  obtain ⟨u, v, rfl, ru, rv⟩ := vals2 r1
  cases ru
  cases rv
  obtain ⟨its, _, his⟩ := Sk.read I1 hqx
  obtain ⟨jts, _, hjs⟩ := Sk.read I1 hqy
  refine zip_begins2 (k.begins a its.toArray) (m.begins b jts.toArray) his hjs fun g hz h1 h2 h3 h4 hsz hk => wpAny_pyIter_zip hz ?_
  have I2 : Inv X pins σ H1 { s1 with heap := g } := I1.kept (t' := s1.toks) hk
  refine ⟨s1.heap.objs.size + 4, [s1.heap.objs.size + 4, s1.heap.objs.size + 2, s1.heap.objs.size + 3, s1.heap.objs.size, s1.heap.objs.size + 1], _, _, H1, rfl, I2, zp_turn k m (PySem.W.ktu_apart s1.heap.objs.size a b (Sk.is_lt his) (Sk.is_lt hjs)), ⟨hz, h1, ⟨_, _, h2⟩, Sk.it_new h3, Sk.it_new h4⟩, fun c hc => ?_, q⟩
  have le : s1.heap.objs.size ≤ c := by rcases five_mem hc with e | e | e | e | e <;> (rw [e]; first | exact Nat.le_refl _ | exact Nat.le_add_right _ _)
  exact I1.fpOk le (I1.hok.fresh le)
/-! ### their walks -/
theorem walk_en {K : PySem.W.Frag} {k : Sk} {a : Addr} {xs : List V} : Walk (EnI K k a) xs.length (fun H => k.S K H a xs) (YPair (fun i => some (.int (i : Nat))) (fun i => xs[i]?)) where
  goes := fun i H hi q => ⟨xs, xs[i], q, List.getElem?_eq_getElem hi⟩
  stops := fun H q => ⟨xs, q, rfl⟩
  yields := fun i H v H' hi q ⟨T, x, h1, h2, h3, h4⟩ => ⟨T, .int (i : Nat), x, h1, h2, h3, rfl, h4 xs q⟩
theorem walk_zp {K : PySem.W.Frag} {k m : Sk} {a b : Addr} {xs ys : List V} {n : Nat} (hn : n = min xs.length ys.length) : Walk (ZpI K k m a b) n (fun H => k.S K H a xs ∧ m.S K H b ys) (YPair (fun i => xs[i]?) (fun i => ys[i]?)) where
  goes := fun i H hi q => ⟨xs, ys, xs[i]'(by omega), ys[i]'(by omega), q.1, q.2, List.getElem?_eq_getElem (by omega), List.getElem?_eq_getElem (by omega)⟩
  stops := fun H q => ⟨xs, ys, q.1, q.2, by omega, by omega, by omega⟩
  yields := fun i H v H' hi q ⟨T, x, y, h1, h2, h3, h4, h5⟩ => ⟨T, x, y, h1, h2, h3, h4 xs q.1, h5 ys q.2⟩
/-! ### comprehensions over walks -/
section
variable {J J1 : L2.It} {n n1 : Nat} {G G1 : Hp → Prop} {Y Y1 : Nat → Hp → V → Hp → Prop} {g g1 : TG} {te : TE} {vs vs1 : List Nat} {σ σ2 : L2.St} {H1 H4 : Hp} {D : Addr} {Qd Nx : Hp → Prop} {wi1 : L2.TI}
theorem lc_itY (w : Walk J n G Y) (Pv : Nat → Hp → Prop) (h0 : Pv 0 (upd H1 D (.lst []))) (hG : ∀ i H, i ≤ n → Pv i H → G H)
    (hs : ∀ i x H H', i < n → Pv i H → Y i H x H' → g x (wipe σ vs) H' fun σ2 H2 => wipe σ2 vs = wipe σ vs ∧ te σ2 H2 fun y H4 => ∃ acc, H4 D = some (.lst acc) ∧ acc.length < sizeLine ∧ Pv (i + 1) (upd H4 D (.lst (acc ++ [y])))) (hd : ∀ H, Pv n H → Qd H) :
    ∃ W : Nat → Nat → Hp → Prop, (∃ m, W 0 m (upd H1 D (.lst []))) ∧ ∀ i m H, W i m H →
      (J.stop i H ∧ Qd H) ∨ (J.go i H ∧ ∃ Nx : Hp → Prop, (∀ H', Nx H' → ∃ m', m' < m ∧ W (i + 1) m' H') ∧ ∀ x H', J.yld i H x H' → g x (wipe σ vs) H' fun σ2 H2 => wipe σ2 vs = wipe σ vs ∧ tYes σ2 H2 fun b H3 =>
        if b = true then te σ2 H3 fun y H4 => ∃ acc, H4 D = some (.lst acc) ∧ acc.length < sizeLine ∧ Nx (upd H4 D (.lst (acc ++ [y]))) else Nx H3) := lc_it (tt := tYes) w Pv h0 hG hs hd
/-- the inner of two -/
def Lc2In (g1 : TG) (te : TE) (vs1 : List Nat) (σ2 : L2.St) (D : Addr) (Nx : Hp → Prop) (J1 : L2.It) (H4 : Hp) : Prop := ∃ W1 : Nat → Nat → Hp → Prop, (∃ m, W1 0 m H4) ∧ ∀ j k H, W1 j k H →
  (J1.stop j H ∧ Nx H) ∨ (J1.go j H ∧ ∃ Nx1 : Hp → Prop, (∀ H', Nx1 H' → ∃ k', k' < k ∧ W1 (j + 1) k' H') ∧ ∀ x H', J1.yld j H x H' → g1 x (wipe σ2 vs1) H' fun σ3 H5 => wipe σ3 vs1 = wipe σ2 vs1 ∧ tYes σ3 H5 fun b H6 =>
    if b = true then te σ3 H6 fun y H7 => ∃ acc, H7 D = some (.lst acc) ∧ acc.length < sizeLine ∧ Nx1 (upd H7 D (.lst (acc ++ [y]))) else Nx1 H6)
theorem lc2_in (w : Walk J1 n1 G1 Y1) (Pv : Nat → Hp → Prop) (h0 : Pv 0 H4) (hG : ∀ i H, i ≤ n1 → Pv i H → G1 H)
    (hs : ∀ i x H H', i < n1 → Pv i H → Y1 i H x H' → g1 x (wipe σ2 vs1) H' fun σ3 H5 => wipe σ3 vs1 = wipe σ2 vs1 ∧ te σ3 H5 fun y H7 => ∃ acc, H7 D = some (.lst acc) ∧ acc.length < sizeLine ∧ Pv (i + 1) (upd H7 D (.lst (acc ++ [y])))) (hd : ∀ H, Pv n1 H → Nx H) : Lc2In g1 te vs1 σ2 D Nx J1 H4 := by
  refine ⟨fun i m H => m = n1 - i ∧ i ≤ n1 ∧ Pv i H, ⟨n1, rfl, Nat.zero_le _, h0⟩, ?_⟩
  rintro i m H ⟨rfl, hi, p⟩
  by_cases lt : i < n1
  · exact .inr ⟨w.goes i H lt (hG i H hi p), Pv (i + 1), fun H' p' => ⟨n1 - (i + 1), by omega, rfl, lt, p'⟩, fun x H' y => hs i x H H' lt p (w.yields i H x H' lt (hG i H hi p) y)⟩
  · obtain rfl : i = n1 := by omega
    exact .inl ⟨w.stops H (hG _ H hi p), hd H p⟩
theorem lc2_out (w : Walk J n G Y) (Pv : Nat → Hp → Prop) (h0 : Pv 0 (upd H1 D (.lst []))) (hG : ∀ i H, i ≤ n → Pv i H → G H)
    (hs : ∀ i x H H', i < n → Pv i H → Y i H x H' → g x (wipe σ vs) H' fun σ2 H2 => wipe σ2 vs = wipe σ vs ∧ wi1 σ2 H2 fun J1 H4 => Lc2In g1 te vs1 σ2 D (Pv (i + 1)) J1 H4) (hd : ∀ H, Pv n H → Qd H) :
    ∃ W : Nat → Nat → Hp → Prop, (∃ m, W 0 m (upd H1 D (.lst []))) ∧ ∀ i m H, W i m H →
      (J.stop i H ∧ Qd H) ∨ (J.go i H ∧ ∃ Nx : Hp → Prop, (∀ H', Nx H' → ∃ m', m' < m ∧ W (i + 1) m' H') ∧ ∀ x H', J.yld i H x H' → g x (wipe σ vs) H' fun σ2 H2 => wipe σ2 vs = wipe σ vs ∧ tYes σ2 H2 fun b H3 =>
        if b = true then wi1 σ2 H3 fun J1 H4 => ∃ W1 : Nat → Nat → Hp → Prop, (∃ m, W1 0 m H4) ∧ ∀ j k H, W1 j k H →
          (J1.stop j H ∧ Nx H) ∨ (J1.go j H ∧ ∃ Nx1 : Hp → Prop, (∀ H', Nx1 H' → ∃ k', k' < k ∧ W1 (j + 1) k' H') ∧ ∀ x H', J1.yld j H x H' → g1 x (wipe σ2 vs1) H' fun σ3 H5 => wipe σ3 vs1 = wipe σ2 vs1 ∧ tYes σ3 H5 fun b H6 =>
            if b = true then te σ3 H6 fun y H7 => ∃ acc, H7 D = some (.lst acc) ∧ acc.length < sizeLine ∧ Nx1 (upd H7 D (.lst (acc ++ [y]))) else Nx1 H6)
        else Nx H3) := by
  refine ⟨fun i m H => m = n - i ∧ i ≤ n ∧ Pv i H, ⟨n, rfl, Nat.zero_le _, h0⟩, ?_⟩
  rintro i m H ⟨rfl, hi, p⟩
  by_cases lt : i < n
  · exact .inr ⟨w.goes i H lt (hG i H hi p), Pv (i + 1), fun H' p' => ⟨n - (i + 1), by omega, rfl, lt, p'⟩, fun x H' y => hs i x H H' lt p (w.yields i H x H' lt (hG i H hi p) y)⟩
  · obtain rfl : i = n := by omega
    exact .inl ⟨w.stops H (hG _ H hi p), hd H p⟩
end
end Ov
/-! ### the program's promises -/
namespace Ov
open PySem PySem.Spec PyProof.Rows L2
def spBetween : Sp := fun vs H Q _ => ∃ v lo hi : Int, vs = [.int v, .int lo, .int hi] ∧ Q (.bl (decide (lo ≤ v ∧ v ≤ hi))) H
/-- the word at a: its name, what is given, the arms -/
def WordAt (H : Hp) (a : Addr) (o : Op) (g : Int) (us : List V) : Prop := H a = some (.tup (.str o.name :: (o.pre g ++ us))) ∧ us.length = o.arity
def Op.gV (o : Op) (g : Int) : V := if o.gives then .int g else .non
def spGivenOf : Sp := fun vs H Q _ => ∃ a o g us, vs = [.ref a] ∧ WordAt H a o g us ∧ Q (o.gV g) H
def spArmsOf : Sp := fun vs H Q _ => ∃ a o g us, vs = [.ref a] ∧ WordAt H a o g us ∧ ∀ p, H p = none → Q (.ref p) (upd H p (.tup us))
def spGivenFits : Sp := fun vs H Q _ => ∃ (o : Op) (g : Int) (n : Nat), vs = [.str (if o = .num then "number" else "function"), .int g, .int (n : Int)] ∧ o.gives = true ∧ o.fits n g ∧ Q (.bl true) H
/-- the numbers of a word's arms, of which the first is b -/
def starts : Nat → List W → List Nat
  | _, [] => []
  | b, a :: r => b :: starts (b + a.size) r
mutual
/-- the rows of a word that is the b-th -/
def W.rows : Nat → W → List (Op × Int × List Nat)
  | b, .mk o g as => (o, g, starts (b + 1) as) :: W.rowss (b + 1) as
def W.rowss : Nat → List W → List (Op × Int × List Nat)
  | _, [] => []
  | b, a :: r => a.rows b ++ W.rowss (b + a.size) r
end
theorem W.rows_mk (b : Nat) (o : Op) (g : Int) (as : List W) : (W.mk o g as).rows b = (o, g, starts (b + 1) as) :: W.rowss (b + 1) as := by rw [W.rows]
mutual
theorem W.rows_len : ∀ (b : Nat) (w : W), (w.rows b).length = w.size
  | b, .mk o g as => by
    rw [W.rows_mk, W.size_mk, List.length_cons, W.rowss_len (b + 1) as]
    omega
theorem W.rowss_len : ∀ (b : Nat) (ws : List W), (W.rowss b ws).length = W.sizes ws
  | b, [] => by rw [W.rowss, W.sizes]; rfl
  | b, a :: r => by rw [W.rowss, W.sizes, List.length_append, W.rows_len b a, W.rowss_len _ r]
end
def RowAt (H : Hp) (v : V) (r : Op × Int × List Nat) : Prop := ∃ t a, v = .ref t ∧ H t = some (.tup [.str r.1.name, r.1.gV r.2.1, .ref a]) ∧ H a = some (.tup (nV r.2.2))
theorem RowAt.keep {H H' : Hp} {v : V} {r : Op × Int × List Nat} (k : Keep H H') (h : RowAt H v r) : RowAt H' v r := by
  obtain ⟨t, a, e, h1, h2⟩ := h
  exact ⟨t, a, e, k _ _ h1, k _ _ h2⟩
/-- all but the list at l stays -/
def ButL (l : Addr) (H H' : Hp) : Prop := ∀ a o, a ≠ l → H a = some o → H' a = some o
def spAddWord (d : Nat) : Sp := fun vs H Q _ => ∃ l v n u xs, vs = [.ref l, v] ∧ H l = some (.lst xs) ∧ WAt H v u ∧ WOk n d u ∧ xs.length + u.size ≤ 1000 ∧
  ∀ H' ys, ButL l H H' → H' l = some (.lst (xs ++ ys)) → Paired (RowAt H') ys (u.rows xs.length) → Q (.int (xs.length : Int)) H'
def spWordsOf : Sp := fun vs H Q _ => ∃ v n u, vs = [v] ∧ WAt H v u ∧ WOk n 7 u ∧ u.size ≤ 900 ∧ ∀ H' p ys, Same H H' → H p = none → H' p = some (.lst ys) → Paired (RowAt H') ys (u.rows 0) → Q (.ref p) H'
def spWordFits (d : Nat) : Sp := fun vs H Q _ => ∃ (v : V) (n : Nat) (u : W) (r : Int), vs = [v, .int (n : Int), .int r] ∧ WAt H v u ∧ WOk n d u ∧ 0 ≤ r ∧ r + (d : Int) ≤ 7 ∧ ∀ H', Same H H' → Q (.bl true) H'
def spFunctionFits : Sp := fun vs H Q _ => ∃ (v : V) (n : Nat) (f : Int × W), vs = [v, .int (n : Int)] ∧ FAt H v f ∧ FOk n f ∧ ∀ H', Same H H' → Q (.bl true) H'
def spCheckProgram : Sp := fun vs H Q _ => ∃ v p, vs = [v] ∧ PrAt H v p ∧ PrOk p ∧ ∀ H', Same H H' → Q .non H'
def spCheckFunction : Sp := fun vs H Q _ => ∃ (f n : Nat), vs = [.int (f : Int), .int (n : Int)] ∧ f < n ∧ Q .non H
theorem W.sizes_snoc : ∀ (ws : List W) (w : W), W.sizes (ws ++ [w]) = W.sizes ws + w.size
  | [], w => by simp [W.sizes]
  | a :: r, w => by rw [List.cons_append, W.sizes, W.sizes, W.sizes_snoc r w]; omega
theorem starts_snoc : ∀ (b : Nat) (ws : List W) (w : W), starts b (ws ++ [w]) = starts b ws ++ [b + W.sizes ws]
  | b, [], w => by rw [W.sizes]; rfl
  | b, a :: r, w => by
    show b :: starts (b + a.size) (r ++ [w]) = b :: (starts (b + a.size) r ++ [_])
    rw [starts_snoc (b + a.size) r w, W.sizes, Nat.add_assoc]
theorem rowss_snoc : ∀ (b : Nat) (ws : List W) (w : W), W.rowss b (ws ++ [w]) = W.rowss b ws ++ w.rows (b + W.sizes ws)
  | b, [], w => by rw [List.nil_append, W.rowss, W.rowss, W.rowss, W.sizes]; simp
  | b, a :: r, w => by rw [List.cons_append, W.rowss, W.rowss, rowss_snoc _ r w, W.sizes, List.append_assoc, Nat.add_assoc]
theorem starts_len : ∀ (b : Nat) (ws : List W), (starts b ws).length = ws.length
  | _, [] => rfl
  | b, a :: r => congrArg Nat.succ (starts_len (b + a.size) r)
theorem sizes_take_le : ∀ (ws : List W) (i : Nat), W.sizes (ws.take i) ≤ W.sizes ws
  | [], i => by rw [List.take_nil]; exact Nat.le_refl _
  | a :: r, 0 => by rw [List.take_zero, W.sizes]; exact Nat.zero_le _
  | a :: r, i + 1 => by rw [List.take_succ_cons, W.sizes, W.sizes]; exact Nat.add_le_add_left (sizes_take_le r i) _
theorem size_get : ∀ (ws : List W) (i : Nat) (w : W), ws[i]? = some w → W.sizes (ws.take i) + w.size ≤ W.sizes ws
  | [], i, w, h => by simp at h
  | a :: r, 0, w, h => by
    have e : a = w := Option.some.inj h
    rw [e, List.take_zero, W.sizes, W.sizes]
    omega
  | a :: r, i + 1, w, h => by
    have ih := size_get r i w h
    rw [List.take_succ_cons, W.sizes, W.sizes]
    omega
theorem ButL.trans {l : Addr} {H H1 H2 : Hp} (a : ButL l H H1) (b : ButL l H1 H2) : ButL l H H2 := fun x o n e => b x o n (a x o n e)
theorem ButL.same {l : Addr} {H H' : Hp} (a : Same H H') : ButL l H H' := fun x o _ e => a x o e
theorem ButL.upd {l : Addr} {H : Hp} {o : HO} : ButL l H (upd H l o) := fun x u n e => by rw [upd_ne n]; exact e
theorem ButL.keep {l : Addr} {xs : List V} {H H' : Hp} (b : ButL l H H') (e : H l = some (.lst xs)) : Keep H H' := fun a ys h => b a _ (ne_of h e (by intro z; cases z)) h
theorem paired_app {α β : Type} {R : α → β → Prop} : ∀ {a c : List α} {b d : List β}, Paired R a b → Paired R c d → Paired R (a ++ c) (b ++ d)
  | _, _, _, _, .nil, h => h
  | _, _, _, _, .cons h r, h' => .cons h (paired_app r h')
theorem Paired.get2 {α β : Type} {R : α → β → Prop} : ∀ {a : List α} {b : List β} {i : Nat} {x : α}, Paired R a b → a[i]? = some x → ∃ y, b[i]? = some y ∧ R x y
  | _, _, _, _, .nil, e => by simp at e
  | _, _, 0, _, .cons h r, e => by
    have e2 := Option.some.inj e
    subst e2
    exact ⟨_, rfl, h⟩
  | _, _, i + 1, x, .cons _ r, e => Paired.get2 (i := i) (x := x) r e
theorem set_mid (xs ys : List V) (x y : V) : (xs ++ [x] ++ ys).set xs.length y = xs ++ y :: ys := by
  rw [List.append_assoc, List.set_append_right (h := Nat.le_refl _), Nat.sub_self]
  rfl
end Ov
/-! ### ways down -/
namespace Ov
open PySem PySem.Spec PyProof.Rows L2
/-- under x lie l, from the undermost on -/
inductive Down (st : List Int) : Nat → List Nat → Prop
  | base {x : Nat} : st[x]? = some (-1) → Down st x []
  | step {x y : Nat} {l : List Nat} : st[x]? = some ((y : Nat) : Int) → Down st y l → Down st x (l ++ [y])
theorem Down.uniq {st : List Int} {x : Nat} {l m : List Nat} (h : Down st x l) (h' : Down st x m) : l = m := by
  induction h generalizing m with
  | base e =>
    cases h' with
    | base _ => rfl
    | @step _ y l e' _ =>
      have z := Option.some.inj (e.symm.trans e')
      omega
  | @step x y l e _ ih =>
    cases h' with
    | base e' =>
      have z := Option.some.inj (e'.symm.trans e)
      omega
    | @step _ y' l' e' h2 =>
      have z := Option.some.inj (e.symm.trans e')
      obtain rfl : y = y' := by omega
      rw [ih h2]
theorem SInv.down {od : List Nat} {st : List Int} (h : SInv od st) : ∀ (t x : Nat), od[t]? = some x → ∃ l, Down st x l ∧ l.length ≤ t ∧ ∀ y ∈ l, y ∈ od := by
  intro t
  induction t using Nat.strongRecOn with
  | ind t ih =>
    intro x hx
    rcases h t x hx with e | ⟨j, y, hj, hy, e⟩
    · exact ⟨[], .base e, Nat.zero_le _, (fun _ z => nomatch z)⟩
    · obtain ⟨l, h1, h2, h3⟩ := ih j hj y hy
      refine ⟨l ++ [y], .step e h1, by rw [List.length_append, List.length_singleton]; omega, fun z hz => ?_⟩
      rcases List.mem_append.mp hz with q | q
      · exact h3 z q
      · rw [List.mem_singleton.mp q]
        exact List.mem_of_getElem? hy
/-- the ways down of a tree's parts -/
structure Dn (n : Nat) (ps : List (List Nat)) (st : List Int) (dn : Nat → List Nat) : Prop where
  down : ∀ x, x < ps.length → Down st x (dn x)
  len : ∀ x, x < ps.length → (dn x).length < ps.length
  lt : ∀ x, x < ps.length → ∀ y ∈ dn x, y < ps.length
theorem TrOk.dn {n : Nat} {ps : List (List Nat)} {st : List Int} (h : TrOk n ps st) : ∃ dn, Dn n ps st dn := by
  obtain ⟨od, hp, hs⟩ := h.ord
  have key : ∀ x, ∃ l, x < ps.length → Down st x l ∧ l.length < ps.length ∧ ∀ y ∈ l, y < ps.length := fun x => by
    by_cases hx : x < ps.length
    · have mem : x ∈ od := hp.mem_iff.mpr (List.mem_range.mpr hx)
      obtain ⟨t, ht⟩ := List.mem_iff_getElem?.mp mem
      obtain ⟨l, h1, h2, h3⟩ := hs.down t x ht
      have htl : t < od.length := (List.getElem?_eq_some_iff.mp ht).1
      have hol : od.length = ps.length := by rw [hp.length_eq, List.length_range]
      exact ⟨l, fun _ => ⟨h1, by omega, fun y hy => List.mem_range.mp (hp.mem_iff.mp (h3 y hy))⟩⟩
    · exact ⟨[], fun z => absurd z hx⟩
  exact ⟨fun x => (key x).choose, ⟨fun x hx => ((key x).choose_spec hx).1, fun x hx => ((key x).choose_spec hx).2.1, fun x hx => ((key x).choose_spec hx).2.2⟩⟩
/-- the size of a function, of a part -/
def fsz (pr : List (Int × W)) (f : Nat) : Int := (pr[f]?.map (·.1)).getD 0
def psz (pr : List (Int × W)) (p : List Nat) : Int := (p.map (fsz pr)).sum
/-- where the i-th part begins -/
def bgn (pr : List (Int × W)) (ps : List (List Nat)) (dn : Nat → List Nat) (i : Nat) : Int := ((dn i).map fun y => psz pr (ps[y]?.getD [])).sum
theorem psz_snoc (pr : List (Int × W)) (p : List Nat) (f : Nat) : psz pr (p ++ [f]) = psz pr p + fsz pr f := by
  unfold psz
  rw [List.map_append, List.sum_append]
  simp
theorem cut_from (xs : List V) (k : Nat) (h : k ≤ xs.length) : cutV xs (some (k : Int)) none = xs.drop k := by
  unfold cutV
  rw [HT.sIx_none, HT.sIx_nat, Nat.min_eq_left h]
  exact List.take_of_length_le (by rw [List.length_drop]; exact Nat.le_refl _)
theorem nV_int {ns : List Nat} {i : Nat} {x : V} (h : (nV ns)[i]? = some x) : ∃ y, ns[i]? = some y ∧ x = V.int ((y : Nat) : Int) := by
  unfold nV at h
  rw [List.getElem?_map] at h
  cases e : ns[i]? with
  | none => rw [e] at h; cases h
  | some y => rw [e] at h; exact ⟨y, rfl, (Option.some.inj h).symm⟩
theorem ints_int {ns : List Int} {i : Nat} {x : V} (h : (ns.map V.int)[i]? = some x) : ∃ y, ns[i]? = some y ∧ x = V.int y := by
  rw [List.getElem?_map] at h
  cases e : ns[i]? with
  | none => rw [e] at h; cases h
  | some y => rw [e] at h; exact ⟨y, rfl, (Option.some.inj h).symm⟩
theorem nV_ints (ns : List Nat) : nV ns = (ns.map fun (x : Nat) => (x : Int)).map V.int := by
  unfold nV
  rw [List.map_map]
  rfl
theorem rep_all (n : Nat) : (List.replicate n true).all id = true := by simp
theorem rep_snoc (n : Nat) : (List.replicate n true).map V.bl ++ [V.bl true] = (List.replicate (n + 1) true).map V.bl := by
  rw [List.replicate_succ', List.map_append]
  rfl
theorem eqvIntsAll : ∀ ns : List Int, PyData.eqvAll (ns.map PyData.int) (ns.map PyData.int) = true
  | [] => by simp [PyData.eqvAll]
  | n :: ns => by
    have h := eqvIntsAll ns
    simp [PyData.eqvAll, PyData.eqv, h]
theorem eqvInts (ns : List Int) : PyData.eqv (.list (ns.map PyData.int)) (.list (ns.map PyData.int)) = true := by
  have h := eqvIntsAll ns
  simp [PyData.eqv, h]
theorem PInv.sorted {n : Nat} {ps : List (List Nat)} (h : PInv n ps) {ns : List Int} (hp : ns.Perm (ps.flatten.map fun (x : Nat) => (x : Int))) (hs : ns.Pairwise (· ≤ ·)) : ns = (List.range n).map fun (x : Nat) => (x : Int) := by
  refine PySem.W.ksm_same (hp.trans (h.perm.map _)) hs ?_
  rw [List.pairwise_map]
  exact List.Pairwise.imp (fun z => by omega) List.pairwise_lt_range
/-! ### the promises -/
def spRises : Sp := fun vs H Q _ => ∃ (a : Addr) (ns : List Nat), vs = [.ref a] ∧ (H a = some (.lst (nV ns)) ∨ (H a = some (.tup (nV ns)) ∧ ns ≠ [])) ∧ ns.Pairwise (· < ·) ∧ ns.length ≤ 1000 ∧ ∀ H', Same H H' → Q (.bl true) H'
def spPartFits : Sp := fun vs H Q _ => ∃ (v : V) (n : Nat) (p : List Nat), vs = [v, .int (n : Int)] ∧ PartAt H v p ∧ p ≠ [] ∧ p.Pairwise (· < ·) ∧ (∀ x ∈ p, x < n) ∧ p.length ≤ 8 ∧ ∀ H', Same H H' → Q (.bl true) H'
def spPartsFit : Sp := fun vs H Q _ => ∃ (a : Addr) (n : Nat) (us : List V) (ps : List (List Nat)), vs = [.ref a, .int (n : Int)] ∧ H a = some (.tup us) ∧ Paired (PartAt H) us ps ∧ PInv n ps ∧ n ≤ 8 ∧ ∀ H', Same H H' → Q (.bl true) H'
def spHasEnd : Sp := fun vs H Q _ => ∃ (a : Addr) (st : List Int) (x : Nat) (od : List Nat), vs = [.ref a, .int (x : Int)] ∧ H a = some (.tup (st.map V.int)) ∧ od.Perm (List.range st.length) ∧ SInv od st ∧ x < st.length ∧ st.length ≤ 1000 ∧ Q (.bl true) H
def spStandsFit : Sp := fun vs H Q _ => ∃ (a : Addr) (st : List Int) (m : Nat) (od : List Nat), vs = [.ref a, .int (m : Int)] ∧ H a = some (.tup (st.map V.int)) ∧ st.length = m ∧ od.Perm (List.range m) ∧ SInv od st ∧ m ≤ 1000 ∧ ∀ H', Same H H' → Q (.bl true) H'
/-- a program and a tree of it -/
def preT (H : Hp) (v t : V) (pr : List (Int × W)) (ps : List (List Nat)) (st : List Int) : Prop := PrAt H v pr ∧ PrOk pr ∧ TrAt H t ps st ∧ TrOk pr.length ps st
theorem preT.keep {H H' : Hp} {v t : V} {pr : List (Int × W)} {ps : List (List Nat)} {st : List Int} (k : Keep H H') (h : preT H v t pr ps st) : preT H' v t pr ps st := ⟨h.1.keep k, h.2.1, h.2.2.1.keep k, h.2.2.2⟩
def spCheckTree : Sp := fun vs H Q _ => ∃ v t pr ps st, vs = [v, t] ∧ preT H v t pr ps st ∧ ∀ H', Same H H' → Q .non H'
def spPartsBelow : Sp := fun vs H Q _ => ∃ (a : Addr) (st : List Int) (x : Nat) (l : List Nat), vs = [.ref a, .int (x : Int)] ∧ H a = some (.tup (st.map V.int)) ∧ Down st x l ∧ l.length ≤ 900 ∧ ∀ H' p, Same H H' → H p = none → H' p = some (.lst (nV l)) → Q (.ref p) H'
def spSizeOf : Sp := fun vs H Q _ => ∃ v u pr p, vs = [v, u] ∧ PrAt H v pr ∧ PartAt H u p ∧ (∀ x ∈ p, x < pr.length) ∧ p.length ≤ 900 ∧ ∀ H', Same H H' → Q (.int (psz pr p)) H'
def spBegins : Sp := fun vs H Q _ => ∃ v t pr ps st dn, vs = [v, t] ∧ preT H v t pr ps st ∧ Dn pr.length ps st dn ∧ ∀ H' p, Same H H' → H p = none → H' p = some (.lst (((List.range ps.length).map (bgn pr ps dn)).map V.int)) → Q (.ref p) H'
/-- the cells of all functions -/
def Cells (pr : List (Int × W)) (ps : List (List Nat)) (dn : Nat → List Nat) (cs : List Int) : Prop := cs.length = pr.length ∧ ∀ i p j f, ps[i]? = some p → p[j]? = some f → cs[f]? = some (bgn pr ps dn i + psz pr (p.take j))
def spPlaces : Sp := fun vs H Q _ => ∃ v t pr ps st dn, vs = [v, t] ∧ preT H v t pr ps st ∧ Dn pr.length ps st dn ∧ ∀ H' p cs, Same H H' → H p = none → H' p = some (.lst (cs.map V.int)) → Cells pr ps dn cs → Q (.ref p) H'
/-- the farthest end -/
def Far (pr : List (Int × W)) (ps : List (List Nat)) (dn : Nat → List Nat) (m : Int) : Prop := (∃ i p, ps[i]? = some p ∧ m = bgn pr ps dn i + psz pr p) ∧ ∀ i p, ps[i]? = some p → bgn pr ps dn i + psz pr p ≤ m
theorem Far.uniq {pr : List (Int × W)} {ps : List (List Nat)} {dn : Nat → List Nat} {m k : Int} (h : Far pr ps dn m) (h' : Far pr ps dn k) : m = k := by
  obtain ⟨⟨i, p, h1, h2⟩, h3⟩ := h
  obtain ⟨⟨j, q, h4, h5⟩, h6⟩ := h'
  have a := h3 j q h4
  have b := h6 i p h1
  omega
def spWanted : Sp := fun vs H Q _ => ∃ v t pr ps st dn, vs = [v, t] ∧ preT H v t pr ps st ∧ Dn pr.length ps st dn ∧ ∀ H' m, Same H H' → Far pr ps dn m → Q (.int m) H'
def spWayDown : Sp := fun vs H Q _ => ∃ (v t : V) (pr : List (Int × W)) (ps : List (List Nat)) (st : List Int) (dn : Nat → List Nat) (f i : Nat) (pt : List Nat), vs = [v, t, .int (f : Int)] ∧ preT H v t pr ps st ∧ Dn pr.length ps st dn ∧ ps[i]? = some pt ∧ f ∈ pt ∧
  ∀ H' p, Same H H' → H p = none → H' p = some (.lst (nV (dn i ++ [i]))) → Q (.ref p) H'
def spWayOf : Sp := fun vs H Q _ => ∃ (t : V) (n : Nat) (ps : List (List Nat)) (st : List Int) (dn : Nat → List Nat) (f i : Nat) (pt : List Nat), vs = [t, .int (f : Int)] ∧ TrAt H t ps st ∧ TrOk n ps st ∧ n ≤ 8 ∧ Dn n ps st dn ∧ ps[i]? = some pt ∧ f ∈ pt ∧
  ∀ H' p, Same H H' → H p = none → H' p = some (.lst (nV (dn i ++ [i]))) → Q (.ref p) H'
end Ov
/-! ### more on ways down -/
namespace Ov
open PySem PySem.Spec PyProof.Rows L2
theorem Down.get {st : List Int} {x : Nat} {l : List Nat} (h : Down st x l) : ∃ z, st[x]? = some z := by
  cases h with
  | base e => exact ⟨_, e⟩
  | step e _ => exact ⟨_, e⟩
theorem Paired.got {α β : Type} {R : α → β → Prop} : ∀ {a : List α} {b : List β} {i : Nat} {y : β}, Paired R a b → b[i]? = some y → ∃ x, a[i]? = some x ∧ R x y
  | _, _, 0, y, .cons h _, e => by
    obtain rfl := Option.some.inj e
    exact ⟨_, rfl, h⟩
  | _, _, i + 1, y, .cons _ r, e => Paired.got (i := i) (y := y) r e
theorem rep_v (x : V) (m : Nat) : (List.replicate ((m : Nat) : Int).toNat [x]).flatten = List.replicate m x := by
  rw [Int.toNat_natCast]
  induction m with
  | zero => rfl
  | succ m ih =>
    show [x] ++ (List.replicate m [x]).flatten = _
    rw [ih]
    rfl
/-- each function stands at one place of one part -/
theorem PInv.uniq {n : Nat} {ps : List (List Nat)} (h : PInv n ps) {i i' j j' f : Nat} {p p' : List Nat} (e1 : ps[i]? = some p) (e2 : p[j]? = some f) (e3 : ps[i']? = some p') (e4 : p'[j']? = some f) : i = i' ∧ j = j' := by
  have nd : ps.flatten.Nodup := h.perm.nodup_iff.mpr List.nodup_range
  unfold List.Nodup at nd
  rw [List.pairwise_flatten] at nd
  obtain ⟨hi, d1⟩ := List.getElem?_eq_some_iff.mp e1
  obtain ⟨hi', d3⟩ := List.getElem?_eq_some_iff.mp e3
  have m1 := List.mem_of_getElem? e2
  have m2 := List.mem_of_getElem? e4
  have ii : i = i' := by
    rcases Nat.lt_trichotomy i i' with lt | eq | gt
    · have z := List.pairwise_iff_getElem.mp nd.2 i i' hi hi' lt
      rw [d1, d3] at z
      exact absurd rfl (z f m1 f m2)
    · exact eq
    · have z := List.pairwise_iff_getElem.mp nd.2 i' i hi' hi gt
      rw [d1, d3] at z
      exact absurd rfl (z f m2 f m1)
  subst ii
  obtain rfl : p = p' := Option.some.inj (e1.symm.trans e3)
  obtain ⟨hj, d2⟩ := List.getElem?_eq_some_iff.mp e2
  obtain ⟨hj', d4⟩ := List.getElem?_eq_some_iff.mp e4
  have r := h.rise p (List.mem_of_getElem? e1)
  refine ⟨rfl, ?_⟩
  rcases Nat.lt_trichotomy j j' with lt | eq | gt
  · have z := List.pairwise_iff_getElem.mp r j j' hj hj' lt
    omega
  · exact eq
  · have z := List.pairwise_iff_getElem.mp r j' j hj' hj gt
    omega
theorem PInv.stands {n : Nat} {ps : List (List Nat)} (h : PInv n ps) {f : Nat} (hf : f < n) : ∃ (i : Nat) (p : List Nat) (j : Nat), ps[i]? = some p ∧ p[j]? = some f := by
  obtain ⟨p, hp, hm⟩ := List.mem_flatten.mp (h.perm.mem_iff.mpr (List.mem_range.mpr hf))
  obtain ⟨i, hi⟩ := List.mem_iff_getElem?.mp hp
  obtain ⟨j, hj⟩ := List.mem_iff_getElem?.mp hm
  exact ⟨i, p, j, hi, hj⟩
/-- a row that is filled part by part -/
def Fill {α : Type} (n : Nat) (ps : List (List Nat)) (R : Nat → Nat → α → Prop) (i j : Nat) (cs : List α) : Prop := cs.length = n ∧ ∀ i' p j' f, ps[i']? = some p → p[j']? = some f → (i' < i ∨ (i' = i ∧ j' < j)) → ∃ x, cs[f]? = some x ∧ R i' j' x
theorem Fill.start {α : Type} {n : Nat} {ps : List (List Nat)} {R : Nat → Nat → α → Prop} {cs : List α} (h : cs.length = n) : Fill n ps R 0 0 cs := ⟨h, fun _ _ _ _ _ _ z => by omega⟩
theorem Fill.mono {α : Type} {n : Nat} {ps : List (List Nat)} {R R' : Nat → Nat → α → Prop} {i j : Nat} {cs : List α} (h : Fill n ps R i j cs) (m : ∀ a b x, R a b x → R' a b x) : Fill n ps R' i j cs := ⟨h.1, fun i' p j' f e1 e2 z => by
  obtain ⟨x, h1, h2⟩ := h.2 i' p j' f e1 e2 z
  exact ⟨x, h1, m _ _ _ h2⟩⟩
theorem Fill.step {α : Type} {n : Nat} {ps : List (List Nat)} {R : Nat → Nat → α → Prop} {i j f : Nat} {p : List Nat} {cs : List α} {x : α} (h : Fill n ps R i j cs) (hp : PInv n ps) (e1 : ps[i]? = some p) (e2 : p[j]? = some f) (r : R i j x) : Fill n ps R i (j + 1) (cs.set f x) := by
  refine ⟨by rw [List.length_set]; exact h.1, fun i' p' j' f' d1 d2 z => ?_⟩
  by_cases e : f = f'
  · subst e
    obtain ⟨rfl, rfl⟩ := hp.uniq e1 e2 d1 d2
    have lf : f < cs.length := by rw [h.1]; exact hp.lt (List.mem_of_getElem? e1) (List.mem_of_getElem? e2)
    exact ⟨x, List.getElem?_set_self lf, r⟩
  · rw [List.getElem?_set_ne e]
    refine h.2 i' p' j' f' d1 d2 ?_
    rcases z with z | ⟨rfl, z⟩
    · exact .inl z
    · refine .inr ⟨rfl, ?_⟩
      by_cases ej : j' = j
      · subst ej
        obtain rfl : p = p' := Option.some.inj (e1.symm.trans d1)
        exact absurd (Option.some.inj (e2.symm.trans d2)) e
      · omega
theorem Fill.next {α : Type} {n : Nat} {ps : List (List Nat)} {R : Nat → Nat → α → Prop} {i : Nat} {p : List Nat} {cs : List α} (h : Fill n ps R i p.length cs) (e1 : ps[i]? = some p) : Fill n ps R (i + 1) 0 cs := ⟨h.1, fun i' p' j' f d1 d2 z => by
  refine h.2 i' p' j' f d1 d2 ?_
  by_cases e : i' = i
  · subst e
    obtain rfl : p = p' := Option.some.inj (e1.symm.trans d1)
    exact .inr ⟨rfl, (List.getElem?_eq_some_iff.mp d2).1⟩
  · omega⟩
theorem Fill.all {α : Type} {n : Nat} {ps : List (List Nat)} {R : Nat → Nat → α → Prop} {cs : List α} (h : Fill n ps R ps.length 0 cs) : cs.length = n ∧ ∀ i p j f, ps[i]? = some p → p[j]? = some f → ∃ x, cs[f]? = some x ∧ R i j x := ⟨h.1, fun i p j f d1 d2 => h.2 i p j f d1 d2 (.inl (List.getElem?_eq_some_iff.mp d1).1)⟩
/-- the cell of the j-th function of the i-th part -/
def IsCell (pr : List (Int × W)) (ps : List (List Nat)) (dn : Nat → List Nat) : Nat → Nat → Int → Prop := fun i j x => x = bgn pr ps dn i + psz pr ((ps[i]?.getD []).take j)
theorem Fill.cells {pr : List (Int × W)} {ps : List (List Nat)} {dn : Nat → List Nat} {cs : List Int} (h : Fill pr.length ps (IsCell pr ps dn) ps.length 0 cs) : Cells pr ps dn cs := by
  obtain ⟨h1, h2⟩ := h.all
  refine ⟨h1, fun i p j f d1 d2 => ?_⟩
  obtain ⟨x, e, r⟩ := h2 i p j f d1 d2
  rw [e, r, d1]
  rfl
theorem Cells.uniq {pr : List (Int × W)} {ps : List (List Nat)} {dn : Nat → List Nat} {cs cs' : List Int} (hp : PInv pr.length ps) (h : Cells pr ps dn cs) (h' : Cells pr ps dn cs') : cs = cs' := by
  refine List.ext_getElem? fun f => ?_
  by_cases hf : f < pr.length
  · obtain ⟨i, p, j, e1, e2⟩ := hp.stands hf
    rw [h.2 i p j f e1 e2, h'.2 i p j f e1 e2]
  · rw [List.getElem?_eq_none (by rw [h.1]; omega), List.getElem?_eq_none (by rw [h'.1]; omega)]
theorem ixN_nat {n k : Nat} (h : k < n) : ixN n (k : Int) = some k := by
  unfold ixN
  rw [if_pos (by omega), if_pos (by omega), Int.toNat_natCast]
theorem inVnat (f : Nat) (p : List Nat) : inV (.int (f : Int)) (nV p) = decide (f ∈ p) := by
  unfold inV nV
  rw [List.any_map, Bool.eq_iff_iff, List.any_eq_true, decide_eq_true_iff]
  constructor
  · rintro ⟨y, hy, e⟩
    have e' : ((y : Nat) : Int) = (f : Int) := by simpa [eqV] using e
    obtain rfl : y = f := by omega
    exact hy
  · intro h
    exact ⟨f, h, by simp [eqV]⟩
theorem nVflat (p : List Nat) : (nV p).all flatV = true := by
  unfold nV
  rw [List.all_map, List.all_eq_true]
  intro x _
  rfl
/-- two values that are the same: flat ones, lists and tuples of such -/
def Al (H : Hp) : Nat → V → V → Prop
  | 0, _, _ => False
  | d + 1, x, y => (x = y ∧ flatV x = true) ∨ (∃ a b xs ys, x = .ref a ∧ y = .ref b ∧ H a = some (.lst xs) ∧ H b = some (.lst ys) ∧ xs.length ≤ 9000 ∧ Paired (Al H d) xs ys) ∨
    ∃ a b xs ys, x = .ref a ∧ y = .ref b ∧ H a = some (.tup xs) ∧ H b = some (.tup ys) ∧ xs.length ≤ 9000 ∧ Paired (Al H d) xs ys
theorem Al.keep {H H' : Hp} (s : Same H H') : ∀ {d : Nat} {x y : V}, Al H d x y → Al H' d x y
  | 0, _, _, h => h.elim
  | d + 1, _, _, .inl h => .inl h
  | d + 1, _, _, .inr (.inl ⟨a, b, xs, ys, e1, e2, h1, h2, l, h3⟩) => .inr (.inl ⟨a, b, xs, ys, e1, e2, s _ _ h1, s _ _ h2, l, L2.Paired.mapP h3 fun _ _ z => Al.keep s z⟩)
  | d + 1, _, _, .inr (.inr ⟨a, b, xs, ys, e1, e2, h1, h2, l, h3⟩) => .inr (.inr ⟨a, b, xs, ys, e1, e2, s _ _ h1, s _ _ h2, l, L2.Paired.mapP h3 fun _ _ z => Al.keep s z⟩)
theorem Al.flat {H : Hp} {d : Nat} : ∀ xs : List V, xs.all flatV = true → Paired (Al H (d + 1)) xs xs
  | [], _ => .nil
  | x :: xs, h => by
    rw [List.all_cons, Bool.and_eq_true] at h
    exact .cons (.inl ⟨rfl, h.1⟩) (Al.flat xs h.2)
theorem Al.ints {H : Hp} {d : Nat} (ns : List Int) : Paired (Al H (d + 1)) (ns.map V.int) (ns.map V.int) := Al.flat _ (by
  rw [List.all_map, List.all_eq_true]
  intro x _
  rfl)
def spAlike (d : Nat) : Sp := fun vs H Q _ => ∃ x y, vs = [x, y] ∧ Al H d x y ∧ ∀ H', Same H H' → Q (.bl true) H'
theorem cut_last (l : List Nat) (x : Nat) : cutV (nV (l ++ [x])) none (some (-1)) = nV l := by
  have e : (nV (l ++ [x])).length = l.length + 1 := by rw [nV_len, List.length_append]; rfl
  have z : HT.sIx (l.length + 1) (l.length + 1) (some (-1)) = l.length := by
    unfold HT.sIx
    simp
    try omega
  unfold cutV
  rw [e, HT.sIx_none, z, Nat.sub_zero, List.drop_zero, nV_app]
  exact List.take_left' (nV_len l)
/-- what was laid: the functions' cells and ways down, the farthest end -/
def LaidAt (H : Hp) (pr : List (Int × W)) (ps : List (List Nat)) (dn : Nat → List Nat) (v : V) : Prop := ∃ r fl vs m, v = .ref r ∧ H r = some (.tup [.ref fl, .int m]) ∧ H fl = some (.lst vs) ∧
  Fill pr.length ps (fun i j x => ∃ t dl, x = .ref t ∧ H t = some (.tup [.int (bgn pr ps dn i + psz pr ((ps[i]?.getD []).take j)), .ref dl]) ∧ H dl = some (.lst (nV (dn i ++ [i])))) ps.length 0 vs ∧ Far pr ps dn m
def spLaid : Sp := fun vs H Q _ => ∃ v t pr ps st dn, vs = [v, t] ∧ preT H v t pr ps st ∧ Dn pr.length ps st dn ∧ ∀ H' x, Same H H' → LaidAt H' pr ps dn x → Q x H'
/-- the same, with where the new lists stand -/
def spLaidN : Sp := fun vs H Q _ => ∃ v t pr ps st dn, vs = [v, t] ∧ preT H v t pr ps st ∧ Dn pr.length ps st dn ∧ ∀ H' r fl us m, Same H H' → H fl = none → H' r = some (.tup [.ref fl, .int m]) → H' fl = some (.lst us) →
  Fill pr.length ps (fun i j x => ∃ t dl, x = .ref t ∧ H' t = some (.tup [.int (bgn pr ps dn i + psz pr ((ps[i]?.getD []).take j)), .ref dl]) ∧ H' dl = some (.lst (nV (dn i ++ [i]))) ∧ H dl = none) ps.length 0 us → Far pr ps dn m → Q (.ref r) H'
theorem bgn_psz {pr : List (Int × W)} {ps : List (List Nat)} {dn : Nat → List Nat} {i : Nat} : (((dn i ++ [i]).map fun y => psz pr (ps[y]?.getD []))).sum = bgn pr ps dn i + psz pr (ps[i]?.getD []) := by
  unfold bgn
  rw [List.map_append, List.sum_append]
  simp
/-- what is laid for the j-th function of the i-th part, the ways down at Hb -/
def RL (Hb H : Hp) (pr : List (Int × W)) (ps : List (List Nat)) (dn : Nat → List Nat) (H0 : Hp) : Nat → Nat → V → Prop := fun i j x => ∃ t dl, x = .ref t ∧ H t = some (.tup [.int (bgn pr ps dn i + psz pr ((ps[i]?.getD []).take j)), .ref dl]) ∧ Hb dl = some (.lst (nV (dn i ++ [i]))) ∧ H0 dl = none
theorem RL.keep {Hb H H' : Hp} {pr : List (Int × W)} {ps : List (List Nat)} {dn : Nat → List Nat} {H0 : Hp} (k : Keep H H') : ∀ a b x, RL Hb H pr ps dn H0 a b x → RL Hb H' pr ps dn H0 a b x := fun _ _ _ ⟨t, dl, e, h1, h2, h3⟩ => ⟨t, dl, e, k _ _ h1, h2, h3⟩
theorem LsAt.snoc {H : Hp} {bs : List Addr} {qs : List (List Nat)} {b : Addr} {q : List Nat} (h : LsAt H bs qs) (e : H b = some (.lst (nV q))) : LsAt H (bs ++ [b]) (qs ++ [q]) := Paired.snoc h e
/-- a law over one list of at most 63 ints -/
def spLaw (K : PySem.W.Frag) : Sp := fun vs H Q _ => ∃ (a : Addr) (ns : List Int), vs = [.ref a] ∧ SqL K H a (ns.map V.int) ∧ ns.length ≤ 63 ∧ ∀ H', Q (.bl true) H'
end Ov
/-! ### runs as data -/
namespace Ov
open PySem PySem.Spec PyProof.Rows L2
/-- what a word comes to -/
inductive Wt where
  | num (z : Int) | way (f : Nat)
inductive Flt where
  | kind | deep | long
def Flt.name : Flt → Str
  | .kind => "kind" | .deep => "deep" | .long => "long"
/-- how far a run is -/
structure RS where
  said : List Int
  calls : Nat
  row : List Nat
  came : List (Nat × Wt)
  told : List (Nat × Wt)
inductive Res where
  | ok (v : Wt) (s : RS) | bad (f : Flt) (s : RS)
def Res.bind (r : Res) (k : Wt → RS → Res) : Res := match r with
  | .ok v s => k v s
  | .bad f s => .bad f s
def WtOk (n : Nat) : Wt → Prop
  | .num z => 0 ≤ z ∧ z < 1000
  | .way f => f < n
def evArms (ev : W → RS → Res) : List W → List Wt → RS → (List Wt → RS → Res) → Res
  | [], acc, s, k => k acc s
  | w :: ws, acc, s, k => (ev w s).bind fun v s => evArms ev ws (acc ++ [v]) s k
def fin (call : Nat → Wt → RS → Res) (o : Op) (g : Int) (vs : List Wt) (s : RS) : Res := match o, vs with
  | .thn, [_, v] => .ok v s
  | .say, [.num z] => .ok (.num z) { s with said := s.said ++ [z] }
  | .call, [v] => call g.toNat v s
  | .through, [.way f, u] => call f u s
  | .plus, [.num x, .num y] => .ok (.num ((x + y) % 1000)) s
  | .less, [.num x, .num y] => .ok (.num ((x - y) % 1000)) s
  | .times, [.num x, .num y] => .ok (.num ((x * y) % 1000)) s
  | _, _ => .bad .kind s
/-- a word's going: calls as given, the argument a, words at most d within one another -/
def evB (call : Nat → Wt → RS → Res) (a : Wt) : Nat → W → RS → Res
  | 0, _, s => .bad .kind s
  | d + 1, .mk o g as, s => match o with
    | .num => .ok (.num g) s
    | .way => .ok (.way g.toNat) s
    | .arg => .ok a s
    | .ife => match as with
      | [t, x, y] => (evB call a d t s).bind fun v s => match v with
        | .way _ => .bad .kind s
        | .num z => if z ≠ 0 then evB call a d x s else evB call a d y s
      | _ => .bad .kind s
    | o => evArms (evB call a d) as [] s (fin call o g)
/-- a call's going: n more within one another, who calls, who is called -/
def evC (pr : List (Int × W)) : Nat → Nat → Nat → Wt → RS → Res
  | 0, _, _, _, s => .bad .deep s
  | n + 1, c, f, a, s => if 200 ≤ s.calls then .bad .long s else
    match pr[f]? with
    | none => .bad .kind s
    | some p => (evB (evC pr n f) a 7 p.2 { s with calls := s.calls + 1, row := s.row ++ [f], came := s.came ++ [(f, a)] }).bind fun v s => .ok v { s with row := s.row ++ [c], told := s.told ++ [(f, v)] }
/-- a whole run -/
def evR (pr : List (Int × W)) (z : Int) : Res := match pr[0]? with
  | none => .bad .kind ⟨[], 0, [0], [], []⟩
  | some p => (evB (evC pr 12 0) (.num z) 7 p.2 ⟨[], 0, [0], [(0, .num z)], []⟩).bind fun v s => .ok v { s with told := s.told ++ [(0, v)] }
/-- a worth as the law has it -/
def LV (H : Hp) : V → Wt → Prop
  | v, .num z => v = .int z
  | v, .way f => ∃ t, v = .ref t ∧ H t = some (.tup [.str "way", .int (f : Int)])
theorem LV.keep {H H' : Hp} (k : Keep H H') : ∀ {v : V} {a : Wt}, LV H v a → LV H' v a
  | _, .num _, h => h
  | _, .way _, ⟨t, e, h⟩ => ⟨t, e, k _ _ h⟩
/-- a pair of a function and a worth -/
def EntAt (H : Hp) (v : V) (e : Nat × Wt) : Prop := ∃ t lv, v = .ref t ∧ H t = some (.tup [.int (e.1 : Int), lv]) ∧ LV H lv e.2
theorem EntAt.keep {H H' : Hp} (k : Keep H H') {v : V} {e : Nat × Wt} (h : EntAt H v e) : EntAt H' v e := by
  obtain ⟨t, lv, e1, h1, h2⟩ := h
  exact ⟨t, lv, e1, k _ _ h1, h2.keep k⟩
/-- the law's record of a run: the dict, its lists -/
structure RA where
  r : Addr
  sa : Addr
  tr : Addr
  ca : Addr
  to : Addr
  ah : Addr
  ba : Addr
def rK (x : RA) (pv : V) (calls : Int) (en : V) : List (Key × V) :=
  [(.inr "program", pv), (.inr "said", .ref x.sa), (.inr "calls", .int calls), (.inr "trace", .ref x.tr), (.inr "end", en), (.inr "hall", .non), (.inr "ahead", .ref x.ah), (.inr "back", .ref x.ba), (.inr "looks", .int 0), (.inr "came", .ref x.ca), (.inr "told", .ref x.to)]
structure RAt (H : Hp) (x : RA) (pv : V) (s : RS) (en : V) : Prop where
  r : H x.r = some (.dK (rK x pv (s.calls : Int) en))
  sa : H x.sa = some (.lst (s.said.map V.int))
  tr : H x.tr = some (.lst (nV s.row))
  ca : ∃ cs, H x.ca = some (.lst cs) ∧ Paired (EntAt H) cs s.came
  to : ∃ cs, H x.to = some (.lst cs) ∧ Paired (EntAt H) cs s.told
  ah : H x.ah = some (.lst [])
  ba : H x.ba = some (.lst [])
  nd : [x.sa, x.tr, x.ca, x.to, x.ah, x.ba].Nodup
theorem rK_end {x : RA} {pv : V} {c : Int} {en v : V} : putK (rK x pv c en) (.inr "end") v = rK x pv c v := by rfl
theorem rK_calls {x : RA} {pv : V} {c d : Int} {en : V} : putK (rK x pv c en) (.inr "calls") (.int d) = rK x pv d en := by rfl
/-- all but the record stays -/
def ButR (x : RA) (H H' : Hp) : Prop := ∀ a o, a ≠ x.r → a ≠ x.sa → a ≠ x.tr → a ≠ x.ca → a ≠ x.to → H a = some o → H' a = some o
theorem ButR.trans {x : RA} {H H1 H2 : Hp} (p : ButR x H H1) (q : ButR x H1 H2) : ButR x H H2 := fun a o n1 n2 n3 n4 n5 e => q a o n1 n2 n3 n4 n5 (p a o n1 n2 n3 n4 n5 e)
theorem ButR.same {x : RA} {H H' : Hp} (p : Same H H') : ButR x H H' := fun a o _ _ _ _ _ e => p a o e
theorem RAt.keepB {H H' H0 : Hp} {x : RA} {pv : V} {s : RS} {en : V} (h : RAt H x pv s en) (b : ButR x H H') : Keep H H' := fun a xs e => by
  obtain ⟨cs, h1, _⟩ := h.ca
  obtain ⟨ds, h2, _⟩ := h.to
  exact b a _ (ne_of e h.r (by intro z; cases z)) (ne_of e h.sa (by intro z; cases z)) (ne_of e h.tr (by intro z; cases z)) (ne_of e h1 (by intro z; cases z)) (ne_of e h2 (by intro z; cases z)) e
theorem RAt.same {H H' : Hp} {x : RA} {pv : V} {s : RS} {en : V} (h : RAt H x pv s en) (e : Same H H') : RAt H' x pv s en := by
  obtain ⟨h1, h2, h3, ⟨cs, h4, h5⟩, ⟨ds, h6, h7⟩, h8, h9, h10⟩ := h
  exact ⟨e _ _ h1, e _ _ h2, e _ _ h3, ⟨cs, e _ _ h4, L2.Paired.mapP h5 fun _ _ z => z.keep (Keep.same e)⟩, ⟨ds, e _ _ h6, L2.Paired.mapP h7 fun _ _ z => z.keep (Keep.same e)⟩, e _ _ h8, e _ _ h9, h10⟩
theorem RAt.new {H : Hp} {x : RA} {pv : V} {s : RS} {en : V} (h : RAt H x pv s en) {p : Addr} (hp : H p = none) : p ≠ x.r ∧ p ≠ x.sa ∧ p ≠ x.tr ∧ p ≠ x.ca ∧ p ≠ x.to := by
  obtain ⟨cs, h1, _⟩ := h.ca
  obtain ⟨ds, h2, _⟩ := h.to
  exact ⟨(ne_of_none h.r hp).symm, (ne_of_none h.sa hp).symm, (ne_of_none h.tr hp).symm, (ne_of_none h1 hp).symm, (ne_of_none h2 hp).symm⟩
theorem Keep.updD {H : Hp} {a : Addr} {ks : List (Key × V)} {o : HO} (e : H a = some (.dK ks)) : Keep H (upd H a o) := fun b zs h => by
  rw [upd_ne (ne_of h e (by intro z; cases z))]
  exact h
theorem RAt.ents {H H' : Hp} {cs : List V} {l : List (Nat × Wt)} (k : Keep H H') (h : Paired (EntAt H) cs l) : Paired (EntAt H') cs l := L2.Paired.mapP h fun _ _ z => z.keep k
/-- the dict is written -/
theorem RAt.updR {H : Hp} {x : RA} {pv : V} {s : RS} {en en' : V} {c : Nat} (h : RAt H x pv s en) : RAt (upd H x.r (.dK (rK x pv (c : Int) en'))) x pv { s with calls := c } en' := by
  have k := Keep.updD (o := .dK (rK x pv (c : Int) en')) h.r
  obtain ⟨h1, h2, h3, ⟨cs, h4, h5⟩, ⟨ds, h6, h7⟩, h8, h9, h10⟩ := h
  have ne : ∀ {a : Addr} {l : List V}, H a = some (.lst l) → a ≠ x.r := fun e => ne_of e h1 (by intro z; cases z)
  exact ⟨upd_same, by rw [upd_ne (ne h2)]; exact h2, by rw [upd_ne (ne h3)]; exact h3, ⟨cs, by rw [upd_ne (ne h4)]; exact h4, RAt.ents k h5⟩, ⟨ds, by rw [upd_ne (ne h6)]; exact h6, RAt.ents k h7⟩, by rw [upd_ne (ne h8)]; exact h8, by rw [upd_ne (ne h9)]; exact h9, h10⟩
theorem RAt.butR {H : Hp} {x : RA} {o : HO} : ButR x H (upd H x.r o) := fun a u n _ _ _ _ e => by rw [upd_ne n]; exact e
theorem RAt.butS {H : Hp} {x : RA} {o : HO} : ButR x H (upd H x.sa o) := fun a u _ n _ _ _ e => by rw [upd_ne n]; exact e
theorem RAt.butT {H : Hp} {x : RA} {o : HO} : ButR x H (upd H x.tr o) := fun a u _ _ n _ _ e => by rw [upd_ne n]; exact e
theorem RAt.butC {H : Hp} {x : RA} {o : HO} : ButR x H (upd H x.ca o) := fun a u _ _ _ n _ e => by rw [upd_ne n]; exact e
theorem RAt.butO {H : Hp} {x : RA} {o : HO} : ButR x H (upd H x.to o) := fun a u _ _ _ _ n e => by rw [upd_ne n]; exact e
theorem RAt.nds {H : Hp} {x : RA} {pv : V} {s : RS} {en : V} (h : RAt H x pv s en) : (x.sa ≠ x.tr ∧ x.sa ≠ x.ca ∧ x.sa ≠ x.to ∧ x.sa ≠ x.ah ∧ x.sa ≠ x.ba) ∧ (x.tr ≠ x.ca ∧ x.tr ≠ x.to ∧ x.tr ≠ x.ah ∧ x.tr ≠ x.ba) ∧ (x.ca ≠ x.to ∧ x.ca ≠ x.ah ∧ x.ca ≠ x.ba) ∧ (x.to ≠ x.ah ∧ x.to ≠ x.ba) := by
  have := h.nd
  simp only [List.nodup_cons, List.mem_cons, List.not_mem_nil, or_false, not_or] at this
  obtain ⟨⟨a1, a2, a3, a4, a5⟩, ⟨b1, b2, b3, b4⟩, ⟨c1, c2, c3⟩, ⟨d1, d2⟩, _⟩ := this
  exact ⟨⟨a1, a2, a3, a4, a5⟩, ⟨b1, b2, b3, b4⟩, ⟨c1, c2, c3⟩, d1, d2⟩
theorem RAt.updS {H : Hp} {x : RA} {pv : V} {s : RS} {en : V} {z : Int} (h : RAt H x pv s en) : RAt (upd H x.sa (.lst (s.said.map V.int ++ [.int z]))) x pv { s with said := s.said ++ [z] } en := by
  have k := Keep.updL (ys := s.said.map V.int ++ [.int z]) h.sa
  obtain ⟨⟨a1, a2, a3, a4, a5⟩, ⟨b1, b2, b3, b4⟩, ⟨c1, c2, c3⟩, d1, d2⟩ := h.nds
  obtain ⟨h1, h2, h3, ⟨cs, h4, h5⟩, ⟨ds, h6, h7⟩, h8, h9, h10⟩ := h
  have ne : x.r ≠ x.sa := ne_of h1 h2 (by intro z; cases z)
  exact ⟨by rw [upd_ne ne]; exact h1, by rw [upd_same, List.map_append]; rfl, by rw [upd_ne a1.symm]; exact h3, ⟨cs, by rw [upd_ne a2.symm]; exact h4, RAt.ents k h5⟩, ⟨ds, by rw [upd_ne a3.symm]; exact h6, RAt.ents k h7⟩, by rw [upd_ne a4.symm]; exact h8, by rw [upd_ne a5.symm]; exact h9, h10⟩
theorem RAt.updT {H : Hp} {x : RA} {pv : V} {s : RS} {en : V} {f : Nat} (h : RAt H x pv s en) : RAt (upd H x.tr (.lst (nV s.row ++ [.int (f : Int)]))) x pv { s with row := s.row ++ [f] } en := by
  have k := Keep.updL (ys := nV s.row ++ [.int (f : Int)]) h.tr
  obtain ⟨⟨a1, a2, a3, a4, a5⟩, ⟨b1, b2, b3, b4⟩, ⟨c1, c2, c3⟩, d1, d2⟩ := h.nds
  obtain ⟨h1, h2, h3, ⟨cs, h4, h5⟩, ⟨ds, h6, h7⟩, h8, h9, h10⟩ := h
  have ne : x.r ≠ x.tr := ne_of h1 h3 (by intro z; cases z)
  exact ⟨by rw [upd_ne ne]; exact h1, by rw [upd_ne a1]; exact h2, by rw [upd_same, nV_app], ⟨cs, by rw [upd_ne b1.symm]; exact h4, RAt.ents k h5⟩, ⟨ds, by rw [upd_ne b2.symm]; exact h6, RAt.ents k h7⟩, by rw [upd_ne b3.symm]; exact h8, by rw [upd_ne b4.symm]; exact h9, h10⟩
theorem RAt.updC {H : Hp} {x : RA} {pv v : V} {s : RS} {en : V} {cs : List V} {e : Nat × Wt} (h : RAt H x pv s en) (hc : H x.ca = some (.lst cs)) (hv : EntAt H v e) : RAt (upd H x.ca (.lst (cs ++ [v]))) x pv { s with came := s.came ++ [e] } en := by
  have k := Keep.updL (ys := cs ++ [v]) hc
  obtain ⟨⟨a1, a2, a3, a4, a5⟩, ⟨b1, b2, b3, b4⟩, ⟨c1, c2, c3⟩, d1, d2⟩ := h.nds
  obtain ⟨h1, h2, h3, ⟨cs', h4, h5⟩, ⟨ds, h6, h7⟩, h8, h9, h10⟩ := h
  have ne : x.r ≠ x.ca := ne_of h1 h4 (by intro z; cases z)
  obtain rfl : cs' = cs := by
    have := h4.symm.trans hc
    cases this
    rfl
  exact ⟨by rw [upd_ne ne]; exact h1, by rw [upd_ne a2]; exact h2, by rw [upd_ne b1]; exact h3, ⟨cs' ++ [v], upd_same, PySem.Paired.snoc (RAt.ents k h5) (hv.keep k)⟩, ⟨ds, by rw [upd_ne c1.symm]; exact h6, RAt.ents k h7⟩, by rw [upd_ne c2.symm]; exact h8, by rw [upd_ne c3.symm]; exact h9, h10⟩
theorem RAt.updO {H : Hp} {x : RA} {pv v : V} {s : RS} {en : V} {cs : List V} {e : Nat × Wt} (h : RAt H x pv s en) (hc : H x.to = some (.lst cs)) (hv : EntAt H v e) : RAt (upd H x.to (.lst (cs ++ [v]))) x pv { s with told := s.told ++ [e] } en := by
  have k := Keep.updL (ys := cs ++ [v]) hc
  obtain ⟨⟨a1, a2, a3, a4, a5⟩, ⟨b1, b2, b3, b4⟩, ⟨c1, c2, c3⟩, d1, d2⟩ := h.nds
  obtain ⟨h1, h2, h3, ⟨cs', h4, h5⟩, ⟨ds, h6, h7⟩, h8, h9, h10⟩ := h
  have ne : x.r ≠ x.to := ne_of h1 h6 (by intro z; cases z)
  obtain rfl : ds = cs := by
    have := h6.symm.trans hc
    cases this
    rfl
  exact ⟨by rw [upd_ne ne]; exact h1, by rw [upd_ne a3]; exact h2, by rw [upd_ne b2]; exact h3, ⟨cs', by rw [upd_ne c1]; exact h4, RAt.ents k h5⟩, ⟨ds ++ [v], upd_same, PySem.Paired.snoc (RAt.ents k h7) (hv.keep k)⟩, by rw [upd_ne d1.symm]; exact h8, by rw [upd_ne d2.symm]; exact h9, h10⟩
theorem pg_lstK {X : Cx} {K : PySem.W.Frag} {es : List Expr} {k : Nat} {pos : Pos} {t : TGs} {n : Nat} (hK : X.K = K) (hc : X.calm = true) (h : PGs X es t)
    (hn : (assignEach es X.env).length = n := by rfl) (hst : (assignEach es X.env).findIdx? (·.1) = none := by rfl) : PG X (.Tuple es k pos) (gLst K n t) := by
  subst hK
  exact pg_lst hc h hn hst
/-- how much may still be laid down -/
def RS.phi (s : RS) : Nat := s.said.length + s.row.length + s.came.length + s.told.length + 44 * (200 - s.calls)
def Good (n b : Nat) : Res → Prop
  | .ok v s => WtOk n v ∧ s.phi ≤ b
  | .bad _ s => s.phi ≤ b
theorem Good.le {n b c : Nat} (le : b ≤ c) : ∀ {r : Res}, Good n b r → Good n c r
  | .ok _ _, h => ⟨h.1, Nat.le_trans h.2 le⟩
  | .bad _ _, h => Nat.le_trans (show _ ≤ b from h) le
theorem Good.bind {n b c : Nat} (le : b ≤ c) {k : Wt → RS → Res} : ∀ {r : Res}, Good n b r → (∀ v s, WtOk n v → s.phi ≤ b → Good n c (k v s)) → Good n c (r.bind k)
  | .ok v s, h, hk => hk v s h.1 h.2
  | .bad _ _, h, _ => Nat.le_trans (show _ ≤ b from h) le
theorem evArms_good {n : Nat} {ev : W → RS → Res} {k : List Wt → RS → Res} {c : Nat} : ∀ (ws : List W) (acc : List Wt) (s : RS), (∀ w ∈ ws, ∀ s, Good n (s.phi + w.size) (ev w s)) → s.phi + W.sizes ws ≤ c → (∀ v ∈ acc, WtOk n v) →
    (∀ vs s, vs.length = acc.length + ws.length → (∀ v ∈ vs, WtOk n v) → s.phi ≤ c → Good n (c + 1) (k vs s)) → Good n (c + 1) (evArms ev ws acc s k)
  | [], acc, s, _, hs, ha, hk => by
    rw [W.sizes] at hs
    exact hk acc s rfl ha hs
  | w :: ws, acc, s, he, hs, ha, hk => by
    rw [W.sizes] at hs
    refine Good.bind (b := s.phi + w.size) (by omega) (he w List.mem_cons_self s) fun v s' hv hs' => ?_
    refine evArms_good ws (acc ++ [v]) s' (fun u hu => he u (List.mem_cons_of_mem _ hu)) (by omega) (fun u hu => ?_) fun vs s2 hl h1 h2 => hk vs s2 (by rw [hl, List.length_append, List.length_singleton, List.length_cons]; omega) h1 h2
    rcases List.mem_append.mp hu with h | h
    · exact ha u h
    · rw [List.mem_singleton.mp h]
      exact hv
theorem fin_good {n : Nat} {call : Nat → Wt → RS → Res} (hc : ∀ f u s, f < n → WtOk n u → Good n s.phi (call f u s)) {o : Op} {g : Int} (hg : o.fits n g) {vs : List Wt} {s : RS} {c : Nat} (hv : ∀ v ∈ vs, WtOk n v) (hs : s.phi ≤ c) : Good n (c + 1) (fin call o g vs s) := by
  have md : ∀ z : Int, WtOk n (.num (z % 1000)) := fun z => ⟨Int.emod_nonneg _ (by decide), Int.emod_lt_of_pos _ (by decide)⟩
  unfold fin
  split
  · exact ⟨hv _ (by simp), by omega⟩
  · refine ⟨hv _ (by simp), ?_⟩
    unfold RS.phi at hs ⊢
    simp only [List.length_append, List.length_singleton]
    omega
  · have h := hg
    exact Good.le (by omega) (hc _ _ _ (by have : 0 ≤ g ∧ g < n := h; omega) (hv _ (by simp)))
  · rename_i f u
    exact Good.le (by omega) (hc _ _ _ (hv (.way f) (by simp)) (hv _ (by simp)))
  · exact ⟨md _, by omega⟩
  · exact ⟨md _, by omega⟩
  · exact ⟨md _, by omega⟩
  · show s.phi ≤ c + 1
    omega
theorem evB_good {n : Nat} {call : Nat → Wt → RS → Res} (hc : ∀ f u s, f < n → WtOk n u → Good n s.phi (call f u s)) {a : Wt} (ha : WtOk n a) : ∀ (d : Nat) (w : W) (s : RS), WOk n d w → Good n (s.phi + w.size) (evB call a d w s) := by
  intro d
  induction d with
  | zero => exact fun w s h => absurd h wok0
  | succ d ih =>
    intro w s h
    cases h with
    | @mk _ o g as h1 h2 h3 =>
    rw [W.size_mk]
    have gen : Good n (s.phi + (1 + W.sizes as)) (evArms (evB call a d) as [] s (fin call o g)) := by
      rw [show s.phi + (1 + W.sizes as) = s.phi + W.sizes as + 1 by omega]
      exact evArms_good as [] s (fun w hw s => ih w s (h3 w hw)) (Nat.le_refl _) (fun _ z => nomatch z) fun vs s2 _ h4 h5 => fin_good hc h2 h4 h5
    cases o with
    | num => exact ⟨⟨h2.1, by have : 0 ≤ g ∧ g ≤ 99 := h2; omega⟩, by omega⟩
    | way => exact ⟨(by have : 0 ≤ g ∧ g < n := h2; show g.toNat < n; omega), by omega⟩
    | arg => exact ⟨ha, by omega⟩
    | ife =>
      match as, h1, h3 with
      | [t, x, y], _, h3 =>
        simp only [W.sizes]
        refine Good.bind (b := s.phi + t.size) (by omega) (ih t s (h3 t (by simp))) fun v s' hv hs' => ?_
        cases v with
        | way f => show s'.phi ≤ _; omega
        | num z =>
          show Good n _ (if z ≠ 0 then _ else _)
          split
          · exact Good.le (by omega) (ih x s' (h3 x (by simp)))
          · exact Good.le (by omega) (ih y s' (h3 y (by simp)))
    | plus => exact gen
    | less => exact gen
    | times => exact gen
    | thn => exact gen
    | say => exact gen
    | call => exact gen
    | through => exact gen
theorem evC_good {pr : List (Int × W)} (hp : PrOk pr) : ∀ (n c f : Nat) (u : Wt) (s : RS), f < pr.length → WtOk pr.length u → Good pr.length s.phi (evC pr n c f u s)
  | 0, _, _, _, s, _, _ => Nat.le_refl _
  | n + 1, c, f, u, s, hf, hu => by
    rw [evC]
    by_cases h : 200 ≤ s.calls
    · rw [if_pos h]
      exact Nat.le_refl _
    · rw [if_neg h, List.getElem?_eq_getElem hf]
      have hb := hp.f _ (List.getElem_mem hf)
      have g := evB_good (n := pr.length) (call := evC pr n f) (a := u) (fun f' u' s' h1 h2 => evC_good hp n f f' u' s' h1 h2) hu 7 (pr[f]).2 { s with calls := s.calls + 1, row := s.row ++ [f], came := s.came ++ [(f, u)] } hb.2.2.1
      have e : ({ s with calls := s.calls + 1, row := s.row ++ [f], came := s.came ++ [(f, u)] } : RS).phi + (pr[f]).2.size ≤ s.phi - 2 ∧ 2 ≤ s.phi := by
        have := hb.2.2.2
        unfold RS.phi
        simp only [List.length_append, List.length_singleton]
        omega
      refine Good.bind (b := s.phi - 2) (by omega) (Good.le e.1 g) fun v s' hv hs' => ⟨hv, ?_⟩
      unfold RS.phi at hs' ⊢
      simp only [List.length_append, List.length_singleton]
      unfold RS.phi at e
      omega
/-- the fault stands at v -/
def FltAt (H : Hp) (v : V) (f : Flt) : Prop := ∃ t, v = .ref t ∧ H t = some (.tup [.str "fault", .str f.name])
def most : Nat := 1000000
def spSeen : Sp := fun vs H Q _ => ∃ x pv s f b, vs = [.ref x.r, f, b] ∧ RAt H x pv s .non ∧ Q .non H
/-- an answer: what it comes to, or a fault -/
def Ans (x : RA) (pv : V) (H : Hp) (Q : VK) (r : Res) : Prop := match r with
  | .ok b s => ∀ H' y, ButR x H H' → RAt H' x pv s .non → LV H' y b → Q y H'
  | .bad f s => ∀ H' t, ButR x H H' → RAt H' x pv s (.ref t) → H' t = some (.tup [.str "fault", .str f.name]) → Q .non H'
theorem Ans.but {x : RA} {pv : V} {H H1 : Hp} {Q : VK} (b : ButR x H H1) : ∀ {r : Res}, Ans x pv H Q r → Ans x pv H1 Q r
  | .ok _ _, h => fun H' y b' => h H' y (b.trans b')
  | .bad _ _, h => fun H' t b' => h H' t (b.trans b')
def spCome (pr : List (Int × W)) (n d : Nat) : Sp := fun vs H Q _ => ∃ (x : RA) (pv : V) (s : RS) (v lv : V) (w : W) (a : Wt) (fn : Nat) (pl dp : Int), vs = [.ref x.r, .int (fn : Int), .int pl, v, lv, .int dp] ∧ RAt H x pv s .non ∧ PrAt H pv pr ∧ PrOk pr ∧
  WAt H v w ∧ WOk pr.length d w ∧ LV H lv a ∧ WtOk pr.length a ∧ fn < pr.length ∧ s.phi + w.size ≤ most ∧ dp + (n : Int) = 12 ∧ Ans x pv H Q (evB (evC pr n fn) a d w s)
def spCalled (pr : List (Int × W)) (n : Nat) : Sp := fun vs H Q _ => ∃ (x : RA) (pv : V) (s : RS) (at_ b fl : Addr) (o : Op) (g : Int) (us ls : List V) (acc : List Wt) (fn : Nat) (pl dp : Int), vs = [.ref x.r, .ref at_, .ref b, .ref fl, .int dp] ∧ RAt H x pv s .non ∧ PrAt H pv pr ∧ PrOk pr ∧
  H at_ = some (.tup [.int (fn : Int), .int pl]) ∧ WordAt H b o g us ∧ (o = .call ∨ o = .through) ∧ o.fits pr.length g ∧ H fl = some (.lst ls) ∧ Paired (LV H) ls acc ∧ acc.length = o.arity ∧ (∀ u ∈ acc, WtOk pr.length u) ∧ fn < pr.length ∧ s.phi ≤ most ∧ dp + (n : Int) = 12 ∧
  fl ≠ x.sa ∧ fl ≠ x.tr ∧ fl ≠ x.ca ∧ fl ≠ x.to ∧ Ans x pv H Q (fin (evC pr n fn) o g acc s)
theorem putEnd {H : Hp} {x : RA} {pv : V} {c : Int} {en v : V} (h : H x.r = some (.dK (rK x pv c en))) : DPut H x.r (.str "end") v (upd H x.r (.dK (rK x pv c v))) := by
  rw [← rK_end (en := en)]
  exact DPut.k (k := Sum.inr "end") h (by show 11 < sizeLine; decide)
theorem putCalls {H : Hp} {x : RA} {pv : V} {c d : Int} {en : V} (h : H x.r = some (.dK (rK x pv c en))) : DPut H x.r (.str "calls") (.int d) (upd H x.r (.dK (rK x pv d en))) := by
  rw [← rK_calls (c := c)]
  exact DPut.k (k := Sum.inr "calls") h (by show 11 < sizeLine; decide)
theorem ButR.keepL {x : RA} {H H' : Hp} (b : ButR x H H') {r : List (Key × V)} (hr : H x.r = some (.dK r)) {l : Addr} {ls : List V} (h : H l = some (.lst ls)) (n1 : l ≠ x.sa) (n2 : l ≠ x.tr) (n3 : l ≠ x.ca) (n4 : l ≠ x.to) : H' l = some (.lst ls) :=
  b l _ (ne_of h hr (by intro z; cases z)) n1 n2 n3 n4 h
theorem big {n : Nat} {s : RS} (h : s.phi ≤ most) (le : n ≤ s.phi + 1) : n < sizeLine := Nat.lt_of_le_of_lt (Nat.le_trans le (Nat.succ_le_succ h)) (by decide)
theorem hu65 {k : Nat} {A : Around} (hr : Room k A) : A.units + 65 < cLine := by
  have := hr.un
  omega
theorem pairShaped (a b : Int) : SeqAt.shaped (.tuple [.int a, .int b]) = true := by
  simp [SeqAt.shaped, PyData.depth, PyData.depthAll, PyData.canLay0, PyData.canLayAll0]
theorem two_of {α β : Type} {R : α → β → Prop} {ls : List α} {acc : List β} (h : Paired R ls acc) (e : acc.length = 2) : ∃ x y a b, ls = [x, y] ∧ acc = [a, b] ∧ R x a ∧ R y b := by
  match acc, h, e with
  | [a, b], .cons h1 (.cons h2 .nil), _ => exact ⟨_, _, a, b, rfl, rfl, h1, h2⟩
theorem one_of {α β : Type} {R : α → β → Prop} {ls : List α} {acc : List β} (h : Paired R ls acc) (e : acc.length = 1) : ∃ x a, ls = [x] ∧ acc = [a] ∧ R x a := by
  match acc, h, e with
  | [a], .cons h1 .nil, _ => exact ⟨_, a, rfl, rfl, h1⟩
theorem evB_gen {call : Nat → Wt → RS → Res} {a : Wt} {d : Nat} {o : Op} {g : Int} {as : List W} {s : RS} (n1 : o ≠ .num) (n2 : o ≠ .way) (n3 : o ≠ .arg) (n4 : o ≠ .ife) : evB call a (d + 1) (.mk o g as) s = evArms (evB call a d) as [] s (fin call o g) := by
  cases o <;> first | rfl | contradiction
theorem RAt.fresh {H0 H : Hp} {x : RA} {pv : V} {s0 s : RS} {en0 en : V} {F : Addr} {zs zs' : List V} (h0 : RAt H0 x pv s0 en0) (hF : H0 F = none) (h : RAt H x pv s en) (e : H F = some (.lst zs')) : RAt (upd H F (.lst zs)) x pv s en := by
  have k := Keep.updL (ys := zs) e
  obtain ⟨cs0, hc0, _⟩ := h0.ca
  obtain ⟨ds0, hd0, _⟩ := h0.to
  have ne : ∀ {a : Addr} {o : HO}, H0 a = some o → a ≠ F := fun z => ne_of_none z hF
  obtain ⟨h1, h2, h3, ⟨cs, h4, h5⟩, ⟨ds, h6, h7⟩, h8, h9, h10⟩ := h
  exact ⟨by rw [upd_ne (ne h0.r)]; exact h1, by rw [upd_ne (ne h0.sa)]; exact h2, by rw [upd_ne (ne h0.tr)]; exact h3, ⟨cs, by rw [upd_ne (ne hc0)]; exact h4, RAt.ents k h5⟩, ⟨ds, by rw [upd_ne (ne hd0)]; exact h6, RAt.ents k h7⟩, by rw [upd_ne (ne h0.ah)]; exact h8, by rw [upd_ne (ne h0.ba)]; exact h9, h10⟩
theorem ButR.updn {x : RA} {H H' : Hp} {F : Addr} {o : HO} (b : ButR x H H') (hF : H F = none) : ButR x H (upd H' F o) := fun a u n1 n2 n3 n4 n5 e => by
  rw [upd_ne (ne_of_none e hF)]
  exact b a u n1 n2 n3 n4 n5 e
def isRef : V → Bool
  | .ref _ => true
  | _ => false
theorem LV.ref {H : Hp} {v : V} {a : Wt} (h : LV H v a) : (∃ z, a = .num z ∧ v = .int z) ∨ ∃ f t, a = .way f ∧ v = .ref t ∧ H t = some (.tup [.str "way", .int (f : Int)]) := by
  cases a with
  | num z => exact .inl ⟨z, rfl, h⟩
  | way f =>
    obtain ⟨t, e, h⟩ := h
    exact .inr ⟨f, t, rfl, e, h⟩
theorem way_dp {K : PySem.W.Frag} {H : Hp} {f : Nat} {t : Addr} (h : H t = some (.tup [.str "way", .int (f : Int)])) : Dp K H (.ref t) (.tuple [.str "way", .int (f : Int)]) := .tup (SqT.of h) (.cons (.str _) (.cons (.int _) .nil))
theorem ways_dp {K : PySem.W.Frag} {H : Hp} {ls : List V} {acc : List Wt} (h : Paired (LV H) ls acc) (le : acc.length ≤ 2) : ∃ ds, DpAll K H (ls.filter isRef) ds ∧ SeqAt.shaped (.list ds) = true ∧ ((PyData.eqv (.list ds) (.list []) = true ∧ ∀ v ∈ acc, ∃ z, v = .num z) ∨ (PyData.eqv (.list ds) (.list []) = false ∧ ∃ f, .way f ∈ acc)) := by
  have sh : SeqAt.shaped (.list []) = true := intsShaped []
  have e0 : PyData.eqv (.list []) (.list []) = true := eqvNil []
  have so : PyData.strOk (Str.ofString "way") = true := by decide +kernel
  match ls, acc, h, le with
  | _, _, .nil, _ => exact ⟨[], .nil, sh, .inl ⟨e0, fun _ z => nomatch z⟩⟩
  | _, _, .cons h1 .nil, _ =>
    rcases h1.ref with ⟨z, rfl, rfl⟩ | ⟨f, t, rfl, rfl, ht⟩
    · exact ⟨[], .nil, sh, .inl ⟨e0, by simp⟩⟩
    · exact ⟨_, .cons (way_dp ht) .nil, by simp [SeqAt.shaped, PyData.depth, PyData.depthAll, PyData.canLay0, PyData.canLayAll0, so], .inr ⟨by simp [PyData.eqv, PyData.eqvAll], f, by simp⟩⟩
  | _, _, .cons h1 (.cons h2 .nil), _ =>
    rcases h1.ref with ⟨z, rfl, rfl⟩ | ⟨f, t, rfl, rfl, ht⟩ <;> rcases h2.ref with ⟨z', rfl, rfl⟩ | ⟨f', t', rfl, rfl, ht'⟩
    · exact ⟨[], .nil, sh, .inl ⟨e0, by simp⟩⟩
    · exact ⟨_, .cons (way_dp ht') .nil, by simp [SeqAt.shaped, PyData.depth, PyData.depthAll, PyData.canLay0, PyData.canLayAll0, so], .inr ⟨by simp [PyData.eqv, PyData.eqvAll], f', by simp⟩⟩
    · exact ⟨_, .cons (way_dp ht) .nil, by simp [SeqAt.shaped, PyData.depth, PyData.depthAll, PyData.canLay0, PyData.canLayAll0, so], .inr ⟨by simp [PyData.eqv, PyData.eqvAll], f, by simp⟩⟩
    · exact ⟨_, .cons (way_dp ht) (.cons (way_dp ht') .nil), by simp [SeqAt.shaped, PyData.depth, PyData.depthAll, PyData.canLay0, PyData.canLayAll0, so], .inr ⟨by simp [PyData.eqv, PyData.eqvAll], f, by simp⟩⟩
  | _, _, .cons _ (.cons _ (.cons _ _)), le =>
    simp only [List.length_cons] at le
    omega
theorem fin_bad {call : Nat → Wt → RS → Res} {o : Op} {g : Int} {acc : List Wt} {s : RS} {f : Nat} (h : Wt.way f ∈ acc) (l : acc.length ≤ 2) (ho : o = .say ∨ o = .plus ∨ o = .less ∨ o = .times) : fin call o g acc s = .bad .kind s := by
  match acc, l with
  | [], _ => cases h
  | [a], _ =>
    obtain rfl : a = .way f := (List.mem_singleton.mp h).symm
    rcases ho with rfl | rfl | rfl | rfl <;> rfl
  | [a, c], _ =>
    have h' : a = .way f ∨ c = .way f := by
      rcases List.mem_cons.mp h with e | e
      · exact .inl e.symm
      · exact .inr (List.mem_singleton.mp e).symm
    rcases h' with rfl | rfl
    · rcases ho with rfl | rfl | rfl | rfl <;> rfl
    · rcases ho with rfl | rfl | rfl | rfl <;> cases a <;> rfl
  | _ :: _ :: _ :: _, l =>
    simp only [List.length_cons] at l
    omega
theorem Res.bind_ok (r : Res) : r.bind .ok = r := by cases r <;> rfl
def ifK (ex ey : RS → Res) : Wt → RS → Res := fun v s => match v with
  | .way _ => .bad .kind s
  | .num z => if z ≠ 0 then ex s else ey s
theorem evB_if {call : Nat → Wt → RS → Res} {a : Wt} {d : Nat} {g : Int} {wt wx wy : W} {s : RS} : evB call a (d + 1) (.mk .ife g [wt, wx, wy]) s = (evB call a d wt s).bind (ifK (evB call a d wx) (evB call a d wy)) := rfl
theorem three_of {α : Type} {l : List α} (h : l.length = 3) : ∃ a b c, l = [a, b, c] := by
  match l, h with
  | [a, b, c], _ => exact ⟨a, b, c, rfl⟩
end Ov
/-! ### d.update(e), of dicts -/
namespace Ov
open PySem PySem.Spec PyProof.Rows L2
section
variable {X : Cx} {pins : List (Addr × Obj)} {σ : L2.St} {H : Hp} {s : Shared} {a b : Addr} {kvs more : List (Key × V)} {A : Around} {E : Value → Shared → Prop}
theorem d_update {Q : Value → Shared → Prop} (I : Inv X pins σ H s) (ea : H a = some (.dK kvs)) (eb : H b = some (.dK more)) (ne : a ≠ b) (hz : kvs.length + more.length ≤ 1000) (h : ∀ s', Inv X pins σ (upd H a (.dK (mergeK kvs more))) s' → Q .none s') :
    wpAny (model X.prog X.w) A (call (.builtin "dict.update") [.ref a, .ref b]) Q E s := by
  obtain ⟨z, hd, vs, rel, dd⟩ := dk_of I.hok ea
  obtain ⟨z', hd', ws, rel', dd'⟩ := dk_of I.hok eb
  have l1 := rel.length
  have l2 := rel'.length
  refine call_meetsIn PySem.F.slot_dict_update dd.typeIs PySem.F.entry_dict_update (PySem.F.args_dict_update_2 _ _) (meets_dict_update (mixKind X.prog X.w) a b ne hd') ⟨vs, ws, dd, dd', Nat.le_trans (by omega) (sml _ hz), fun h' d1 d2 hs => h _ ?_⟩
  have he : ∃ q, h'.get? a = some q := let ⟨q, _, _, hq, _⟩ := d1; ⟨q, hq⟩
  have lk := KV.merge rel' rel
  have ll : (mergeK kvs more).length ≤ sizeLine := by
    rw [lk.length]
    exact Nat.le_trans (merged_length_le vs ws) (Nat.le_trans (by omega) (sml _ hz))
  exact d_write (t' := s.toks) I (by rw [ea]; exact True.intro) hs he (dk_new ll hd lk d1)
end
theorem pe_fldK {X : Cx} {K : PySem.W.Frag} {e : Expr} {f : Str} {pos : Pos} {ta : TE} (hK : X.K = K) (h : PE X e ta) (hb : attributeBase e f X.env (eval e X.env) = eval e X.env) : PE X (.Attribute e f pos) (tFld K ta f) := by
  subst hK
  exact pe_fld h hb
def rDUpd : V → List V → Hp → VK → Prop := fun x vs H Q => ∃ (a b : Addr) (kvs more : List (Key × V)), x = .ref a ∧ vs = [.ref b] ∧ H a = some (.dK kvs) ∧ H b = some (.dK more) ∧ a ≠ b ∧ kvs.length + more.length ≤ 1000 ∧ Q .non (upd H a (.dK (mergeK kvs more)))
theorem mt_dupd {X : Cx} : MtR X "dict.update" rDUpd := by
  intro pins s σ H x vs v us Q I rx rv h
  obtain ⟨a, b, kvs, more, rfl, rfl, ea, eb, ne, hz, q⟩ := h
  obtain rfl : v = Value.ref a := rx
  cases rv with
  | cons r1 rest =>
    cases rest
    cases (show _ = Value.ref b from r1)
    exact d_update I ea eb ne hz fun s' I' => ⟨.non, _, I', rfl, q⟩
/-- a new record's places -/
structure RNew (H : Hp) (x : RA) : Prop where
  r : H x.r = none
  sa : H x.sa = none
  tr : H x.tr = none
  ca : H x.ca = none
  to : H x.to = none
theorem ButR.sameN {H0 H H' : Hp} {x : RA} (n : RNew H0 x) (s : Same H0 H) (b : ButR x H H') : Same H0 H' := fun a o e => b a o (ne_of_none e n.r) (ne_of_none e n.sa) (ne_of_none e n.tr) (ne_of_none e n.ca) (ne_of_none e n.to) (s a o e)
def rs0 : RS := ⟨[], 0, [0], [], []⟩
def spBegun : Sp := fun vs H Q _ => ∃ (pv : V) (ah ba : Addr), vs = [pv, .non, .ref ah, .ref ba] ∧ H ah = some (.lst []) ∧ H ba = some (.lst []) ∧ ah ≠ ba ∧ ∀ H' x, Same H H' → RNew H x → RAt H' x pv rs0 .non → x.ah = ah → x.ba = ba → Q (.ref x.r) H'
/-- how a run ends, told -/
def endD : Res → Str × V
  | .ok (.num z) _ => ("number", .int z)
  | .ok (.way f) _ => ("way", .int (f : Int))
  | .bad f _ => ("fault", .str f.name)
def Res.st : Res → RS
  | .ok _ s => s
  | .bad _ s => s
def spLawRun (pr : List (Int × W)) : Sp := fun vs H Q _ => ∃ (pv : V) (z : Int) (ah ba : Addr), vs = [pv, .int z, .non, .ref ah, .ref ba] ∧ PrAt H pv pr ∧ PrOk pr ∧ 0 ≤ z ∧ z < 1000 ∧ H ah = some (.lst []) ∧ H ba = some (.lst []) ∧ ah ≠ ba ∧
  ∀ H' x t, Same H H' → RAt H' x pv (evR pr z).st (.ref t) → H' t = some (.tup [.str (endD (evR pr z)).1, (endD (evR pr z)).2]) → Q (.ref x.r) H'
def rk1 (pv : V) (sa tr : Addr) : List (Key × V) := [(.inr "program", pv), (.inr "said", .ref sa), (.inr "calls", .int 0), (.inr "trace", .ref tr), (.inr "end", .non), (.inr "hall", .non)]
def rk2 (ah ba ca to : Addr) : List (Key × V) := [(.inr "ahead", .ref ah), (.inr "back", .ref ba), (.inr "looks", .int 0), (.inr "came", .ref ca), (.inr "told", .ref to)]
theorem mergeK_fresh : ∀ (more acc : List (Key × V)), ((acc ++ more).map (·.1)).Nodup → mergeK acc more = acc ++ more
  | [], acc, _ => (List.append_nil acc).symm
  | kv :: r, acc, h => by
    have e : putK acc kv.1 kv.2 = acc ++ [kv] := by
      unfold putK
      rw [if_neg]
      intro z
      obtain ⟨x, hx, hxe⟩ := List.any_eq_true.mp z
      rw [List.map_append, List.map_cons, List.nodup_append] at h
      exact h.2.2 x.1 (List.mem_map.mpr ⟨x, hx, rfl⟩) kv.1 List.mem_cons_self (of_decide_eq_true hxe)
    show mergeK (putK acc kv.1 kv.2) r = _
    rw [e, mergeK_fresh r (acc ++ [kv]) (by rw [List.append_assoc]; exact h), List.append_assoc]
    rfl
theorem rk_keys {pv : V} {sa tr ah ba ca to : Addr} : ((rk1 pv sa tr ++ rk2 ah ba ca to).map (·.1)).Nodup := by
  show ([.inr "program", .inr "said", .inr "calls", .inr "trace", .inr "end", .inr "hall", .inr "ahead", .inr "back", .inr "looks", .inr "came", .inr "told"] : List Key).Nodup
  decide +kernel
theorem rk1_nil {pv : V} {sa tr : Addr} : mergeK [] (rk1 pv sa tr) = rk1 pv sa tr := mergeK_fresh _ [] (by
  show ([.inr "program", .inr "said", .inr "calls", .inr "trace", .inr "end", .inr "hall"] : List Key).Nodup
  decide +kernel)
theorem rk2_nil {ah ba ca to : Addr} : mergeK [] (rk2 ah ba ca to) = rk2 ah ba ca to := mergeK_fresh _ [] (by
  show ([.inr "ahead", .inr "back", .inr "looks", .inr "came", .inr "told"] : List Key).Nodup
  decide +kernel)
theorem rk_all {pv : V} {sa tr ah ba ca to r : Addr} : mergeK (rk1 pv sa tr) (rk2 ah ba ca to) = rK ⟨r, sa, tr, ca, to, ah, ba⟩ pv 0 .non := mergeK_fresh _ _ rk_keys
theorem RAt.said0 {H : Hp} {x : RA} {pv : V} {s : RS} {en : V} (h : RAt H x pv s en) : H x.sa = some (.lst (s.said.map V.int)) := h.sa
def spNumber : Sp := fun vs H Q _ => ∃ h c, vs = [.ref h] ∧ Dr H h c ∧ ∀ (z : Int) H', 0 ≤ z → z < 1000 → But h c H H' → Dr H' h c → Q (.int z) H'
/-! ### the program's side of runs -/
theorem PairedMem.map {α β : Type} {R R' : α → β → Prop} : ∀ {l : List α} {m : List β}, Paired R l m → (∀ a b, a ∈ l → R a b → R' a b) → Paired R' l m
  | _, _, .nil, _ => .nil
  | _, _, .cons h r, f => .cons (f _ _ List.mem_cons_self h) (PairedMem.map r fun a b m => f a b (List.mem_cons_of_mem _ m))
theorem PairedMem.left {α β : Type} {R : α → β → Prop} : ∀ {l : List α} {m : List β}, Paired R l m → ∀ a ∈ l, ∃ b, R a b
  | _, _, .cons h r, a, ha => by
    rcases List.mem_cons.mp ha with rfl | ha
    · exact ⟨_, h⟩
    · exact PairedMem.left r a ha
/-- the rows of a body, at b -/
def BodyAt (H : Hp) (b : Addr) (f : Int × W) : Prop := ∃ ys, H b = some (.lst ys) ∧ Paired (RowAt H) ys (f.2.rows 0)
theorem BodyAt.same {H H' : Hp} {b : Addr} {f : Int × W} (s : Same H H') (h : BodyAt H b f) : BodyAt H' b f := by
  obtain ⟨ys, h1, h2⟩ := h
  exact ⟨ys, s _ _ h1, L2.Paired.mapP h2 fun _ _ z => z.keep (Keep.same s)⟩
def spNumbered : Sp := fun vs H Q _ => ∃ v pr, vs = [v] ∧ PrAt H v pr ∧ PrOk pr ∧ ∀ H' p bs, Same H H' → H p = none → H' p = some (.lst (bs.map V.ref)) → Paired (BodyAt H') bs pr → (∀ b ∈ bs, H b = none) → Q (.ref p) H'
/-- a worth as the program has it -/
def PVd : Wt → Str × V
  | .num z => ("number", .int z)
  | .way f => ("way", .int (f : Int))
def PV (H : Hp) (v : V) (a : Wt) : Prop := ∃ t, v = .ref t ∧ H t = some (.tup [.str (PVd a).1, (PVd a).2])
theorem PV.keep {H H' : Hp} (k : Keep H H') {v : V} {a : Wt} (h : PV H v a) : PV H' v a := by
  obtain ⟨t, e, h⟩ := h
  exact ⟨t, e, k _ _ h⟩
def spReckoned : Sp := fun vs H Q _ => ∃ (o : Op) (x y : Int), vs = [.str o.name, .int x, .int y] ∧ (o = .plus ∨ o = .less ∨ o = .times) ∧ 0 ≤ x ∧ x < 1000 ∧
  ∀ H' t z, Same H H' → H t = none → H' t = some (.tup [.str "number", .int z]) → (∀ call g s, fin call o g [.num x, .num y] s = .ok (.num z) s) → Q (.ref t) H'
end Ov
namespace PySem
namespace FltX
open PySem.W PySem.Calls PyProof.Rows PySem.HandSPX
/-! ### the text of __init__ -/
def iA (p1 p2 : Pos) : Arguments := { posonlyargs := [], args := [{ arg := "self", annotation := none, pos := p1 }, { arg := "word", annotation := none, pos := p2 }], vararg := none, kwonlyargs := [], kw_defaults := [], kwarg := none, defaults := [] }
def iB (q1 q2 q3 q4 : Pos) : List Stmt := [.Assign [.Attribute (.Name "self" q1) "word" q2] (.Name "word" q3) q4]
def iS : Scope := { kind := .function, names := [(PySem.Str.ofString "self", .local), (PySem.Str.ofString "word", .local)], isGenerator := false, isCoroutine := false, more := [] }
/-- what the written part says of Flt, at C, and of its __init__, at fI -/
structure FltTxt (K : Frag) (mg : Str → Option Value) (C fI : Addr) : Prop where
  gC : mg "Fault" = some (.ref C)
  cls : ∃ nm q N bs bm sn sub ab col dd k0 k1 k2 k3 k5, K.lookup C = some (excClassObj nm q C N bs bm true sn sub ab col dd k0 k1 k2 k3 k5 "Exception.__new__") ∧ bm = ESX.exTail
  sa : findIn K (.ref C) "__setattr__" = some (some (.builtin "object.__setattr__"))
  ga : findIn K (.ref C) "__getattribute__" = some (some (.builtin "BaseException.__getattribute__"))
  gg : findIn K (.ref C) "__getattr__" = some none
  noN : findIn K (.ref C) "word" = some none
  iC : findIn K (.ref C) "__init__" = some (some (.ref fI))
  tC : typeIn K (.ref fI) = some (.type "function")
  kC : keepIn K (.ref C) = true
  exC : subIn K (.ref C) (.type "BaseException") = some true
  tyC : typeIn K (.ref C) = some (.type "type")
  hdC : hasDictIn K C = true
  te : exmOne K (.ref C) (.ref C) = some true
  fn : ∃ (oc : Value) (od : Option Addr) (doc pm : Value) (an : Option Addr) (cdv ct : Value) (osl : Array (Option Value)) (p1 p2 q1 q2 q3 q4 : Pos),
    K.lookup fI = some ⟨oc, od, .func (fnOf "__init__" "Fault.__init__" (iA p1 p2) (iB q1 q2 q3 q4) iS .none .none doc pm an cdv ct), osl⟩ ∧ codeIn K cdv "Fault.__init__" = true
theorem one_size (v : Value) : [v].length ≤ sizeLine := by
  rw [sizeLine_eq]
  exact (by decide : 1 ≤ 16777216)
theorem kept_but {K : Frag} {h h' : Heap} {x : Addr} (X : K.In h) (hx : K.lookup x = none) (k : ∀ b o, b ≠ x → h.get? b = some o → h'.get? b = some o) : K.In h' := fun a o e =>
  k a o (fun z => by rw [z, hx] at e; cases e) (X a o e)
theorem ldC {M : Model} {s : Shared} {name : Str} {scope : Scope} {L a : Addr} {cd : Value} {m : Str → Option Value} {x : Str} {pos : Pos} {v : Value} {Q : Value → Shared → Prop} {A : Around} {E : Value → Shared → Prop} (hn : s.heap.Ns L m) (hv : m x = some v) (h : Q v s)
    (hk : scope.kind = .function := by rfl) (hl : (envOfC name scope L a cd).kindOf x = some .local := by rfl) (hd : (x == ("__debug__" : Str)) = false := by decide) :
    wpAny M A (eval (.Name x pos) (envOfC name scope L a cd)) Q E s := wpAny_Name (wpAny_loadName_local hk hl hn hv h) hd
/-- what __init__ leaves of a fresh exception at x -/
structure InitEnd (h h' : Heap) (x C dx t1 : Addr) (v : Value) : Prop where
  keep : ∀ b o, b ≠ x → h.get? b = some o → h'.get? b = some o
  obj : h'.get? x = some { cls := .ref C, dict := some dx, data := .fields #[.ref t1, .none, .none, .none, .bool false, .none] }
  dbig : h.objs.size ≤ dx
  dne : dx ≠ x
  ns : h'.Ns1 dx (fun y => if y = "word" then some v else none)
/-- a made Flt -/
structure OwnMade (h h' : Heap) (e C d : Addr) (v : Value) : Prop where
  keep : ∀ b o, h.get? b = some o → h'.get? b = some o
  new : h.objs.size ≤ e
  obj : ∃ oe vs, h'.get? e = some oe ∧ oe.cls = .ref C ∧ oe.dict = some d ∧ oe.data = .fields vs ∧ vs[1]? = some .none
  dbig : h.objs.size ≤ d
  dne : d ≠ e
  ns : h'.Ns1 d (fun y => if y = "word" then some v else none)
section
variable {prog : Program} {w : World} {A : Around} {E : Value → Shared → Prop} {R : Result → Shared → Prop} {s : Shared} {K : Frag} {mg : Str → Option Value} {C fI : Addr}
theorem low_init (T : FltTxt K mg C fI) {x t0 : Addr} {v : Value} (X : K.In s.heap) (hlim : s.heap.NoLimit) (hx : s.heap.get? x = some (excO C t0)) (hnx : K.lookup x = none) (hroom : A.depth < recursionLimit)
    (hq : ∀ h' tk dx, InitEnd s.heap h' x C dx t0 v → R (.ok (.ret .none)) { s with heap := h', toks := tk }) :
    codeAny (model prog w) A (.call (.ref fI) ⟨[.ref x, v], []⟩) R s := by
  obtain ⟨oc, od, doc, pm, an, cdv, ct, osl, p1, p2, q1, q2, q3, q4, ho, hcd⟩ := T.fn
  obtain ⟨nm, q, N, bs, bm, sn, sub, ab, col, dd, k0, k1, k2, k3, k5, hC, hbm⟩ := T.cls
  have hcl : clsIn K C = some { name := nm, bases := bs, mro := .ref C :: bm, ns := N, qualname := q, hasDict := true, slotNames := sn, subclasses := sub, abstract := ab, collection := col, hasDel := false } := by unfold clsIn; rw [hC] <;> rfl
  refine Att.call_fn (binds := [("self", .ref x), ("word", v)]) X hlim ho hcd hroom (BindsTo.of_eq (by first | rfl | with_unfolding_all rfl)) (by first | rfl | decide | with_unfolding_all rfl) (fun s₁ IC => ?_) rfl rfl rfl
  obtain ⟨h₁, tk₁, rfl⟩ := IC.toInCall.same
  have k : ∀ b o, s.heap.get? b = some o → h₁.get? b = some o := IC.toInCall.keep
  have hn := IC.toInCall.ns
  have hxL : s.heap.objs.size ≠ x := Nat.ne_of_gt (Heap.lt_size hx)
  have X₁ : K.In h₁ := X.keeps k
  have hx₁ := k _ _ hx
  -- self.by = by
  show wpAny _ _ (execs _ _) _ _ _
  refine wpAny_execs_cons (plainObj_wpAny_Assign_Attribute ?_)
  refine ldC (v := v) hn (by first | rfl | with_unfolding_all rfl | kernel_rfl) (ldC (v := .ref x) hn (by first | rfl | with_unfolding_all rfl | kernel_rfl) ?_)
  refine set_plain X₁ (ox := excO C t0) (od := none) ⟨hx₁, rfl, rfl, trivial⟩ T.sa ?_
  refine ESX.osa_new X₁ hx₁ hcl (by rw [← hbm]) rfl T.noN (fun h₃ tk₃ dx k₃ dn dne hx₃ hn₃ => ?_)
  show wpAny _ _ (execs _ _) _ _ _
  have z : s.heap.objs.size < h₁.objs.size := hn.lt
  exact wpAny_execs_nil (hq h₃ tk₃ dx ⟨fun b o hb e => k₃ b o hb (k b o e), hx₃, Nat.le_of_lt (Nat.lt_of_lt_of_le z dn), dne, hn₃⟩)
theorem low_made (T : FltTxt K mg C fI) {v : Value} (X : K.In s.heap) (hlim : s.heap.NoLimit) (hroom : A.depth + 1 < recursionLimit)
    (hq : ∀ h' tk e d, OwnMade s.heap h' e C d v → R (.ok (.ret (.ref e))) { s with heap := h', toks := tk }) :
    codeAny (model prog w) A (.call (.ref C) ⟨[v], []⟩) R s := by
  obtain ⟨nm, q, N, bs, bm, sn, sub, ab, col, dd, k0, k1, k2, k3, k5, hC, hbm⟩ := T.cls
  obtain ⟨hp, g, dr, tk, os⟩ := s
  have k : ∀ b o, hp.get? b = some o → ((hp.push (kdv_tup [v])).push (excO C hp.objs.size)).get? b = some o := fun b o e => Heap.get?_push_of_some _ (Heap.get?_push_of_some _ e)
  have hget : ((hp.push (kdv_tup [v])).push (excO C hp.objs.size)).get? (hp.objs.size + 1) = some (excO C hp.objs.size) := by heap_get
  have hnx : K.lookup (hp.objs.size + 1) = none := by
    cases e : K.lookup (hp.objs.size + 1) with
    | none => rfl
    | some o =>
      have z : hp.get? (hp.objs.size + 1) = some o := X _ _ e
      exact absurd (Nat.lt_of_succ_lt (Heap.lt_size z)) (Nat.lt_irrefl _)
  refine call_own F.excBase_Exception (fun X => by rw [hbm]) (X _ _ hC) (looks_findIn X T.iC) (fun self => bind_fn X self T.tC) (one_size v) ?_
  refine low_init (s := ⟨(hp.push (kdv_tup [v])).push (excO C hp.objs.size), g, dr, tk, os⟩) T (X.keeps k) (hlim.keeps k) hget hnx ?_ fun h' tk' dx ⟨k', hx, dn, dne, hns⟩ => ?_
  · show A.depth + 1 < recursionLimit
    exact hroom
  · have old : ∀ b o, hp.get? b = some o → h'.get? b = some o := fun b o e => k' b o (Nat.ne_of_lt (Nat.lt_succ_of_lt (Heap.lt_size e))) (k b o e)
    have z : hp.objs.size + 1 + 1 ≤ dx := by
      first
        | (simpa only [Heap.size_push] using dn)
        | exact dn
        | (have q := dn; rw [Heap.size_push, Heap.size_push] at q; exact q)
    exact ⟨rfl, hq h' tk' (hp.objs.size + 1) dx ⟨old, Nat.le_succ _, ⟨_, _, hx, rfl, rfl, rfl, rfl⟩, Nat.le_trans (Nat.le_trans (Nat.le_succ _) (Nat.le_succ _)) z, dne, hns⟩⟩
end
end FltX
end PySem
namespace L2
open PySem PySem.Spec PyProof.Rows
theorem relO_low {v : V} {v' : Value} (r : RelV v v') (f : Str) : RelO (List.lookup f [(("word" : Str), v)]) (if f = "word" then some v' else none) := by
  by_cases hw : f = "word"
  · subst hw
    rw [if_pos rfl]
    have q : List.lookup ("word" : Str) [(("word" : Str), v)] = some v := by simp [List.lookup]
    rw [q]
    exact r
  · rw [if_neg hw]
    have qw : (f == ("word" : Str)) = false := by simpa using hw
    have q2 : List.lookup f [(("word" : Str), v)] = none := by simp [List.lookup, qw]
    rw [q2]
    trivial
section
variable {X : Cx} {C fI : Addr}
/-- Flt(e) -/
def tMkFlt (C : Addr) (ta : TA) : St → Hp → XK → Prop := fun σ H Q => ta σ H fun vs H1 => ∃ v, vs = [v] ∧ ∀ d, H1 d = none → Q (.ref C) (some d) (upd H1 d (.xd [(("word" : Str), v)]))
theorem pmk_low {a : Expr} {ta : TA} {p pos : Pos} {k : Nat} (T : PySem.FltX.FltTxt X.K X.mg C fI) (hr : Room k X.A) (ha : PA X [a] ta) (hg : Gl X "Fault" := by rfl)
    (he : starEach (a :: []) X.env = (false, eval a X.env) :: starEach [] X.env := by rfl) (hpl : (backTo pos (starEach [] X.env)).any (·.1) = false := by rfl) :
    PMk X (.Call (.Name "Fault" p) [a] [] pos) (tMkFlt C ta) := by
  intro pins s σ H Q I h
  refine wpAny_Call_Name_kw (ld_glob I hg T.gC ?_)
  refine PySem.W.callWith_K (h₀ := X.base) I.ok.mod.kin T.kC (thn (ha.run pos pins s σ H _ I h) fun us s1 hh => ?_) he hpl
  obtain ⟨vs, H1, I1, r1, v, ev, q1⟩ := hh
  subst ev
  refine ⟨I1.kIn, ?_⟩
  cases r1 with
  | cons rv rn =>
    rename_i v' us'
    cases rn
    show wpAny _ _ (call (.ref C) [v']) _ _ _
    have hlim := I1.nolimit
    obtain ⟨hp, g, dr, tk, os⟩ := s1
    refine wpAny_call (PySem.FltX.low_made T I1.kIn hlim (by have := hr.dp; omega) fun h' tk' e d M => ?_)
    show MkP X pins σ Q (.ref e) ⟨h', g, dr, tk', os⟩
    obtain ⟨oe, fv, hoe, hc, hd, hdat, h1⟩ := M.obj
    have hns := M.ns
    obtain ⟨G', g1, g2⟩ := restrict h' fun b => decide (b ≠ e)
    have gk : ∀ b, b ≠ e → G'.get? b = h'.get? b := fun b hb => g1 b (decide_eq_true hb)
    have ge : G'.get? e = none := g2 e (by simp)
    have old : ∀ b o, hp.get? b = some o → G'.get? b = some o := fun b o q => (gk b (Nat.ne_of_lt (Nat.lt_of_lt_of_le (Heap.lt_size q) M.new))).trans (M.keep b o q)
    have ob : ObjOk X.prog X.w (upd H1 d (.xd [(("word" : Str), v)])) G' d (.xd [(("word" : Str), v)]) :=
      ⟨_, hns.at (fun o q => (gk d M.dne).trans q), fun f => relO_low rv f⟩
    have J : Inv X pins σ (upd H1 d (.xd [(("word" : Str), v)])) ⟨G', g, dr, tk', os⟩ := I1.laid (t' := tk') old M.dbig ob
    refine ⟨e, oe, fv, ⟨G', g, dr, tk', os⟩, _, .ref C, some d, rfl, J, fun b o q => ?_, ge, hoe, ⟨hc, hd⟩, hdat, h1, ?_, rfl, I1.bare, raises_own T.exC T.tyC, q1 d (I1.hok.fresh M.dbig)⟩
    · by_cases hb : b = e
      · have q' : G'.get? b = some o := q
        rw [hb, ge] at q'; cases q'
      · exact (gk b hb).symm.trans q
    · rw [upd_ne (Ne.symm M.dne)]
      exact I1.hok.fresh M.new
/-- raise Flt(e) -/
def tRaiseFlt (C : Addr) (W : WX) (ta : TA) : TS := fun _ σ H => tMkFlt C ta σ H fun cls d H' => W cls d σ H'
theorem ps_raiseFlt {a : Expr} {ta : TA} {W : WX} {p pos pos2 : Pos} {k : Nat} (hc : X.calm = true) (T : PySem.FltX.FltTxt X.K X.mg C fI) (hr : Room k X.A) (tk : Takes X W) (ha : PA X [a] ta) (hg : Gl X "Fault" := by rfl)
    (he : starEach (a :: []) X.env = (false, eval a X.env) :: starEach [] X.env := by rfl) (hpl : (backTo pos (starEach [] X.env)).any (·.1) = false := by rfl) :
    PS X (.Raise (some (.Call (.Name "Fault" p) [a] [] pos)) none pos2) (tRaiseFlt C W ta) := ps_raise hc tk (pmk_low T hr ha hg he hpl)
/-- low.by, low the exception that the suite holds (at a; its class cls, its dict d) -/
def tByFlt (C : Addr) (a : Addr) (cls : Value) (d : Option Addr) (te : TE) : TE := fun σ H Q => te σ H fun x H1 => x = .ref a ∧ cls = .ref C ∧ ∃ (dd : Addr) (v : V), d = some dd ∧ H1 dd = some (.xd [(("word" : Str), v)]) ∧ Q v H1
theorem pe_byFlt {a : Addr} {oe : Obj} {cls : Value} {d : Option Addr} {pn : List (Addr × Obj)} {e : Expr} {te : TE} {pos : Pos} (T : PySem.FltX.FltTxt X.K X.mg C fI) (hz : Zc cls d oe) (hf : ∃ vs, oe.data = .fields vs) (he : PE (X.suite a ((a, oe) :: pn)) e te)
    (hb : attributeBase e "word" X.env (eval e X.env) = eval e X.env := by rfl) :
    PE (X.suite a ((a, oe) :: pn)) (.Attribute e "word" pos) (tByFlt C a cls d te) := by
  refine ⟨fun pins s σ H Q I h => ?_⟩
  refine attr_of hb (thn (he.run pins s σ H _ I h) fun u s1 hh => ?_)
  obtain ⟨x, H1, I1, rx, ex, ec, dd, v, ed, ea, q⟩ := hh
  subst ex
  obtain rfl : u = Value.ref a := rx
  subst ec
  subst ed
  obtain ⟨ha, _⟩ := I1.pin (a, oe) (List.mem_append_left _ List.mem_cons_self)
  obtain ⟨vs, hd⟩ := hf
  have hx : ObjOk X.prog X.w H1 s1.heap dd (.xd [(("word" : Str), v)]) := I1.hok dd _ ea
  obtain ⟨mA, hns, hr⟩ := hx
  obtain ⟨od, ho, hl⟩ := lookIn_ns hns
  have l : List.lookup ("word" : Str) [(("word" : Str), v)] = some v := by simp [List.lookup]
  obtain ⟨u, hu, ru⟩ := RelO.some_of (v := v) (o := mA "word") (by rw [← l]; exact hr "word")
  have J : PySem.W.InstAt s1.heap a oe C (some od) := ⟨ha, hz.1, by unfold PySem.W.notCls; rw [hd] <;> rfl, by rw [hz.2]; exact ho⟩
  exact HandSPX.exc_get I1.kIn J T.ga T.gg T.exC (PySem.W.findObj_own T.hdC T.noN rfl (by rw [hl, hu])) (handed_of ru) ⟨v, H1, I1.tok _, ru, q⟩
end
end L2

namespace L2
open PySem PySem.Spec PyProof.Rows
/-- an if whose test is known -/
theorem if_true_of {c : Bool} {A B : Prop} (hc : c = true) (h : A) : if c = true then A else B := by
  rw [if_pos hc]
  exact h
theorem if_false_of {c : Bool} {A B : Prop} (hc : c = false) (h : B) : if c = true then A else B := by
  rw [hc, if_neg Bool.false_ne_true]
  exact h
end L2
/-! ### the own error Fault: its facts as one test of the written part -/
namespace Ov
open PySem PySem.Spec PyProof.Rows L2
def flt1 (K : PySem.W.Frag) (C : Addr) : Bool := match K.lookup C with
  | some ⟨.type "type", _, .cls cd, sl⟩ => (match cd.mro, sl.toList with
    | .ref C' :: bm, [_, _, _, _, some (.builtin n), _] => C' == C && n == "Exception.__new__" && !cd.hasDel && cd.hasDict && bm == PySem.ESX.exTail
    | _, _ => false)
  | _ => false
theorem flt1_ok {K : PySem.W.Frag} {C : Addr} (q : flt1 K C = true) : ∃ nm q N bs bm sn sub ab col dd k0 k1 k2 k3 k5, K.lookup C = some (excClassObj nm q C N bs bm true sn sub ab col dd k0 k1 k2 k3 k5 "Exception.__new__") ∧ bm = PySem.ESX.exTail := by
  unfold flt1 at q
  split at q
  · rename_i dd cd sl ho
    split at q
    · rename_i C' bm k0 k1 k2 k3 n k5 hm hs
      simp only [Bool.and_eq_true, beq_iff_eq, Bool.not_eq_true'] at q
      obtain ⟨⟨⟨⟨rfl, rfl⟩, hdel⟩, hdi⟩, hb⟩ := q
      obtain ⟨nm, bs, mro, ns, qn, hd, sn, sub, ab, col, del⟩ := cd
      dsimp only at hm hdel hdi
      subst hm hdel hdi
      have hsl : sl = #[k0, k1, k2, k3, some (.builtin "Exception.__new__"), k5] := by
        obtain ⟨l⟩ := sl
        simp only at hs
        rw [hs]
      subst hsl
      exact ⟨nm, qn, ns, bs, bm, sn, sub, ab, col, dd, k0, k1, k2, k3, k5, ho, hb⟩
    · cases q
  · cases q
/-- a def without defaults -/
def fnNone (K : PySem.W.Frag) (a : Addr) : Bool := match K.lookup a with
  | some ⟨_, _, .func fd, _⟩ => decide (fd.defaults = .none) && decide (fd.kwdefaults = .none)
  | _ => false
theorem fnNone_ok {K : PySem.W.Frag} {a : Addr} {oc : Value} {od : Option Addr} {fd : FuncData} {osl : Array (Option Value)} (lk : K.lookup a = some ⟨oc, od, .func fd, osl⟩) (q : fnNone K a = true) : fd.defaults = .none ∧ fd.kwdefaults = .none := by
  unfold fnNone at q
  rw [lk] at q
  simpa only [Bool.and_eq_true, decide_eq_true_eq] using q
def fltB (K : PySem.W.Frag) (C fI : Addr) : Bool := flt1 K C && He.eqO (PySem.W.findIn K (.ref C) "__setattr__") (some (some (.builtin "object.__setattr__"))) && He.eqO (PySem.W.findIn K (.ref C) "__getattribute__") (some (some (.builtin "BaseException.__getattribute__"))) &&
  He.eqO (PySem.W.findIn K (.ref C) "__getattr__") (some none) && He.eqO (PySem.W.findIn K (.ref C) "word") (some none) && He.eqO (PySem.W.findIn K (.ref C) "__init__") (some (some (.ref fI))) && decide (PySem.W.typeIn K (.ref fI) = some (.type "function")) &&
  PySem.W.keepIn K (.ref C) && decide (PySem.W.subIn K (.ref C) (.type "BaseException") = some true) && decide (PySem.W.typeIn K (.ref C) = some (.type "type")) && PySem.W.hasDictIn K C && decide (PySem.W.exmOne K (.ref C) (.ref C) = some true) && fnNone K fI
theorem flt_ok {K : PySem.W.Frag} {mg : Str → Option Value} {C fI : Addr} (g : mg "Fault" = some (.ref C)) (q : fltB K C fI = true)
    (fn : ∃ (oc : Value) (od : Option Addr) (doc pm : Value) (an : Option Addr) (cdv ct : Value) (osl : Array (Option Value)) (p1 p2 q1 q2 q3 q4 : Pos),
    K.lookup fI = some ⟨oc, od, .func (PySem.W.fnOf "__init__" "Fault.__init__" (PySem.FltX.iA p1 p2) (PySem.FltX.iB q1 q2 q3 q4) PySem.FltX.iS .none .none doc pm an cdv ct), osl⟩ ∧ PySem.W.codeIn K cdv "Fault.__init__" = true) : PySem.FltX.FltTxt K mg C fI := by
  unfold fltB at q
  simp only [Bool.and_eq_true, decide_eq_true_eq] at q
  obtain ⟨⟨⟨⟨⟨⟨⟨⟨⟨⟨⟨⟨a1, a2⟩, a3⟩, a4⟩, a5⟩, a6⟩, a7⟩, a8⟩, a9⟩, a10⟩, a11⟩, a12⟩, _⟩ := q
  exact { gC := g, cls := flt1_ok a1, sa := He.eqO_ok a2, ga := He.eqO_ok a3, gg := He.eqO_ok a4, noN := He.eqO_ok a5, iC := He.eqO_ok a6, tC := a7, kC := a8, exC := a9, tyC := a10, hdC := a11, te := a12, fn := fn }
theorem fltB_none {K : PySem.W.Frag} {C fI : Addr} (q : fltB K C fI = true) : fnNone K fI = true := by
  unfold fltB at q
  simp only [Bool.and_eq_true] at q
  exact q.2
/-- a fault's way out of a def -/
def Out (K : PySem.W.Frag) (H : Hp) (E : XK) (x : Str) : Prop := ∀ H' d, Same H H' → H d = none → H' d = some (.xd [("word", .str x)]) → E (.ref (He.ga K "Fault")) (some d) H'
def spNumIn (K : PySem.W.Frag) : Sp := fun vs H Q E => ∃ v a, vs = [v] ∧ PV H v a ∧ match a with
  | .num z => Q (.int z) H
  | .way _ => Out K H E "kind"
def spEndIn (K : PySem.W.Frag) : Sp := fun vs H Q E => ∃ v a, vs = [v] ∧ PV H v a ∧ match a with
  | .way f => Q (.int (f : Int)) H
  | .num _ => Out K H E "kind"
/-! ### the program's object of a run -/
structure PA where
  a : Addr
  dx : Addr
  bo : Addr
  sa : Addr
  ro : Addr
def runFs (x : PA) (told : V) (calls others : Int) : List (Str × V) := [("bodies", .ref x.bo), ("told", told), ("said", .ref x.sa), ("row", .ref x.ro), ("calls", .int calls), ("others", .int others)]
/-- the object, what was said, where the run went; the bodies' rows stand at bo -/
structure RunAt (K : PySem.W.Frag) (H : Hp) (x : PA) (pr : List (Int × W)) (told : V) (s : RS) (others : Int) : Prop where
  ob : H x.a = some (.ins (He.ga K "Run") x.dx (runFs x told (s.calls : Int) others))
  bo : ∃ bs : List Addr, H x.bo = some (.lst (bs.map V.ref)) ∧ Paired (BodyAt H) bs pr ∧ ∀ b ∈ bs, b ≠ x.sa ∧ b ≠ x.ro
  sa : H x.sa = some (.lst (s.said.map V.int))
  ro : H x.ro = some (.lst (nV s.row))
  nd : x.bo ≠ x.sa ∧ x.bo ≠ x.ro ∧ x.sa ≠ x.ro
def spRunInit (K : PySem.W.Frag) : Sp := fun vs H Q _ => ∃ (a dx : Addr) (v : V) (pr : List (Int × W)), vs = [.ref a, v] ∧ H a = some (.ins (He.ga K "Run") dx []) ∧ PrAt H v pr ∧ PrOk pr ∧
  ∀ H' x, (∀ b o, b ≠ a → H b = some o → H' b = some o) → x.a = a → x.dx = dx → H x.sa = none → H x.ro = none → RunAt K H' x pr .non ⟨[], 0, [], [], []⟩ 0 → Q .non H'
theorem putF_new {f : Str} {v : V} : ∀ {fs : List (Str × V)}, (fs.map (·.1)).contains f = false → putF f v fs = fs ++ [(f, v)]
  | [], _ => rfl
  | (g, x) :: r, h => by
    rw [List.map_cons, List.contains_cons, Bool.or_eq_false_iff] at h
    show (if g = f then (g, v) :: r else (g, x) :: putF f v r) = _
    have n : ¬ g = f := fun z => by
      have e := h.1
      rw [← z] at e
      exact absurd e (by simp)
    rw [if_neg n, putF_new h.2]
    rfl
theorem runFs_new {x : PA} : putF "others" (.int 0) (putF "calls" (.int 0) (putF "row" (.ref x.ro) (putF "said" (.ref x.sa) (putF "told" .non (putF "bodies" (.ref x.bo) []))))) = runFs x .non 0 0 := by
  rw [putF_new (f := "bodies") (fs := []) rfl]
  rw [putF_new (f := "told") (by show (["bodies"] : List Str).contains "told" = false; decide +kernel)]
  rw [putF_new (f := "said") (by show (["bodies", "told"] : List Str).contains "said" = false; decide +kernel)]
  rw [putF_new (f := "row") (by show (["bodies", "told", "said"] : List Str).contains "row" = false; decide +kernel)]
  rw [putF_new (f := "calls") (by show (["bodies", "told", "said", "row"] : List Str).contains "calls" = false; decide +kernel)]
  rw [putF_new (f := "others") (by show (["bodies", "told", "said", "row", "calls"] : List Str).contains "others" = false; decide +kernel)]
  rfl
/-- all but the run's object and its lists stays -/
def ButP (x : PA) (H H' : Hp) : Prop := ∀ b o, b ≠ x.a → b ≠ x.sa → b ≠ x.ro → H b = some o → H' b = some o
def spSay (K : PySem.W.Frag) : Sp := fun vs H Q E => ∃ (x : PA) (pr : List (Int × W)) (told v : V) (s : RS) (oth : Int) (a : Wt), vs = [.ref x.a, v] ∧ RunAt K H x pr told s oth ∧ PV H v a ∧ s.said.length ≤ most ∧ match a with
  | .num z => ∀ H', ButP x H H' → RunAt K H' x pr told { s with said := s.said ++ [z] } oth → Q v H'
  | .way _ => Out K H E "kind"
theorem BodyAt.updL {H : Hp} {p b : Addr} {f : Int × W} {xs ys : List V} (e : H p = some (.lst xs)) (n : b ≠ p) (h : BodyAt H b f) : BodyAt (upd H p (.lst ys)) b f := by
  obtain ⟨zs, h1, h2⟩ := h
  exact ⟨zs, by rw [upd_ne n]; exact h1, L2.Paired.mapP h2 fun _ _ z => z.keep (Keep.updL e)⟩
theorem RunAt.updS {K : PySem.W.Frag} {H : Hp} {x : PA} {pr : List (Int × W)} {told : V} {s : RS} {oth z : Int} (h : RunAt K H x pr told s oth) : RunAt K (upd H x.sa (.lst (s.said.map V.int ++ [.int z]))) x pr told { s with said := s.said ++ [z] } oth := by
  obtain ⟨h1, ⟨bs, h2, h3, h4⟩, h5, h6, n1, n2, n3⟩ := h
  exact ⟨by rw [upd_ne (ne_of h1 h5 (by intro z; cases z))]; exact h1, ⟨bs, by rw [upd_ne n1]; exact h2, PairedMem.map h3 fun b f hb z => z.updL h5 (h4 b hb).1, h4⟩, by rw [upd_same, List.map_append]; rfl, by rw [upd_ne n3.symm]; exact h6, n1, n2, n3⟩
theorem RunAt.updR {K : PySem.W.Frag} {H : Hp} {x : PA} {pr : List (Int × W)} {told : V} {s : RS} {oth : Int} {f : Nat} (h : RunAt K H x pr told s oth) : RunAt K (upd H x.ro (.lst (nV s.row ++ [.int (f : Int)]))) x pr told { s with row := s.row ++ [f] } oth := by
  obtain ⟨h1, ⟨bs, h2, h3, h4⟩, h5, h6, n1, n2, n3⟩ := h
  exact ⟨by rw [upd_ne (ne_of h1 h6 (by intro z; cases z))]; exact h1, ⟨bs, by rw [upd_ne n2]; exact h2, PairedMem.map h3 fun b f hb z => z.updL h6 (h4 b hb).2, h4⟩, by rw [upd_ne n3]; exact h5, by rw [upd_same, nV_app], n1, n2, n3⟩
end Ov
namespace Ov
open PySem PySem.Spec PyProof.Rows L2
/-! ### kinds of errors: what isinstance asks, as a check of K -/
def excKB (K : PySem.W.Frag) (D : Addr) (cs : List (Value × Bool)) : Bool :=
  He.eqO (PySem.W.findIn K (.ref D) "__getattribute__") (some (some (.builtin "BaseException.__getattribute__"))) && He.eqO (PySem.W.findIn K (.ref D) "__getattr__") (some none) &&
  decide (PySem.W.subIn K (.ref D) (.type "BaseException") = some true) && PySem.W.hasDictIn K D && He.eqO (PySem.W.findIn K (.ref D) "__class__") (some (some (.builtin "object.__class__"))) &&
  He.eqO (PySem.W.specialIn K (.builtin "object.__class__") "__get__") (some (some (.builtin "getset_descriptor.__get__"))) && decide (PySem.W.takesIn K (.builtin "object.__class__") = some true) &&
  decide (PySem.W.mroIn K D (.type "object") = some true) && cs.all fun p => decide (PySem.W.kitOne K (.ref D) p.1 = some p.2)
theorem excKB_ok {K : PySem.W.Frag} {D : Addr} {cs : List (Value × Bool)} (h : excKB K D cs = true) : ExcC K D ∧ ∀ p ∈ cs, PySem.W.kitOne K (.ref D) p.1 = some p.2 := by
  unfold excKB at h
  simp only [Bool.and_eq_true, decide_eq_true_eq] at h
  obtain ⟨⟨⟨⟨⟨⟨⟨⟨a1, a2⟩, a3⟩, a4⟩, a5⟩, a6⟩, a7⟩, a8⟩, a9⟩ := h
  exact ⟨⟨He.eqO_ok a1, He.eqO_ok a2, a3, a4, He.eqO_ok a5, He.eqO_ok a6, a7, a8⟩, fun p hp => of_decide_eq_true (List.all_eq_true.mp a9 p hp)⟩
/-- the rule of a def whose code object is told -/
theorem funD_okC {P : Program} {w : World} {K : PySem.W.Frag} {mg : Str → Option Value} {base : Heap} {x qual : Str} {params : Arguments} {body : List Stmt} {scope : Scope} {dvs : List V} {kws : List (Str × V)} {f : Addr} {fd : FuncData} {CX : CXT} {N ps : List Str} {k : Nat} {sp : Sp} (F : FunD K x qual params body scope dvs kws f fd) (S : FnScope N ps scope) (len : ∀ vs H Q E, sp vs H Q E → vs.length = ps.length)
    (hbody : ∀ (cdv : Value) (A : Around) (outer : List Env) (s : Shared) (H : Hp) (vs : List V) (Q : VK) (E : XK), fd.code = cdv → Room k (A.deeper (envOfC qual scope s.heap.objs.size f cdv)) → sp vs H Q E →
      ∃ t, PSs (cxOf CX P w K mg base N qual scope f cdv A outer s H E) body t ∧ t { nx := fun _ H' => Q .non H', rt := Q } (L2.start N vs) H) : FnOk P w K mg base CX (k + 1) f fd ps sp := by
  obtain ⟨oc, od, dV, kV, doc, pm, an, cdv, ct, osl, rfl, lk, hcd, _, _⟩ := F.ex
  exact fn_of lk hcd S len fun A outer s H vs Q E hr hsp => hbody cdv A outer s H vs Q E rfl hr hsp
/-- the code object of a def whose table is told -/
theorem code_of {K : PySem.W.Frag} {x qual : Str} {params : Arguments} {body : List Stmt} {scope : Scope} {dvs : List V} {kws : List (Str × V)} {fd : FuncData} {p : He.Defn} (F : FunD K x qual params body scope dvs kws (He.fAd K p) fd) : fd.code = .ref (He.cT K p).1 := by
  obtain ⟨oc, od, dV, kV, doc, pm, an, cdv, ct, osl, rfl, lk, hcd, _, _⟩ := F.ex
  show cdv = .ref (He.codeOf K p)
  unfold He.codeOf
  rw [lk]
  cases cdv with
  | ref c => rfl
  | _ => exact absurd hcd (by simp [PySem.W.codeIn])
end Ov
/-! ### a head's hook over what some names of the module reach (less memory than over all) -/
namespace Ov
open PySem PySem.Spec PyProof.Rows L2
def rootsN (K0 : PySem.W.Frag) (xs : List Str) : List Addr := xs.filterMap fun x => match PySem.W.nsIn K0 mainGlobals x with
  | some (some (.ref a)) => some a
  | _ => none
def growN (g : Addr → Option Obj) (as : List Addr) : Nat → List Addr
  | 0 => as
  | n + 1 => He.growD g (growN g as n)
def asN (g : Addr → Option Obj) (xs : List Str) (n : Nat) : List Addr := cStatics :: mainGlobals :: growN g (rootsN (He.frG g [mainGlobals]) xs) n
def obsN (n : Nat) (xs : List Str) (fa : List He.Fa) (fn : List He.DefD) (ts : List He.Tab) (tf : List He.Defn) (ex : PySem.W.Frag → Bool) (g : Addr → Option Obj) : He.AlX :=
  (fun K => (He.obsT fa fn ts K, ex K && He.tabsB g tf K)) (He.frT g (asN g xs n))
theorem saysN_at {g : Addr → Option Obj} {h : Heap} {as : List Addr} {fa : List He.Fa} {fn : List He.DefD} {ts : List He.Tab} {tf : List He.Defn} {ex : PySem.W.Frag → Bool} {w : World} (hg : g = h.get?) (e1 : He.obsT fa fn ts (He.frT g as) = He.valT fn ts w) (e2 : (ex (He.frT g as) && He.tabsB g tf (He.frT g as)) = true) : He.SaysX fa fn ts tf ex w h (He.frT g as) := by
  obtain ⟨m, tb⟩ := He.ba e2
  have one : ∀ p ∈ tf, PySem.W.codeHdIn (He.frT g as) (He.cT (He.frT g as) p).1 (He.cT (He.frT g as) p).2 = true ∧ ∃ o, g (He.cT (He.frT g as) p).2 = some o ∧ He.emptyTab o = true := by
    intro p hp
    obtain ⟨c1, c2⟩ := He.ba (List.all_eq_true.mp tb p hp)
    generalize hq : g (He.cT (He.frT g as) p).2 = q at c2
    match q, c2 with
    | some o, c2 => exact ⟨c1, o, rfl, c2⟩
  constructor
  · exact e1
  · exact m
  · exact fun p hp => (one p hp).1
  · intro p hp
    obtain ⟨_, o, z1, z2⟩ := one p hp
    exact He.frT_none z1 z2
  · intro p hp
    obtain ⟨_, o, z1, z2⟩ := one p hp
    rw [← hg, z1, He.emptyTab_eq z2]
def hookN (n : Nat) (xs : List Str) (fa : List He.Fa) (fn : List He.DefD) (ts : List He.Tab) (tf : List He.Defn) (ex : PySem.W.Frag → Bool) : PySem.W.Hook where
  α := He.AlX
  obs := fun s => obsN n xs fa fn ts tf ex s.heap.get?
  val := fun w => He.valX fn ts w
  says := fun w h => ∃ K : PySem.W.Frag, K.In h ∧ He.SaysX fa fn ts tf ex w h K
  of := fun _ _ e => ⟨_, He.frT_in, saysN_at rfl (congrArg (fun z => z.1) e) (congrArg (fun z => z.2) e)⟩
  keeps := fun _ _ _ ⟨K, hK, c⟩ k => ⟨K, PySem.W.Frag.In.keeps hK k, ⟨c.t, c.more, c.hd, c.out, fun p hp => k _ _ (c.empty p hp)⟩⟩
theorem obsN_eq {n : Nat} {xs : List Str} {fa : List He.Fa} {fn : List He.DefD} {ts : List He.Tab} {tf : List He.Defn} {ex : PySem.W.Frag → Bool} {g : Addr → Option Obj} {s : Shared} (h : ∀ a, g a = s.heap.get? a) : obsN n xs fa fn ts tf ex g = (hookN n xs fa fn ts tf ex).obs s := by
  obtain rfl : g = s.heap.get? := funext h
  rfl
/-- the run's equation in two -/
def PartN0 (r : PySem.W.OpenRow) (q : Program) (names : List PySem.Str) (M : Nat) (w : World) : Prop :=
  ∀ os : PySem.OsState, (HandSHeadRun.endF (HandSHeadRun.stepQ (HandSHeadRun.denQ HandSHeadRun.tabQ) r.prog w) M r.prog w os).map (fun s => (HandSHeadRun.looksF r.prog (PySem.W.boot_heap w.params) s.abs, HandSHeadRun.seenQ q names (importedModules r.prog.main.body) (fun s => PySem.W.xlAt q [] s && PySem.W.recOk r.toRowW.records s) s.abs)) = some (true, PySem.W.openGood q names)
def PartN1 (n : Nat) (xs : List Str) (fa : List He.Fa) (fn : List He.DefD) (ts : List He.Tab) (tf : List He.Defn) (ex : PySem.W.Frag → Bool) (r : PySem.W.OpenRow) (M : Nat) (w : World) : Prop :=
  ∀ os : PySem.OsState, (HandSHeadRun.endF (HandSHeadRun.stepQ (HandSHeadRun.denQ HandSHeadRun.tabQ) r.prog w) M r.prog w os).map (fun s => obsN n xs fa fn ts tf ex (HandSHeadRun.getT s)) = some (He.valX fn ts w)
theorem mapn_some {α β : Type} {o : Option α} {f : α → β} {v : β} (h : o.map f = some v) : ∃ s, o = some s ∧ f s = v := by
  cases o with
  | none => cases h
  | some s => exact ⟨s, rfl, Option.some.inj h⟩
theorem runN_join {n : Nat} {xs : List Str} {fa : List He.Fa} {fn : List He.DefD} {ts : List He.Tab} {tf : List He.Defn} {ex : PySem.W.Frag → Bool} {r : PySem.W.OpenRow} {q : Program} {M : Nat} {names : List PySem.Str} {w : World}
    (hA : PartN0 r q names M w) (hB : PartN1 n xs fa fn ts tf ex r M w) :
    HandSHeadRun.RunEq r q (hookN n xs fa fn ts tf ex) (fun s => obsN n xs fa fn ts tf ex (HandSHeadRun.getT s)) M names w := by
  intro os
  obtain ⟨s, es, e1⟩ := mapn_some (hA os)
  obtain ⟨s2, es2, e2⟩ := mapn_some (hB os)
  obtain rfl : s = s2 := Option.some.inj (es.symm.trans es2)
  rw [es]
  exact congrArg some (Prod.ext (congrArg (fun z => z.1) e1) (Prod.ext (congrArg (fun z => z.2) e1) e2))
end Ov
namespace K03
open PySem PySem.Spec PyProof.Rows L2
/-! ### the text by places -/
def top (i : Nat) : Stmt := PySem.Challenge.pw_overlayhall_k03_trees_refused.main.body.getD i (.Pass ⟨0, 0, 0, 0⟩)
abbrev s_between : Stmt := top 14
abbrev s_given_of : Stmt := top 19
abbrev s_arms_of : Stmt := top 20
abbrev s_words_of : Stmt := top 21
abbrev s_add_word : Stmt := top 22
abbrev s_check_program : Stmt := top 29
abbrev s_check_function : Stmt := top 30
abbrev s_function_fits : Stmt := top 31
abbrev s_word_fits : Stmt := top 32
abbrev s_given_fits : Stmt := top 33
abbrev s_numbered : Stmt := top 34
abbrev s_places : Stmt := top 37
abbrev s_wanted : Stmt := top 38
abbrev s_way_down : Stmt := top 39
abbrev s_check_tree : Stmt := top 40
abbrev s_parts_fit : Stmt := top 41
abbrev s_part_fits : Stmt := top 42
abbrev s_rises : Stmt := top 43
abbrev s_stands_fit : Stmt := top 44
abbrev s_has_end : Stmt := top 45
abbrev s_parts_below : Stmt := top 46
abbrev s_size_of : Stmt := top 47
abbrev s_begins : Stmt := top 48
abbrev s_firsts_of : Stmt := top 49
abbrev s_end_of : Stmt := top 50
abbrev s_way_of : Stmt := top 51
abbrev s_check_room : Stmt := top 55
abbrev s_layouts : Stmt := top 56
abbrev s_cost : Stmt := top 58
abbrev s_check_trace : Stmt := top 59
abbrev s_brought_by : Stmt := top 60
abbrev s_check_number : Stmt := top 66
abbrev s_number_in : Stmt := top 68
abbrev s_end_of_way : Stmt := top 69
abbrev s_reckoned : Stmt := top 70
abbrev s_run_in : Stmt := top 74
abbrev s_run_with : Stmt := top 75
abbrev s_room_run : Stmt := top 76
abbrev s_check_places : Stmt := top 77
abbrev s_calls_at : Stmt := top 78
abbrev s_holds : Stmt := top 82
abbrev s_check_paper : Stmt := top 83
abbrev s_sheet_fits : Stmt := top 84
abbrev s_worths_fit : Stmt := top 85
abbrev s_asked_by : Stmt := top 86
abbrev s_handed_on : Stmt := top 87
abbrev s_entries_by : Stmt := top 88
abbrev s_entries : Stmt := top 89
abbrev s_worths_in : Stmt := top 90
abbrev s_worth_of : Stmt := top 91
abbrev s_entered_by : Stmt := top 92
abbrev s_either : Stmt := top 93
abbrev s_among : Stmt := top 94
abbrev s_shorts : Stmt := top 96
abbrev s_all_there : Stmt := top 97
abbrev s_none_over : Stmt := top 98
abbrev s_lies_on : Stmt := top 99
abbrev s_reached_by : Stmt := top 100
abbrev s_law_mix : Stmt := top 102
abbrev s_law_next : Stmt := top 103
abbrev s_law_alike : Stmt := top 104
abbrev s_law_leaf : Stmt := top 105
abbrev s_law_call : Stmt := top 106
abbrev s_law_less : Stmt := top 107
abbrev s_law_body : Stmt := top 108
abbrev s_law_words : Stmt := top 109
abbrev s_law_program : Stmt := top 110
abbrev s_law_tree : Stmt := top 111
abbrev s_law_kind : Stmt := top 112
abbrev s_law_odd : Stmt := top 113
abbrev s_law_works : Stmt := top 114
abbrev s_law : Stmt := top 115
abbrev s_BadProgram_init : Stmt := inClass (top 2) 0
abbrev s_BadText_init : Stmt := inClass (top 12) 0
abbrev s_Hall_init : Stmt := inClass (top 54) 0
abbrev s_Hall_look : Stmt := inClass (top 54) 1
abbrev s_Hall_there : Stmt := inClass (top 54) 2
abbrev s_Hall_cells : Stmt := inClass (top 54) 3
abbrev s_Hall_brought : Stmt := inClass (top 54) 4
abbrev s_Hall_has_part : Stmt := inClass (top 54) 5
abbrev s_Hall_bring : Stmt := inClass (top 54) 6
abbrev s_Fault_init : Stmt := inClass (top 65) 0
abbrev s_Run_init : Stmt := inClass (top 67) 0
abbrev s_Run_begin : Stmt := inClass (top 67) 1
abbrev s_Run_worth : Stmt := inClass (top 67) 2
abbrev s_Run_say : Stmt := inClass (top 67) 3
abbrev s_Run_call : Stmt := inClass (top 67) 4
abbrev s_Run_enter : Stmt := inClass (top 67) 5
abbrev s_Run_come_back : Stmt := inClass (top 67) 6
abbrev s_Lost_init : Stmt := inClass (top 72) 0
abbrev s_RoomRun_init : Stmt := inClass (top 73) 0
abbrev s_RoomRun_begin : Stmt := inClass (top 73) 1
abbrev s_RoomRun_enter : Stmt := inClass (top 73) 2
abbrev s_RoomRun_come_back : Stmt := inClass (top 73) 3
abbrev s_RoomRun_go_on : Stmt := inClass (top 73) 4
abbrev FnP (K : PySem.W.Frag) (x q : Str) (st : Stmt) (f : Addr) (fd : FuncData) : Prop := FunD K x q (defArgs st) (defBody st) (defScope st) [] [] f fd
/-! ### the head: facts by names, the run -/
def d_between : He.DefD := ⟨("between", none), "between", "between", defArgs s_between, defBody s_between, defScope s_between, [], []⟩
def d_given_of : He.DefD := ⟨("given_of", none), "given_of", "given_of", defArgs s_given_of, defBody s_given_of, defScope s_given_of, [], []⟩
def d_arms_of : He.DefD := ⟨("arms_of", none), "arms_of", "arms_of", defArgs s_arms_of, defBody s_arms_of, defScope s_arms_of, [], []⟩
def d_words_of : He.DefD := ⟨("words_of", none), "words_of", "words_of", defArgs s_words_of, defBody s_words_of, defScope s_words_of, [], []⟩
def d_add_word : He.DefD := ⟨("add_word", none), "add_word", "add_word", defArgs s_add_word, defBody s_add_word, defScope s_add_word, [], []⟩
def d_check_program : He.DefD := ⟨("check_program", none), "check_program", "check_program", defArgs s_check_program, defBody s_check_program, defScope s_check_program, [], []⟩
def d_check_function : He.DefD := ⟨("check_function", none), "check_function", "check_function", defArgs s_check_function, defBody s_check_function, defScope s_check_function, [], []⟩
def d_function_fits : He.DefD := ⟨("function_fits", none), "function_fits", "function_fits", defArgs s_function_fits, defBody s_function_fits, defScope s_function_fits, [], []⟩
def d_word_fits : He.DefD := ⟨("word_fits", none), "word_fits", "word_fits", defArgs s_word_fits, defBody s_word_fits, defScope s_word_fits, [], []⟩
def d_given_fits : He.DefD := ⟨("given_fits", none), "given_fits", "given_fits", defArgs s_given_fits, defBody s_given_fits, defScope s_given_fits, [], []⟩
def d_numbered : He.DefD := ⟨("numbered", none), "numbered", "numbered", defArgs s_numbered, defBody s_numbered, defScope s_numbered, [], []⟩
def d_places : He.DefD := ⟨("places", none), "places", "places", defArgs s_places, defBody s_places, defScope s_places, [], []⟩
def d_wanted : He.DefD := ⟨("wanted", none), "wanted", "wanted", defArgs s_wanted, defBody s_wanted, defScope s_wanted, [], []⟩
def d_way_down : He.DefD := ⟨("way_down", none), "way_down", "way_down", defArgs s_way_down, defBody s_way_down, defScope s_way_down, [], []⟩
def d_check_tree : He.DefD := ⟨("check_tree", none), "check_tree", "check_tree", defArgs s_check_tree, defBody s_check_tree, defScope s_check_tree, [], []⟩
def d_parts_fit : He.DefD := ⟨("parts_fit", none), "parts_fit", "parts_fit", defArgs s_parts_fit, defBody s_parts_fit, defScope s_parts_fit, [], []⟩
def d_part_fits : He.DefD := ⟨("part_fits", none), "part_fits", "part_fits", defArgs s_part_fits, defBody s_part_fits, defScope s_part_fits, [], []⟩
def d_rises : He.DefD := ⟨("rises", none), "rises", "rises", defArgs s_rises, defBody s_rises, defScope s_rises, [], []⟩
def d_stands_fit : He.DefD := ⟨("stands_fit", none), "stands_fit", "stands_fit", defArgs s_stands_fit, defBody s_stands_fit, defScope s_stands_fit, [], []⟩
def d_has_end : He.DefD := ⟨("has_end", none), "has_end", "has_end", defArgs s_has_end, defBody s_has_end, defScope s_has_end, [], []⟩
def d_parts_below : He.DefD := ⟨("parts_below", none), "parts_below", "parts_below", defArgs s_parts_below, defBody s_parts_below, defScope s_parts_below, [], []⟩
def d_size_of : He.DefD := ⟨("size_of", none), "size_of", "size_of", defArgs s_size_of, defBody s_size_of, defScope s_size_of, [], []⟩
def d_begins : He.DefD := ⟨("begins", none), "begins", "begins", defArgs s_begins, defBody s_begins, defScope s_begins, [], []⟩
def d_firsts_of : He.DefD := ⟨("firsts_of", none), "firsts_of", "firsts_of", defArgs s_firsts_of, defBody s_firsts_of, defScope s_firsts_of, [], []⟩
def d_end_of : He.DefD := ⟨("end_of", none), "end_of", "end_of", defArgs s_end_of, defBody s_end_of, defScope s_end_of, [], []⟩
def d_way_of : He.DefD := ⟨("way_of", none), "way_of", "way_of", defArgs s_way_of, defBody s_way_of, defScope s_way_of, [], []⟩
def d_check_room : He.DefD := ⟨("check_room", none), "check_room", "check_room", defArgs s_check_room, defBody s_check_room, defScope s_check_room, [], []⟩
def d_layouts : He.DefD := ⟨("layouts", none), "layouts", "layouts", defArgs s_layouts, defBody s_layouts, defScope s_layouts, [], []⟩
def d_cost : He.DefD := ⟨("cost", none), "cost", "cost", defArgs s_cost, defBody s_cost, defScope s_cost, [], []⟩
def d_check_trace : He.DefD := ⟨("check_trace", none), "check_trace", "check_trace", defArgs s_check_trace, defBody s_check_trace, defScope s_check_trace, [], []⟩
def d_brought_by : He.DefD := ⟨("brought_by", none), "brought_by", "brought_by", defArgs s_brought_by, defBody s_brought_by, defScope s_brought_by, [], []⟩
def d_check_number : He.DefD := ⟨("check_number", none), "check_number", "check_number", defArgs s_check_number, defBody s_check_number, defScope s_check_number, [], []⟩
def d_number_in : He.DefD := ⟨("number_in", none), "number_in", "number_in", defArgs s_number_in, defBody s_number_in, defScope s_number_in, [], []⟩
def d_end_of_way : He.DefD := ⟨("end_of_way", none), "end_of_way", "end_of_way", defArgs s_end_of_way, defBody s_end_of_way, defScope s_end_of_way, [], []⟩
def d_reckoned : He.DefD := ⟨("reckoned", none), "reckoned", "reckoned", defArgs s_reckoned, defBody s_reckoned, defScope s_reckoned, [], []⟩
def d_run_in : He.DefD := ⟨("run_in", none), "run_in", "run_in", defArgs s_run_in, defBody s_run_in, defScope s_run_in, [], []⟩
def d_run_with : He.DefD := ⟨("run_with", none), "run_with", "run_with", defArgs s_run_with, defBody s_run_with, defScope s_run_with, [], []⟩
def d_room_run : He.DefD := ⟨("room_run", none), "room_run", "room_run", defArgs s_room_run, defBody s_room_run, defScope s_room_run, [], []⟩
def d_check_places : He.DefD := ⟨("check_places", none), "check_places", "check_places", defArgs s_check_places, defBody s_check_places, defScope s_check_places, [], []⟩
def d_calls_at : He.DefD := ⟨("calls_at", none), "calls_at", "calls_at", defArgs s_calls_at, defBody s_calls_at, defScope s_calls_at, [], []⟩
def d_holds : He.DefD := ⟨("holds", none), "holds", "holds", defArgs s_holds, defBody s_holds, defScope s_holds, [], []⟩
def d_check_paper : He.DefD := ⟨("check_paper", none), "check_paper", "check_paper", defArgs s_check_paper, defBody s_check_paper, defScope s_check_paper, [], []⟩
def d_sheet_fits : He.DefD := ⟨("sheet_fits", none), "sheet_fits", "sheet_fits", defArgs s_sheet_fits, defBody s_sheet_fits, defScope s_sheet_fits, [], []⟩
def d_worths_fit : He.DefD := ⟨("worths_fit", none), "worths_fit", "worths_fit", defArgs s_worths_fit, defBody s_worths_fit, defScope s_worths_fit, [], []⟩
def d_asked_by : He.DefD := ⟨("asked_by", none), "asked_by", "asked_by", defArgs s_asked_by, defBody s_asked_by, defScope s_asked_by, [], []⟩
def d_handed_on : He.DefD := ⟨("handed_on", none), "handed_on", "handed_on", defArgs s_handed_on, defBody s_handed_on, defScope s_handed_on, [], []⟩
def d_entries_by : He.DefD := ⟨("entries_by", none), "entries_by", "entries_by", defArgs s_entries_by, defBody s_entries_by, defScope s_entries_by, [], []⟩
def d_entries : He.DefD := ⟨("entries", none), "entries", "entries", defArgs s_entries, defBody s_entries, defScope s_entries, [], []⟩
def d_worths_in : He.DefD := ⟨("worths_in", none), "worths_in", "worths_in", defArgs s_worths_in, defBody s_worths_in, defScope s_worths_in, [], []⟩
def d_worth_of : He.DefD := ⟨("worth_of", none), "worth_of", "worth_of", defArgs s_worth_of, defBody s_worth_of, defScope s_worth_of, [], []⟩
def d_entered_by : He.DefD := ⟨("entered_by", none), "entered_by", "entered_by", defArgs s_entered_by, defBody s_entered_by, defScope s_entered_by, [], []⟩
def d_either : He.DefD := ⟨("either", none), "either", "either", defArgs s_either, defBody s_either, defScope s_either, [], []⟩
def d_among : He.DefD := ⟨("among", none), "among", "among", defArgs s_among, defBody s_among, defScope s_among, [], []⟩
def d_shorts : He.DefD := ⟨("shorts", none), "shorts", "shorts", defArgs s_shorts, defBody s_shorts, defScope s_shorts, [], []⟩
def d_all_there : He.DefD := ⟨("all_there", none), "all_there", "all_there", defArgs s_all_there, defBody s_all_there, defScope s_all_there, [], []⟩
def d_none_over : He.DefD := ⟨("none_over", none), "none_over", "none_over", defArgs s_none_over, defBody s_none_over, defScope s_none_over, [], []⟩
def d_lies_on : He.DefD := ⟨("lies_on", none), "lies_on", "lies_on", defArgs s_lies_on, defBody s_lies_on, defScope s_lies_on, [], []⟩
def d_reached_by : He.DefD := ⟨("reached_by", none), "reached_by", "reached_by", defArgs s_reached_by, defBody s_reached_by, defScope s_reached_by, [], []⟩
def d_law_mix : He.DefD := ⟨("_law_mix", none), "_law_mix", "_law_mix", defArgs s_law_mix, defBody s_law_mix, defScope s_law_mix, [], []⟩
def d_law_next : He.DefD := ⟨("_law_next", none), "_law_next", "_law_next", defArgs s_law_next, defBody s_law_next, defScope s_law_next, [], []⟩
def d_law_alike : He.DefD := ⟨("_law_alike", none), "_law_alike", "_law_alike", defArgs s_law_alike, defBody s_law_alike, defScope s_law_alike, [], []⟩
def d_law_leaf : He.DefD := ⟨("_law_leaf", none), "_law_leaf", "_law_leaf", defArgs s_law_leaf, defBody s_law_leaf, defScope s_law_leaf, [], []⟩
def d_law_call : He.DefD := ⟨("_law_call", none), "_law_call", "_law_call", defArgs s_law_call, defBody s_law_call, defScope s_law_call, [], []⟩
def d_law_less : He.DefD := ⟨("_law_less", none), "_law_less", "_law_less", defArgs s_law_less, defBody s_law_less, defScope s_law_less, [], []⟩
def d_law_body : He.DefD := ⟨("_law_body", none), "_law_body", "_law_body", defArgs s_law_body, defBody s_law_body, defScope s_law_body, [], []⟩
def d_law_words : He.DefD := ⟨("_law_words", none), "_law_words", "_law_words", defArgs s_law_words, defBody s_law_words, defScope s_law_words, [], []⟩
def d_law_program : He.DefD := ⟨("_law_program", none), "_law_program", "_law_program", defArgs s_law_program, defBody s_law_program, defScope s_law_program, [], []⟩
def d_law_tree : He.DefD := ⟨("_law_tree", none), "_law_tree", "_law_tree", defArgs s_law_tree, defBody s_law_tree, defScope s_law_tree, [], []⟩
def d_law_kind : He.DefD := ⟨("_law_kind", none), "_law_kind", "_law_kind", defArgs s_law_kind, defBody s_law_kind, defScope s_law_kind, [], []⟩
def d_law_odd : He.DefD := ⟨("_law_odd", none), "_law_odd", "_law_odd", defArgs s_law_odd, defBody s_law_odd, defScope s_law_odd, [], []⟩
def d_law_works : He.DefD := ⟨("_law_works", none), "_law_works", "_law_works", defArgs s_law_works, defBody s_law_works, defScope s_law_works, [], []⟩
def d_law : He.DefD := ⟨("law", none), "law", "law", defArgs s_law, defBody s_law, defScope s_law, [], []⟩
def d_BadProgram_init : He.DefD := ⟨("BadProgram", (some "__init__")), "__init__", "BadProgram.__init__", defArgs s_BadProgram_init, defBody s_BadProgram_init, defScope s_BadProgram_init, [], []⟩
def d_BadText_init : He.DefD := ⟨("BadText", (some "__init__")), "__init__", "BadText.__init__", defArgs s_BadText_init, defBody s_BadText_init, defScope s_BadText_init, [], []⟩
def d_Hall_init : He.DefD := ⟨("Hall", (some "__init__")), "__init__", "Hall.__init__", defArgs s_Hall_init, defBody s_Hall_init, defScope s_Hall_init, [], []⟩
def d_Hall_look : He.DefD := ⟨("Hall", (some "look")), "look", "Hall.look", defArgs s_Hall_look, defBody s_Hall_look, defScope s_Hall_look, [], []⟩
def d_Hall_there : He.DefD := ⟨("Hall", (some "there")), "there", "Hall.there", defArgs s_Hall_there, defBody s_Hall_there, defScope s_Hall_there, [], []⟩
def d_Hall_cells : He.DefD := ⟨("Hall", (some "cells")), "cells", "Hall.cells", defArgs s_Hall_cells, defBody s_Hall_cells, defScope s_Hall_cells, [], []⟩
def d_Hall_brought : He.DefD := ⟨("Hall", (some "brought")), "brought", "Hall.brought", defArgs s_Hall_brought, defBody s_Hall_brought, defScope s_Hall_brought, [], []⟩
def d_Hall_has_part : He.DefD := ⟨("Hall", (some "has_part")), "has_part", "Hall.has_part", defArgs s_Hall_has_part, defBody s_Hall_has_part, defScope s_Hall_has_part, [], []⟩
def d_Hall_bring : He.DefD := ⟨("Hall", (some "bring")), "bring", "Hall.bring", defArgs s_Hall_bring, defBody s_Hall_bring, defScope s_Hall_bring, [], []⟩
def d_Fault_init : He.DefD := ⟨("Fault", (some "__init__")), "__init__", "Fault.__init__", defArgs s_Fault_init, defBody s_Fault_init, defScope s_Fault_init, [], []⟩
def d_Run_init : He.DefD := ⟨("Run", (some "__init__")), "__init__", "Run.__init__", defArgs s_Run_init, defBody s_Run_init, defScope s_Run_init, [], []⟩
def d_Run_begin : He.DefD := ⟨("Run", (some "begin")), "begin", "Run.begin", defArgs s_Run_begin, defBody s_Run_begin, defScope s_Run_begin, [], []⟩
def d_Run_worth : He.DefD := ⟨("Run", (some "worth")), "worth", "Run.worth", defArgs s_Run_worth, defBody s_Run_worth, defScope s_Run_worth, [], []⟩
def d_Run_say : He.DefD := ⟨("Run", (some "say")), "say", "Run.say", defArgs s_Run_say, defBody s_Run_say, defScope s_Run_say, [], []⟩
def d_Run_call : He.DefD := ⟨("Run", (some "call")), "call", "Run.call", defArgs s_Run_call, defBody s_Run_call, defScope s_Run_call, [], []⟩
def d_Run_enter : He.DefD := ⟨("Run", (some "enter")), "enter", "Run.enter", defArgs s_Run_enter, defBody s_Run_enter, defScope s_Run_enter, [], []⟩
def d_Run_come_back : He.DefD := ⟨("Run", (some "come_back")), "come_back", "Run.come_back", defArgs s_Run_come_back, defBody s_Run_come_back, defScope s_Run_come_back, [], []⟩
def d_Lost_init : He.DefD := ⟨("Lost", (some "__init__")), "__init__", "Lost.__init__", defArgs s_Lost_init, defBody s_Lost_init, defScope s_Lost_init, [], []⟩
def d_RoomRun_init : He.DefD := ⟨("RoomRun", (some "__init__")), "__init__", "RoomRun.__init__", defArgs s_RoomRun_init, defBody s_RoomRun_init, defScope s_RoomRun_init, [], []⟩
def d_RoomRun_begin : He.DefD := ⟨("RoomRun", (some "begin")), "begin", "RoomRun.begin", defArgs s_RoomRun_begin, defBody s_RoomRun_begin, defScope s_RoomRun_begin, [], []⟩
def d_RoomRun_enter : He.DefD := ⟨("RoomRun", (some "enter")), "enter", "RoomRun.enter", defArgs s_RoomRun_enter, defBody s_RoomRun_enter, defScope s_RoomRun_enter, [], []⟩
def d_RoomRun_come_back : He.DefD := ⟨("RoomRun", (some "come_back")), "come_back", "RoomRun.come_back", defArgs s_RoomRun_come_back, defBody s_RoomRun_come_back, defScope s_RoomRun_come_back, [], []⟩
def d_RoomRun_go_on : He.DefD := ⟨("RoomRun", (some "go_on")), "go_on", "RoomRun.go_on", defArgs s_RoomRun_go_on, defBody s_RoomRun_go_on, defScope s_RoomRun_go_on, [], []⟩
def fn : List He.DefD := [d_between, d_given_of, d_arms_of, d_words_of, d_add_word, d_check_program, d_check_function, d_function_fits, d_word_fits, d_given_fits, d_places, d_wanted, d_way_down, d_check_tree, d_parts_fit, d_part_fits, d_rises, d_stands_fit, d_has_end, d_parts_below, d_size_of, d_begins, d_firsts_of, d_end_of, d_way_of, d_cost, d_run_in, d_run_with, d_room_run, d_shorts, d_law_mix, d_law_next, d_law_alike, d_law_leaf, d_law_call, d_law_less, d_law_body, d_law_words, d_law_program, d_law_tree, d_law_kind, d_law_odd, d_law_works, d_law, d_Hall_init]
def fa : List He.Fa := [.glo "HallError", .glo "BadProgram", .glo "BadNumber", .glo "BadTree", .glo "BadRoom", .glo "BadFunction", .glo "BadPaper", .glo "NotShown", .glo "BadPlace", .glo "BadTrace", .glo "TooMany", .glo "BadText", .glo "between", .glo "ARMS", .glo "GIVEN", .glo "CALLS", .glo "given_of", .glo "arms_of", .glo "words_of", .glo "add_word", .glo "check_program", .glo "check_function", .glo "function_fits", .glo "word_fits", .glo "given_fits", .glo "numbered", .glo "places", .glo "wanted", .glo "way_down", .glo "check_tree", .glo "parts_fit", .glo "part_fits", .glo "rises", .glo "stands_fit", .glo "has_end", .glo "parts_below", .glo "size_of", .glo "begins", .glo "firsts_of", .glo "end_of", .glo "way_of", .glo "Hall", .glo "check_room", .glo "layouts", .glo "cost", .glo "check_trace", .glo "brought_by", .glo "Fault", .glo "check_number", .glo "Run", .glo "number_in", .glo "end_of_way", .glo "reckoned", .glo "Lost", .glo "RoomRun", .glo "run_in", .glo "run_with", .glo "room_run", .glo "check_places", .glo "calls_at", .glo "NOTHING", .glo "A_NUMBER", .glo "holds", .glo "check_paper", .glo "sheet_fits", .glo "worths_fit", .glo "asked_by", .glo "handed_on", .glo "entries_by", .glo "entries", .glo "worths_in", .glo "worth_of", .glo "entered_by", .glo "either", .glo "among", .glo "shorts", .glo "all_there", .glo "none_over", .glo "lies_on", .glo "reached_by", .glo "_law_mix", .glo "_law_next", .glo "_law_alike", .glo "_law_leaf", .glo "_law_call", .glo "_law_less", .glo "_law_body", .glo "_law_words", .glo "_law_program", .glo "_law_tree", .glo "_law_kind", .glo "_law_odd", .glo "_law_works", .glo "law", .free "Exception", .free "ValueError", .free "all", .free "bool", .free "enumerate", .free "int", .free "isinstance", .free "len", .free "list", .free "max", .free "range", .free "reversed", .free "set", .free "sorted", .free "str", .free "sum", .free "super", .free "tuple", .free "zip", .int "MOST_FUNCTIONS" 8, .int "MOST_CELLS" 8, .int "MOST_WORDS" 40, .int "MOST_AROUND" 6, .int "GREATEST_WRITTEN" 99, .int "NO_PART" (-1), .int "MOST_ROOM" 64, .int "NUMBERS" 1000, .int "MOST_OTHERS" 12, .int "MOST_CALLS" 200, .cls "Hall", .mkr "Hall", .noat "Hall" "layouts", .noat "Hall" "lying", .noat "Hall" "moved", .noat "Hall" "ways", .exc "HallError", .exc "BadNumber", .exc "BadTree", .exc "BadRoom", .exc "BadFunction", .exc "BadPaper", .exc "NotShown", .exc "BadPlace", .exc "BadTrace", .exc "TooMany", .exm "HallError" "HallError" true, .exm "BadNumber" "BadNumber" true, .exm "BadNumber" "HallError" true, .exm "BadTree" "BadTree" true, .exm "BadTree" "HallError" true, .exm "BadRoom" "BadRoom" true, .exm "BadRoom" "HallError" true, .exm "BadFunction" "BadFunction" true, .exm "BadFunction" "HallError" true, .exm "BadPaper" "BadPaper" true, .exm "BadPaper" "HallError" true, .exm "NotShown" "NotShown" true, .exm "NotShown" "HallError" true, .exm "BadPlace" "BadPlace" true, .exm "BadPlace" "HallError" true, .exm "BadTrace" "BadTrace" true, .exm "BadTrace" "HallError" true, .exm "TooMany" "TooMany" true, .exm "TooMany" "HallError" true]
def kv_ARMS : List (Str × He.Dv) := [("num", .int 0), ("argument", .int 0), ("way", .int 0), ("plus", .int 2), ("less", .int 2), ("times", .int 2), ("if", .int 3), ("then", .int 2), ("say", .int 1), ("call", .int 1), ("through", .int 2)]
def kv_GIVEN : List (Str × He.Dv) := [("num", .str "number"), ("way", .str "function"), ("call", .str "function")]
def miss_ARMS : List Str := []
def miss_GIVEN : List Str := ["argument", "plus", "less", "times", "if", "then", "say", "through"]
def tf : List He.Defn := [("law", none), ("_law_works", none)]
def ts : List He.Tab := [(fun K => He.ga K "ARMS", ["num", "argument", "way", "plus", "less", "times", "if", "then", "say", "call", "through"]), (fun K => He.ga K "GIVEN", ["num", "way", "call"])]
def ex (K : PySem.W.Frag) : Bool := He.valsB K (He.ga K "ARMS") kv_ARMS && He.valsB K (He.ga K "GIVEN") kv_GIVEN && (miss_GIVEN.all fun x => He.eqO (PySem.W.nsIn K (He.ga K "GIVEN") x) (some none)) && decide ((He.cT K ("law", none)).2 ≠ (He.cT K ("_law_works", none)).2) && Ov.excKB K (He.ga K "BadTree") [(.ref (He.ga K "BadProgram"), false), (.ref (He.ga K "BadNumber"), false), (.ref (He.ga K "BadTree"), true), (.ref (He.ga K "BadRoom"), false), (.ref (He.ga K "BadFunction"), false), (.ref (He.ga K "BadPaper"), false), (.ref (He.ga K "NotShown"), false), (.ref (He.ga K "BadPlace"), false), (.ref (He.ga K "BadTrace"), false), (.ref (He.ga K "TooMany"), false), (.ref (He.ga K "BadText"), false), (.type "ValueError", true)] && Ov.excKB K (He.ga K "BadFunction") [(.ref (He.ga K "BadProgram"), false), (.ref (He.ga K "BadNumber"), false), (.ref (He.ga K "BadTree"), false), (.ref (He.ga K "BadRoom"), false), (.ref (He.ga K "BadFunction"), true), (.ref (He.ga K "BadPaper"), false), (.ref (He.ga K "NotShown"), false), (.ref (He.ga K "BadPlace"), false), (.ref (He.ga K "BadTrace"), false), (.ref (He.ga K "TooMany"), false), (.ref (He.ga K "BadText"), false), (.type "ValueError", true)]
abbrev R : PySem.W.OpenRow := PySem.W.OpenLaw.row PySem.Challenge.rw_overlayhall_k03_trees_refused
def rt0 : List PySem.Str := ["HallError", "BadProgram", "BadNumber", "BadTree", "BadRoom", "BadFunction", "BadPaper", "NotShown", "BadPlace", "BadTrace", "TooMany", "BadText", "between", "ARMS", "GIVEN", "given_of", "arms_of", "words_of", "add_word", "check_program", "check_function", "function_fits", "word_fits", "given_fits", "places", "wanted", "way_down", "check_tree", "parts_fit", "part_fits"]
def rt1 : List PySem.Str := ["rises", "stands_fit", "has_end", "parts_below", "size_of", "begins", "firsts_of", "end_of", "way_of", "Hall", "cost", "run_in", "run_with", "room_run", "shorts", "_law_mix", "_law_next", "_law_alike", "_law_leaf", "_law_call", "_law_less", "_law_body", "_law_words", "_law_program", "_law_tree", "_law_kind", "_law_odd", "_law_works", "law"]
def rt : List PySem.Str := rt0 ++ rt1
abbrev hk : PySem.W.Hook := Ov.hookN 3 rt fa fn ts tf ex
def ob (s : PySem.W.SharedT) : He.AlX := Ov.obsN 3 rt fa fn ts tf ex (HandSHeadRun.getT s)
theorem ob_eq (s : PySem.W.SharedT) : ob s = hk.obs s.abs := Ov.obsN_eq (HandSHeadRun.getT_eq s)
def names0 : List PySem.Str := ["HallError", "BadProgram", "BadNumber", "BadTree", "BadRoom", "BadFunction", "BadPaper", "NotShown", "BadPlace", "BadTrace", "TooMany", "BadText", "between", "ARMS", "GIVEN", "CALLS", "given_of", "arms_of", "words_of", "add_word", "MOST_FUNCTIONS", "MOST_CELLS", "MOST_WORDS", "MOST_AROUND", "GREATEST_WRITTEN", "check_program", "check_function", "function_fits", "word_fits", "given_fits"]
def names1 : List PySem.Str := ["numbered", "NO_PART", "places", "wanted", "way_down", "check_tree", "parts_fit", "part_fits", "rises", "stands_fit", "has_end", "parts_below", "size_of", "begins", "firsts_of", "end_of", "way_of", "MOST_ROOM", "Hall", "check_room", "layouts", "cost", "check_trace", "brought_by", "NUMBERS", "MOST_OTHERS", "MOST_CALLS", "Fault", "check_number", "Run"]
def names2 : List PySem.Str := ["number_in", "end_of_way", "reckoned", "Lost", "RoomRun", "run_in", "run_with", "room_run", "check_places", "calls_at", "NOTHING", "A_NUMBER", "holds", "check_paper", "sheet_fits", "worths_fit", "asked_by", "handed_on", "entries_by", "entries", "worths_in", "worth_of", "entered_by", "either", "among", "shorts", "all_there", "none_over", "lies_on", "reached_by"]
def names3 : List PySem.Str := ["_law_mix", "_law_next", "_law_alike", "_law_leaf", "_law_call", "_law_less", "_law_body", "_law_words", "_law_program", "_law_tree", "_law_kind", "_law_odd", "_law_works"]
def names : List PySem.Str := names0 ++ names1 ++ names2 ++ names3
abbrev RunP (w : World) : Prop := HandSHeadRun.RunEq R (PySem.W.view R.prog [115]) hk ob 9000 names w
abbrev RunA (w : World) : Prop := Ov.PartN0 R (PySem.W.view R.prog [115]) names 9000 w
abbrev RunB (w : World) : Prop := Ov.PartN1 3 rt fa fn ts tf ex R 9000 w
theorem runAF (w : World) : RunA (w.withFollow "special-get-raises" false) := by
  intro os
  kernel_rfl
theorem runAT (w : World) : RunA (w.withFollow "special-get-raises" true) := by
  intro os
  kernel_rfl
theorem runBF (w : World) : RunB (w.withFollow "special-get-raises" false) := by
  intro os
  kernel_rfl
theorem runBT (w : World) : RunB (w.withFollow "special-get-raises" true) := by
  intro os
  kernel_rfl
theorem run (w : World) : RunP w := Ov.runN_join (PySem.W.byRow2 "special-get-raises" (P := RunA) runAF runAT w) (PySem.W.byRow2 "special-get-raises" (P := RunB) runBF runBT w)
/-! ### the facts by name -/
def fdOf (K : PySem.W.Frag) (d : He.DefD) : FuncData := match K.lookup (He.fAd K d.at_) with
  | some ⟨_, _, .func fd, _⟩ => fd
  | _ => PySem.W.fnOf d.name d.qual d.params d.body d.scope .none .none .none .none none .none .none
theorem fdOf_eq {K : PySem.W.Frag} {d : He.DefD} {fd : FuncData} (F : FunD K d.name d.qual d.params d.body d.scope (d.dvs K) (d.kws K) (He.fAd K d.at_) fd) : FunD K d.name d.qual d.params d.body d.scope (d.dvs K) (d.kws K) (He.fAd K d.at_) (fdOf K d) := by
  obtain ⟨oc, od, dV, kV, doc, pm, an, cdv, ct, osl, _, lk, h⟩ := F.ex
  have e : fdOf K d = fd := by
    unfold fdOf
    rw [lk]
  rw [e]
  exact F
structure Txt (w : World) (K : PySem.W.Frag) (mg : Str → Option Value) : Prop where
  g_HallError : mg "HallError" = some (.ref (He.ga K "HallError"))
  g_BadProgram : mg "BadProgram" = some (.ref (He.ga K "BadProgram"))
  g_BadNumber : mg "BadNumber" = some (.ref (He.ga K "BadNumber"))
  g_BadTree : mg "BadTree" = some (.ref (He.ga K "BadTree"))
  g_BadRoom : mg "BadRoom" = some (.ref (He.ga K "BadRoom"))
  g_BadFunction : mg "BadFunction" = some (.ref (He.ga K "BadFunction"))
  g_BadPaper : mg "BadPaper" = some (.ref (He.ga K "BadPaper"))
  g_NotShown : mg "NotShown" = some (.ref (He.ga K "NotShown"))
  g_BadPlace : mg "BadPlace" = some (.ref (He.ga K "BadPlace"))
  g_BadTrace : mg "BadTrace" = some (.ref (He.ga K "BadTrace"))
  g_TooMany : mg "TooMany" = some (.ref (He.ga K "TooMany"))
  g_BadText : mg "BadText" = some (.ref (He.ga K "BadText"))
  g_between : mg "between" = some (.ref (He.ga K "between"))
  g_ARMS : mg "ARMS" = some (.ref (He.ga K "ARMS"))
  g_GIVEN : mg "GIVEN" = some (.ref (He.ga K "GIVEN"))
  g_CALLS : mg "CALLS" = some (.ref (He.ga K "CALLS"))
  g_given_of : mg "given_of" = some (.ref (He.ga K "given_of"))
  g_arms_of : mg "arms_of" = some (.ref (He.ga K "arms_of"))
  g_words_of : mg "words_of" = some (.ref (He.ga K "words_of"))
  g_add_word : mg "add_word" = some (.ref (He.ga K "add_word"))
  g_check_program : mg "check_program" = some (.ref (He.ga K "check_program"))
  g_check_function : mg "check_function" = some (.ref (He.ga K "check_function"))
  g_function_fits : mg "function_fits" = some (.ref (He.ga K "function_fits"))
  g_word_fits : mg "word_fits" = some (.ref (He.ga K "word_fits"))
  g_given_fits : mg "given_fits" = some (.ref (He.ga K "given_fits"))
  g_numbered : mg "numbered" = some (.ref (He.ga K "numbered"))
  g_places : mg "places" = some (.ref (He.ga K "places"))
  g_wanted : mg "wanted" = some (.ref (He.ga K "wanted"))
  g_way_down : mg "way_down" = some (.ref (He.ga K "way_down"))
  g_check_tree : mg "check_tree" = some (.ref (He.ga K "check_tree"))
  g_parts_fit : mg "parts_fit" = some (.ref (He.ga K "parts_fit"))
  g_part_fits : mg "part_fits" = some (.ref (He.ga K "part_fits"))
  g_rises : mg "rises" = some (.ref (He.ga K "rises"))
  g_stands_fit : mg "stands_fit" = some (.ref (He.ga K "stands_fit"))
  g_has_end : mg "has_end" = some (.ref (He.ga K "has_end"))
  g_parts_below : mg "parts_below" = some (.ref (He.ga K "parts_below"))
  g_size_of : mg "size_of" = some (.ref (He.ga K "size_of"))
  g_begins : mg "begins" = some (.ref (He.ga K "begins"))
  g_firsts_of : mg "firsts_of" = some (.ref (He.ga K "firsts_of"))
  g_end_of : mg "end_of" = some (.ref (He.ga K "end_of"))
  g_way_of : mg "way_of" = some (.ref (He.ga K "way_of"))
  g_Hall : mg "Hall" = some (.ref (He.ga K "Hall"))
  g_check_room : mg "check_room" = some (.ref (He.ga K "check_room"))
  g_layouts : mg "layouts" = some (.ref (He.ga K "layouts"))
  g_cost : mg "cost" = some (.ref (He.ga K "cost"))
  g_check_trace : mg "check_trace" = some (.ref (He.ga K "check_trace"))
  g_brought_by : mg "brought_by" = some (.ref (He.ga K "brought_by"))
  g_Fault : mg "Fault" = some (.ref (He.ga K "Fault"))
  g_check_number : mg "check_number" = some (.ref (He.ga K "check_number"))
  g_Run : mg "Run" = some (.ref (He.ga K "Run"))
  g_number_in : mg "number_in" = some (.ref (He.ga K "number_in"))
  g_end_of_way : mg "end_of_way" = some (.ref (He.ga K "end_of_way"))
  g_reckoned : mg "reckoned" = some (.ref (He.ga K "reckoned"))
  g_Lost : mg "Lost" = some (.ref (He.ga K "Lost"))
  g_RoomRun : mg "RoomRun" = some (.ref (He.ga K "RoomRun"))
  g_run_in : mg "run_in" = some (.ref (He.ga K "run_in"))
  g_run_with : mg "run_with" = some (.ref (He.ga K "run_with"))
  g_room_run : mg "room_run" = some (.ref (He.ga K "room_run"))
  g_check_places : mg "check_places" = some (.ref (He.ga K "check_places"))
  g_calls_at : mg "calls_at" = some (.ref (He.ga K "calls_at"))
  g_NOTHING : mg "NOTHING" = some (.ref (He.ga K "NOTHING"))
  g_A_NUMBER : mg "A_NUMBER" = some (.ref (He.ga K "A_NUMBER"))
  g_holds : mg "holds" = some (.ref (He.ga K "holds"))
  g_check_paper : mg "check_paper" = some (.ref (He.ga K "check_paper"))
  g_sheet_fits : mg "sheet_fits" = some (.ref (He.ga K "sheet_fits"))
  g_worths_fit : mg "worths_fit" = some (.ref (He.ga K "worths_fit"))
  g_asked_by : mg "asked_by" = some (.ref (He.ga K "asked_by"))
  g_handed_on : mg "handed_on" = some (.ref (He.ga K "handed_on"))
  g_entries_by : mg "entries_by" = some (.ref (He.ga K "entries_by"))
  g_entries : mg "entries" = some (.ref (He.ga K "entries"))
  g_worths_in : mg "worths_in" = some (.ref (He.ga K "worths_in"))
  g_worth_of : mg "worth_of" = some (.ref (He.ga K "worth_of"))
  g_entered_by : mg "entered_by" = some (.ref (He.ga K "entered_by"))
  g_either : mg "either" = some (.ref (He.ga K "either"))
  g_among : mg "among" = some (.ref (He.ga K "among"))
  g_shorts : mg "shorts" = some (.ref (He.ga K "shorts"))
  g_all_there : mg "all_there" = some (.ref (He.ga K "all_there"))
  g_none_over : mg "none_over" = some (.ref (He.ga K "none_over"))
  g_lies_on : mg "lies_on" = some (.ref (He.ga K "lies_on"))
  g_reached_by : mg "reached_by" = some (.ref (He.ga K "reached_by"))
  g_law_mix : mg "_law_mix" = some (.ref (He.ga K "_law_mix"))
  g_law_next : mg "_law_next" = some (.ref (He.ga K "_law_next"))
  g_law_alike : mg "_law_alike" = some (.ref (He.ga K "_law_alike"))
  g_law_leaf : mg "_law_leaf" = some (.ref (He.ga K "_law_leaf"))
  g_law_call : mg "_law_call" = some (.ref (He.ga K "_law_call"))
  g_law_less : mg "_law_less" = some (.ref (He.ga K "_law_less"))
  g_law_body : mg "_law_body" = some (.ref (He.ga K "_law_body"))
  g_law_words : mg "_law_words" = some (.ref (He.ga K "_law_words"))
  g_law_program : mg "_law_program" = some (.ref (He.ga K "_law_program"))
  g_law_tree : mg "_law_tree" = some (.ref (He.ga K "_law_tree"))
  g_law_kind : mg "_law_kind" = some (.ref (He.ga K "_law_kind"))
  g_law_odd : mg "_law_odd" = some (.ref (He.ga K "_law_odd"))
  g_law_works : mg "_law_works" = some (.ref (He.ga K "_law_works"))
  g_law : mg "law" = some (.ref (He.ga K "law"))
  z_Exception : mg "Exception" = none
  z_ValueError : mg "ValueError" = none
  z_all : mg "all" = none
  z_bool : mg "bool" = none
  z_enumerate : mg "enumerate" = none
  z_int : mg "int" = none
  z_isinstance : mg "isinstance" = none
  z_len : mg "len" = none
  z_list : mg "list" = none
  z_max : mg "max" = none
  z_range : mg "range" = none
  z_reversed : mg "reversed" = none
  z_set : mg "set" = none
  z_sorted : mg "sorted" = none
  z_str : mg "str" = none
  z_sum : mg "sum" = none
  z_super : mg "super" = none
  z_tuple : mg "tuple" = none
  z_zip : mg "zip" = none
  i_MOST_FUNCTIONS : ∃ t, mg "MOST_FUNCTIONS" = some (.int 8 t)
  i_MOST_CELLS : ∃ t, mg "MOST_CELLS" = some (.int 8 t)
  i_MOST_WORDS : ∃ t, mg "MOST_WORDS" = some (.int 40 t)
  i_MOST_AROUND : ∃ t, mg "MOST_AROUND" = some (.int 6 t)
  i_GREATEST_WRITTEN : ∃ t, mg "GREATEST_WRITTEN" = some (.int 99 t)
  i_NO_PART : ∃ t, mg "NO_PART" = some (.int (-1) t)
  i_MOST_ROOM : ∃ t, mg "MOST_ROOM" = some (.int 64 t)
  i_NUMBERS : ∃ t, mg "NUMBERS" = some (.int 1000 t)
  i_MOST_OTHERS : ∃ t, mg "MOST_OTHERS" = some (.int 12 t)
  i_MOST_CALLS : ∃ t, mg "MOST_CALLS" = some (.int 200 t)
  F_between : FnP K "between" "between" s_between (He.ga K "between") (fdOf K d_between)
  F_given_of : FnP K "given_of" "given_of" s_given_of (He.ga K "given_of") (fdOf K d_given_of)
  F_arms_of : FnP K "arms_of" "arms_of" s_arms_of (He.ga K "arms_of") (fdOf K d_arms_of)
  F_words_of : FnP K "words_of" "words_of" s_words_of (He.ga K "words_of") (fdOf K d_words_of)
  F_add_word : FnP K "add_word" "add_word" s_add_word (He.ga K "add_word") (fdOf K d_add_word)
  F_check_program : FnP K "check_program" "check_program" s_check_program (He.ga K "check_program") (fdOf K d_check_program)
  F_check_function : FnP K "check_function" "check_function" s_check_function (He.ga K "check_function") (fdOf K d_check_function)
  F_function_fits : FnP K "function_fits" "function_fits" s_function_fits (He.ga K "function_fits") (fdOf K d_function_fits)
  F_word_fits : FnP K "word_fits" "word_fits" s_word_fits (He.ga K "word_fits") (fdOf K d_word_fits)
  F_given_fits : FnP K "given_fits" "given_fits" s_given_fits (He.ga K "given_fits") (fdOf K d_given_fits)
  F_places : FnP K "places" "places" s_places (He.ga K "places") (fdOf K d_places)
  F_wanted : FnP K "wanted" "wanted" s_wanted (He.ga K "wanted") (fdOf K d_wanted)
  F_way_down : FnP K "way_down" "way_down" s_way_down (He.ga K "way_down") (fdOf K d_way_down)
  F_check_tree : FnP K "check_tree" "check_tree" s_check_tree (He.ga K "check_tree") (fdOf K d_check_tree)
  F_parts_fit : FnP K "parts_fit" "parts_fit" s_parts_fit (He.ga K "parts_fit") (fdOf K d_parts_fit)
  F_part_fits : FnP K "part_fits" "part_fits" s_part_fits (He.ga K "part_fits") (fdOf K d_part_fits)
  F_rises : FnP K "rises" "rises" s_rises (He.ga K "rises") (fdOf K d_rises)
  F_stands_fit : FnP K "stands_fit" "stands_fit" s_stands_fit (He.ga K "stands_fit") (fdOf K d_stands_fit)
  F_has_end : FnP K "has_end" "has_end" s_has_end (He.ga K "has_end") (fdOf K d_has_end)
  F_parts_below : FnP K "parts_below" "parts_below" s_parts_below (He.ga K "parts_below") (fdOf K d_parts_below)
  F_size_of : FnP K "size_of" "size_of" s_size_of (He.ga K "size_of") (fdOf K d_size_of)
  F_begins : FnP K "begins" "begins" s_begins (He.ga K "begins") (fdOf K d_begins)
  F_firsts_of : FnP K "firsts_of" "firsts_of" s_firsts_of (He.ga K "firsts_of") (fdOf K d_firsts_of)
  F_end_of : FnP K "end_of" "end_of" s_end_of (He.ga K "end_of") (fdOf K d_end_of)
  F_way_of : FnP K "way_of" "way_of" s_way_of (He.ga K "way_of") (fdOf K d_way_of)
  F_cost : FnP K "cost" "cost" s_cost (He.ga K "cost") (fdOf K d_cost)
  F_run_in : FnP K "run_in" "run_in" s_run_in (He.ga K "run_in") (fdOf K d_run_in)
  F_run_with : FnP K "run_with" "run_with" s_run_with (He.ga K "run_with") (fdOf K d_run_with)
  F_room_run : FnP K "room_run" "room_run" s_room_run (He.ga K "room_run") (fdOf K d_room_run)
  F_shorts : FnP K "shorts" "shorts" s_shorts (He.ga K "shorts") (fdOf K d_shorts)
  F_law_mix : FnP K "_law_mix" "_law_mix" s_law_mix (He.ga K "_law_mix") (fdOf K d_law_mix)
  F_law_next : FnP K "_law_next" "_law_next" s_law_next (He.ga K "_law_next") (fdOf K d_law_next)
  F_law_alike : FnP K "_law_alike" "_law_alike" s_law_alike (He.ga K "_law_alike") (fdOf K d_law_alike)
  F_law_leaf : FnP K "_law_leaf" "_law_leaf" s_law_leaf (He.ga K "_law_leaf") (fdOf K d_law_leaf)
  F_law_call : FnP K "_law_call" "_law_call" s_law_call (He.ga K "_law_call") (fdOf K d_law_call)
  F_law_less : FnP K "_law_less" "_law_less" s_law_less (He.ga K "_law_less") (fdOf K d_law_less)
  F_law_body : FnP K "_law_body" "_law_body" s_law_body (He.ga K "_law_body") (fdOf K d_law_body)
  F_law_words : FnP K "_law_words" "_law_words" s_law_words (He.ga K "_law_words") (fdOf K d_law_words)
  F_law_program : FnP K "_law_program" "_law_program" s_law_program (He.ga K "_law_program") (fdOf K d_law_program)
  F_law_tree : FnP K "_law_tree" "_law_tree" s_law_tree (He.ga K "_law_tree") (fdOf K d_law_tree)
  F_law_kind : FnP K "_law_kind" "_law_kind" s_law_kind (He.ga K "_law_kind") (fdOf K d_law_kind)
  F_law_odd : FnP K "_law_odd" "_law_odd" s_law_odd (He.ga K "_law_odd") (fdOf K d_law_odd)
  F_law_works : FnP K "_law_works" "_law_works" s_law_works (He.ga K "_law_works") (fdOf K d_law_works)
  F_law : FnP K "law" "law" s_law (He.ga K "law") (fdOf K d_law)
  c_Hall : Cls K (He.ga K "Hall")
  k_Hall : Mk K (He.ga K "Hall") (He.ma K (He.ga K "Hall") "__init__")
  a_Hall_layouts : NoAttr K (He.ga K "Hall") "layouts"
  a_Hall_lying : NoAttr K (He.ga K "Hall") "lying"
  a_Hall_moved : NoAttr K (He.ga K "Hall") "moved"
  a_Hall_ways : NoAttr K (He.ga K "Hall") "ways"
  F_Hall_init : FnP K "__init__" "Hall.__init__" s_Hall_init (He.ma K (He.ga K "Hall") "__init__") (fdOf K d_Hall_init)
  x_HallError : PySem.W.excIn K (He.ga K "HallError") He.veBase "ValueError.__new__" = true ∧ PySem.W.keepIn K (.ref (He.ga K "HallError")) = true ∧ PySem.W.subIn K (.ref (He.ga K "HallError")) (.type "BaseException") = some true ∧ PySem.W.typeIn K (.ref (He.ga K "HallError")) = some (.type "type")
  x_BadNumber : PySem.W.excIn K (He.ga K "BadNumber") He.veBase "ValueError.__new__" = true ∧ PySem.W.keepIn K (.ref (He.ga K "BadNumber")) = true ∧ PySem.W.subIn K (.ref (He.ga K "BadNumber")) (.type "BaseException") = some true ∧ PySem.W.typeIn K (.ref (He.ga K "BadNumber")) = some (.type "type")
  x_BadTree : PySem.W.excIn K (He.ga K "BadTree") He.veBase "ValueError.__new__" = true ∧ PySem.W.keepIn K (.ref (He.ga K "BadTree")) = true ∧ PySem.W.subIn K (.ref (He.ga K "BadTree")) (.type "BaseException") = some true ∧ PySem.W.typeIn K (.ref (He.ga K "BadTree")) = some (.type "type")
  x_BadRoom : PySem.W.excIn K (He.ga K "BadRoom") He.veBase "ValueError.__new__" = true ∧ PySem.W.keepIn K (.ref (He.ga K "BadRoom")) = true ∧ PySem.W.subIn K (.ref (He.ga K "BadRoom")) (.type "BaseException") = some true ∧ PySem.W.typeIn K (.ref (He.ga K "BadRoom")) = some (.type "type")
  x_BadFunction : PySem.W.excIn K (He.ga K "BadFunction") He.veBase "ValueError.__new__" = true ∧ PySem.W.keepIn K (.ref (He.ga K "BadFunction")) = true ∧ PySem.W.subIn K (.ref (He.ga K "BadFunction")) (.type "BaseException") = some true ∧ PySem.W.typeIn K (.ref (He.ga K "BadFunction")) = some (.type "type")
  x_BadPaper : PySem.W.excIn K (He.ga K "BadPaper") He.veBase "ValueError.__new__" = true ∧ PySem.W.keepIn K (.ref (He.ga K "BadPaper")) = true ∧ PySem.W.subIn K (.ref (He.ga K "BadPaper")) (.type "BaseException") = some true ∧ PySem.W.typeIn K (.ref (He.ga K "BadPaper")) = some (.type "type")
  x_NotShown : PySem.W.excIn K (He.ga K "NotShown") He.veBase "ValueError.__new__" = true ∧ PySem.W.keepIn K (.ref (He.ga K "NotShown")) = true ∧ PySem.W.subIn K (.ref (He.ga K "NotShown")) (.type "BaseException") = some true ∧ PySem.W.typeIn K (.ref (He.ga K "NotShown")) = some (.type "type")
  x_BadPlace : PySem.W.excIn K (He.ga K "BadPlace") He.veBase "ValueError.__new__" = true ∧ PySem.W.keepIn K (.ref (He.ga K "BadPlace")) = true ∧ PySem.W.subIn K (.ref (He.ga K "BadPlace")) (.type "BaseException") = some true ∧ PySem.W.typeIn K (.ref (He.ga K "BadPlace")) = some (.type "type")
  x_BadTrace : PySem.W.excIn K (He.ga K "BadTrace") He.veBase "ValueError.__new__" = true ∧ PySem.W.keepIn K (.ref (He.ga K "BadTrace")) = true ∧ PySem.W.subIn K (.ref (He.ga K "BadTrace")) (.type "BaseException") = some true ∧ PySem.W.typeIn K (.ref (He.ga K "BadTrace")) = some (.type "type")
  x_TooMany : PySem.W.excIn K (He.ga K "TooMany") He.veBase "ValueError.__new__" = true ∧ PySem.W.keepIn K (.ref (He.ga K "TooMany")) = true ∧ PySem.W.subIn K (.ref (He.ga K "TooMany")) (.type "BaseException") = some true ∧ PySem.W.typeIn K (.ref (He.ga K "TooMany")) = some (.type "type")
  e_HallError_HallError : PySem.W.exmOne K (.ref (He.ga K "HallError")) (.ref (He.ga K "HallError")) = some true
  e_BadNumber_BadNumber : PySem.W.exmOne K (.ref (He.ga K "BadNumber")) (.ref (He.ga K "BadNumber")) = some true
  e_BadNumber_HallError : PySem.W.exmOne K (.ref (He.ga K "BadNumber")) (.ref (He.ga K "HallError")) = some true
  e_BadTree_BadTree : PySem.W.exmOne K (.ref (He.ga K "BadTree")) (.ref (He.ga K "BadTree")) = some true
  e_BadTree_HallError : PySem.W.exmOne K (.ref (He.ga K "BadTree")) (.ref (He.ga K "HallError")) = some true
  e_BadRoom_BadRoom : PySem.W.exmOne K (.ref (He.ga K "BadRoom")) (.ref (He.ga K "BadRoom")) = some true
  e_BadRoom_HallError : PySem.W.exmOne K (.ref (He.ga K "BadRoom")) (.ref (He.ga K "HallError")) = some true
  e_BadFunction_BadFunction : PySem.W.exmOne K (.ref (He.ga K "BadFunction")) (.ref (He.ga K "BadFunction")) = some true
  e_BadFunction_HallError : PySem.W.exmOne K (.ref (He.ga K "BadFunction")) (.ref (He.ga K "HallError")) = some true
  e_BadPaper_BadPaper : PySem.W.exmOne K (.ref (He.ga K "BadPaper")) (.ref (He.ga K "BadPaper")) = some true
  e_BadPaper_HallError : PySem.W.exmOne K (.ref (He.ga K "BadPaper")) (.ref (He.ga K "HallError")) = some true
  e_NotShown_NotShown : PySem.W.exmOne K (.ref (He.ga K "NotShown")) (.ref (He.ga K "NotShown")) = some true
  e_NotShown_HallError : PySem.W.exmOne K (.ref (He.ga K "NotShown")) (.ref (He.ga K "HallError")) = some true
  e_BadPlace_BadPlace : PySem.W.exmOne K (.ref (He.ga K "BadPlace")) (.ref (He.ga K "BadPlace")) = some true
  e_BadPlace_HallError : PySem.W.exmOne K (.ref (He.ga K "BadPlace")) (.ref (He.ga K "HallError")) = some true
  e_BadTrace_BadTrace : PySem.W.exmOne K (.ref (He.ga K "BadTrace")) (.ref (He.ga K "BadTrace")) = some true
  e_BadTrace_HallError : PySem.W.exmOne K (.ref (He.ga K "BadTrace")) (.ref (He.ga K "HallError")) = some true
  e_TooMany_TooMany : PySem.W.exmOne K (.ref (He.ga K "TooMany")) (.ref (He.ga K "TooMany")) = some true
  e_TooMany_HallError : PySem.W.exmOne K (.ref (He.ga K "TooMany")) (.ref (He.ga K "HallError")) = some true
  kd_ARMS : ∃ es n, KDict K w (He.ga K "ARMS") es n
  v_ARMS : He.valsB K (He.ga K "ARMS") kv_ARMS = true
  m_ARMS : (miss_ARMS.all fun x => He.eqO (PySem.W.nsIn K (He.ga K "ARMS") x) (some none)) = true
  kd_GIVEN : ∃ es n, KDict K w (He.ga K "GIVEN") es n
  v_GIVEN : He.valsB K (He.ga K "GIVEN") kv_GIVEN = true
  m_GIVEN : (miss_GIVEN.all fun x => He.eqO (PySem.W.nsIn K (He.ga K "GIVEN") x) (some none)) = true
  tn_law_law_works : (He.cT K ("law", none)).2 ≠ (He.cT K ("_law_works", none)).2
  kx_BadTree : Ov.excKB K (He.ga K "BadTree") [(.ref (He.ga K "BadProgram"), false), (.ref (He.ga K "BadNumber"), false), (.ref (He.ga K "BadTree"), true), (.ref (He.ga K "BadRoom"), false), (.ref (He.ga K "BadFunction"), false), (.ref (He.ga K "BadPaper"), false), (.ref (He.ga K "NotShown"), false), (.ref (He.ga K "BadPlace"), false), (.ref (He.ga K "BadTrace"), false), (.ref (He.ga K "TooMany"), false), (.ref (He.ga K "BadText"), false), (.type "ValueError", true)] = true
  kx_BadFunction : Ov.excKB K (He.ga K "BadFunction") [(.ref (He.ga K "BadProgram"), false), (.ref (He.ga K "BadNumber"), false), (.ref (He.ga K "BadTree"), false), (.ref (He.ga K "BadRoom"), false), (.ref (He.ga K "BadFunction"), true), (.ref (He.ga K "BadPaper"), false), (.ref (He.ga K "NotShown"), false), (.ref (He.ga K "BadPlace"), false), (.ref (He.ga K "BadTrace"), false), (.ref (He.ga K "TooMany"), false), (.ref (He.ga K "BadText"), false), (.type "ValueError", true)] = true
theorem Txt.of {w : World} {K : PySem.W.Frag} {h : Heap} {mg : Str → Option Value} (X : K.In h) (G : h.Ns mainGlobals mg) (c : He.SaysX fa fn ts tf ex w h K) : Txt w K mg := by
  have e := c.more
  unfold ex at e
  simp only [Bool.and_eq_true] at e
  exact ⟨He.glo_ok X G (c.t.d.fact 0),
    He.glo_ok X G (c.t.d.fact 1),
    He.glo_ok X G (c.t.d.fact 2),
    He.glo_ok X G (c.t.d.fact 3),
    He.glo_ok X G (c.t.d.fact 4),
    He.glo_ok X G (c.t.d.fact 5),
    He.glo_ok X G (c.t.d.fact 6),
    He.glo_ok X G (c.t.d.fact 7),
    He.glo_ok X G (c.t.d.fact 8),
    He.glo_ok X G (c.t.d.fact 9),
    He.glo_ok X G (c.t.d.fact 10),
    He.glo_ok X G (c.t.d.fact 11),
    He.glo_ok X G (c.t.d.fact 12),
    He.glo_ok X G (c.t.d.fact 13),
    He.glo_ok X G (c.t.d.fact 14),
    He.glo_ok X G (c.t.d.fact 15),
    He.glo_ok X G (c.t.d.fact 16),
    He.glo_ok X G (c.t.d.fact 17),
    He.glo_ok X G (c.t.d.fact 18),
    He.glo_ok X G (c.t.d.fact 19),
    He.glo_ok X G (c.t.d.fact 20),
    He.glo_ok X G (c.t.d.fact 21),
    He.glo_ok X G (c.t.d.fact 22),
    He.glo_ok X G (c.t.d.fact 23),
    He.glo_ok X G (c.t.d.fact 24),
    He.glo_ok X G (c.t.d.fact 25),
    He.glo_ok X G (c.t.d.fact 26),
    He.glo_ok X G (c.t.d.fact 27),
    He.glo_ok X G (c.t.d.fact 28),
    He.glo_ok X G (c.t.d.fact 29),
    He.glo_ok X G (c.t.d.fact 30),
    He.glo_ok X G (c.t.d.fact 31),
    He.glo_ok X G (c.t.d.fact 32),
    He.glo_ok X G (c.t.d.fact 33),
    He.glo_ok X G (c.t.d.fact 34),
    He.glo_ok X G (c.t.d.fact 35),
    He.glo_ok X G (c.t.d.fact 36),
    He.glo_ok X G (c.t.d.fact 37),
    He.glo_ok X G (c.t.d.fact 38),
    He.glo_ok X G (c.t.d.fact 39),
    He.glo_ok X G (c.t.d.fact 40),
    He.glo_ok X G (c.t.d.fact 41),
    He.glo_ok X G (c.t.d.fact 42),
    He.glo_ok X G (c.t.d.fact 43),
    He.glo_ok X G (c.t.d.fact 44),
    He.glo_ok X G (c.t.d.fact 45),
    He.glo_ok X G (c.t.d.fact 46),
    He.glo_ok X G (c.t.d.fact 47),
    He.glo_ok X G (c.t.d.fact 48),
    He.glo_ok X G (c.t.d.fact 49),
    He.glo_ok X G (c.t.d.fact 50),
    He.glo_ok X G (c.t.d.fact 51),
    He.glo_ok X G (c.t.d.fact 52),
    He.glo_ok X G (c.t.d.fact 53),
    He.glo_ok X G (c.t.d.fact 54),
    He.glo_ok X G (c.t.d.fact 55),
    He.glo_ok X G (c.t.d.fact 56),
    He.glo_ok X G (c.t.d.fact 57),
    He.glo_ok X G (c.t.d.fact 58),
    He.glo_ok X G (c.t.d.fact 59),
    He.glo_ok X G (c.t.d.fact 60),
    He.glo_ok X G (c.t.d.fact 61),
    He.glo_ok X G (c.t.d.fact 62),
    He.glo_ok X G (c.t.d.fact 63),
    He.glo_ok X G (c.t.d.fact 64),
    He.glo_ok X G (c.t.d.fact 65),
    He.glo_ok X G (c.t.d.fact 66),
    He.glo_ok X G (c.t.d.fact 67),
    He.glo_ok X G (c.t.d.fact 68),
    He.glo_ok X G (c.t.d.fact 69),
    He.glo_ok X G (c.t.d.fact 70),
    He.glo_ok X G (c.t.d.fact 71),
    He.glo_ok X G (c.t.d.fact 72),
    He.glo_ok X G (c.t.d.fact 73),
    He.glo_ok X G (c.t.d.fact 74),
    He.glo_ok X G (c.t.d.fact 75),
    He.glo_ok X G (c.t.d.fact 76),
    He.glo_ok X G (c.t.d.fact 77),
    He.glo_ok X G (c.t.d.fact 78),
    He.glo_ok X G (c.t.d.fact 79),
    He.glo_ok X G (c.t.d.fact 80),
    He.glo_ok X G (c.t.d.fact 81),
    He.glo_ok X G (c.t.d.fact 82),
    He.glo_ok X G (c.t.d.fact 83),
    He.glo_ok X G (c.t.d.fact 84),
    He.glo_ok X G (c.t.d.fact 85),
    He.glo_ok X G (c.t.d.fact 86),
    He.glo_ok X G (c.t.d.fact 87),
    He.glo_ok X G (c.t.d.fact 88),
    He.glo_ok X G (c.t.d.fact 89),
    He.glo_ok X G (c.t.d.fact 90),
    He.glo_ok X G (c.t.d.fact 91),
    He.glo_ok X G (c.t.d.fact 92),
    He.glo_ok X G (c.t.d.fact 93),
    He.free_ok X G (c.t.d.fact 94),
    He.free_ok X G (c.t.d.fact 95),
    He.free_ok X G (c.t.d.fact 96),
    He.free_ok X G (c.t.d.fact 97),
    He.free_ok X G (c.t.d.fact 98),
    He.free_ok X G (c.t.d.fact 99),
    He.free_ok X G (c.t.d.fact 100),
    He.free_ok X G (c.t.d.fact 101),
    He.free_ok X G (c.t.d.fact 102),
    He.free_ok X G (c.t.d.fact 103),
    He.free_ok X G (c.t.d.fact 104),
    He.free_ok X G (c.t.d.fact 105),
    He.free_ok X G (c.t.d.fact 106),
    He.free_ok X G (c.t.d.fact 107),
    He.free_ok X G (c.t.d.fact 108),
    He.free_ok X G (c.t.d.fact 109),
    He.free_ok X G (c.t.d.fact 110),
    He.free_ok X G (c.t.d.fact 111),
    He.free_ok X G (c.t.d.fact 112),
    He.int_ok X G (c.t.d.fact 113),
    He.int_ok X G (c.t.d.fact 114),
    He.int_ok X G (c.t.d.fact 115),
    He.int_ok X G (c.t.d.fact 116),
    He.int_ok X G (c.t.d.fact 117),
    He.int_ok X G (c.t.d.fact 118),
    He.int_ok X G (c.t.d.fact 119),
    He.int_ok X G (c.t.d.fact 120),
    He.int_ok X G (c.t.d.fact 121),
    He.int_ok X G (c.t.d.fact 122),
    (c.t.d.def_ 0 (d := d_between)).elim fun _ F => fdOf_eq F,
    (c.t.d.def_ 1 (d := d_given_of)).elim fun _ F => fdOf_eq F,
    (c.t.d.def_ 2 (d := d_arms_of)).elim fun _ F => fdOf_eq F,
    (c.t.d.def_ 3 (d := d_words_of)).elim fun _ F => fdOf_eq F,
    (c.t.d.def_ 4 (d := d_add_word)).elim fun _ F => fdOf_eq F,
    (c.t.d.def_ 5 (d := d_check_program)).elim fun _ F => fdOf_eq F,
    (c.t.d.def_ 6 (d := d_check_function)).elim fun _ F => fdOf_eq F,
    (c.t.d.def_ 7 (d := d_function_fits)).elim fun _ F => fdOf_eq F,
    (c.t.d.def_ 8 (d := d_word_fits)).elim fun _ F => fdOf_eq F,
    (c.t.d.def_ 9 (d := d_given_fits)).elim fun _ F => fdOf_eq F,
    (c.t.d.def_ 10 (d := d_places)).elim fun _ F => fdOf_eq F,
    (c.t.d.def_ 11 (d := d_wanted)).elim fun _ F => fdOf_eq F,
    (c.t.d.def_ 12 (d := d_way_down)).elim fun _ F => fdOf_eq F,
    (c.t.d.def_ 13 (d := d_check_tree)).elim fun _ F => fdOf_eq F,
    (c.t.d.def_ 14 (d := d_parts_fit)).elim fun _ F => fdOf_eq F,
    (c.t.d.def_ 15 (d := d_part_fits)).elim fun _ F => fdOf_eq F,
    (c.t.d.def_ 16 (d := d_rises)).elim fun _ F => fdOf_eq F,
    (c.t.d.def_ 17 (d := d_stands_fit)).elim fun _ F => fdOf_eq F,
    (c.t.d.def_ 18 (d := d_has_end)).elim fun _ F => fdOf_eq F,
    (c.t.d.def_ 19 (d := d_parts_below)).elim fun _ F => fdOf_eq F,
    (c.t.d.def_ 20 (d := d_size_of)).elim fun _ F => fdOf_eq F,
    (c.t.d.def_ 21 (d := d_begins)).elim fun _ F => fdOf_eq F,
    (c.t.d.def_ 22 (d := d_firsts_of)).elim fun _ F => fdOf_eq F,
    (c.t.d.def_ 23 (d := d_end_of)).elim fun _ F => fdOf_eq F,
    (c.t.d.def_ 24 (d := d_way_of)).elim fun _ F => fdOf_eq F,
    (c.t.d.def_ 25 (d := d_cost)).elim fun _ F => fdOf_eq F,
    (c.t.d.def_ 26 (d := d_run_in)).elim fun _ F => fdOf_eq F,
    (c.t.d.def_ 27 (d := d_run_with)).elim fun _ F => fdOf_eq F,
    (c.t.d.def_ 28 (d := d_room_run)).elim fun _ F => fdOf_eq F,
    (c.t.d.def_ 29 (d := d_shorts)).elim fun _ F => fdOf_eq F,
    (c.t.d.def_ 30 (d := d_law_mix)).elim fun _ F => fdOf_eq F,
    (c.t.d.def_ 31 (d := d_law_next)).elim fun _ F => fdOf_eq F,
    (c.t.d.def_ 32 (d := d_law_alike)).elim fun _ F => fdOf_eq F,
    (c.t.d.def_ 33 (d := d_law_leaf)).elim fun _ F => fdOf_eq F,
    (c.t.d.def_ 34 (d := d_law_call)).elim fun _ F => fdOf_eq F,
    (c.t.d.def_ 35 (d := d_law_less)).elim fun _ F => fdOf_eq F,
    (c.t.d.def_ 36 (d := d_law_body)).elim fun _ F => fdOf_eq F,
    (c.t.d.def_ 37 (d := d_law_words)).elim fun _ F => fdOf_eq F,
    (c.t.d.def_ 38 (d := d_law_program)).elim fun _ F => fdOf_eq F,
    (c.t.d.def_ 39 (d := d_law_tree)).elim fun _ F => fdOf_eq F,
    (c.t.d.def_ 40 (d := d_law_kind)).elim fun _ F => fdOf_eq F,
    (c.t.d.def_ 41 (d := d_law_odd)).elim fun _ F => fdOf_eq F,
    (c.t.d.def_ 42 (d := d_law_works)).elim fun _ F => fdOf_eq F,
    (c.t.d.def_ 43 (d := d_law)).elim fun _ F => fdOf_eq F,
    He.cls_ok (c.t.d.fact 123),
    He.mkr_ok (c.t.d.fact 124),
    He.noat_ok (c.t.d.fact 125),
    He.noat_ok (c.t.d.fact 126),
    He.noat_ok (c.t.d.fact 127),
    He.noat_ok (c.t.d.fact 128),
    (c.t.d.def_ 44 (d := d_Hall_init)).elim fun _ F => fdOf_eq F,
    He.exc_ok (c.t.d.fact 129),
    He.exc_ok (c.t.d.fact 130),
    He.exc_ok (c.t.d.fact 131),
    He.exc_ok (c.t.d.fact 132),
    He.exc_ok (c.t.d.fact 133),
    He.exc_ok (c.t.d.fact 134),
    He.exc_ok (c.t.d.fact 135),
    He.exc_ok (c.t.d.fact 136),
    He.exc_ok (c.t.d.fact 137),
    He.exc_ok (c.t.d.fact 138),
    He.exm_ok (c.t.d.fact 139),
    He.exm_ok (c.t.d.fact 140),
    He.exm_ok (c.t.d.fact 141),
    He.exm_ok (c.t.d.fact 142),
    He.exm_ok (c.t.d.fact 143),
    He.exm_ok (c.t.d.fact 144),
    He.exm_ok (c.t.d.fact 145),
    He.exm_ok (c.t.d.fact 146),
    He.exm_ok (c.t.d.fact 147),
    He.exm_ok (c.t.d.fact 148),
    He.exm_ok (c.t.d.fact 149),
    He.exm_ok (c.t.d.fact 150),
    He.exm_ok (c.t.d.fact 151),
    He.exm_ok (c.t.d.fact 152),
    He.exm_ok (c.t.d.fact 153),
    He.exm_ok (c.t.d.fact 154),
    He.exm_ok (c.t.d.fact 155),
    He.exm_ok (c.t.d.fact 156),
    He.exm_ok (c.t.d.fact 157),
    c.t.tab 0,
    e.1.1.1.1.1,
    rfl,
    c.t.tab 1,
    e.1.1.1.1.2,
    e.1.1.1.2,
    of_decide_eq_true e.1.1.2,
    e.1.2,
    e.2⟩
theorem Txt.kp_between {w : World} {K : PySem.W.Frag} {mg : Str → Option Value} (T : Txt w K mg) : PySem.W.keepIn K (.ref (He.ga K "between")) = true := T.F_between.kp
theorem Txt.b_between {w : World} {K : PySem.W.Frag} {mg : Str → Option Value} (T : Txt w K mg) : Binds K (fdOf K d_between) ["value", "low", "high"] [] := T.F_between.bindsN fun _ _ _ _ _ _ us hl => match us, hl with | [_, _, _], _ => rfl
theorem Txt.kp_given_of {w : World} {K : PySem.W.Frag} {mg : Str → Option Value} (T : Txt w K mg) : PySem.W.keepIn K (.ref (He.ga K "given_of")) = true := T.F_given_of.kp
theorem Txt.b_given_of {w : World} {K : PySem.W.Frag} {mg : Str → Option Value} (T : Txt w K mg) : Binds K (fdOf K d_given_of) ["word"] [] := T.F_given_of.bindsN fun _ _ _ _ _ _ us hl => match us, hl with | [_], _ => rfl
theorem Txt.kp_arms_of {w : World} {K : PySem.W.Frag} {mg : Str → Option Value} (T : Txt w K mg) : PySem.W.keepIn K (.ref (He.ga K "arms_of")) = true := T.F_arms_of.kp
theorem Txt.b_arms_of {w : World} {K : PySem.W.Frag} {mg : Str → Option Value} (T : Txt w K mg) : Binds K (fdOf K d_arms_of) ["word"] [] := T.F_arms_of.bindsN fun _ _ _ _ _ _ us hl => match us, hl with | [_], _ => rfl
theorem Txt.kp_words_of {w : World} {K : PySem.W.Frag} {mg : Str → Option Value} (T : Txt w K mg) : PySem.W.keepIn K (.ref (He.ga K "words_of")) = true := T.F_words_of.kp
theorem Txt.b_words_of {w : World} {K : PySem.W.Frag} {mg : Str → Option Value} (T : Txt w K mg) : Binds K (fdOf K d_words_of) ["body"] [] := T.F_words_of.bindsN fun _ _ _ _ _ _ us hl => match us, hl with | [_], _ => rfl
theorem Txt.kp_add_word {w : World} {K : PySem.W.Frag} {mg : Str → Option Value} (T : Txt w K mg) : PySem.W.keepIn K (.ref (He.ga K "add_word")) = true := T.F_add_word.kp
theorem Txt.b_add_word {w : World} {K : PySem.W.Frag} {mg : Str → Option Value} (T : Txt w K mg) : Binds K (fdOf K d_add_word) ["rows", "word"] [] := T.F_add_word.bindsN fun _ _ _ _ _ _ us hl => match us, hl with | [_, _], _ => rfl
theorem Txt.kp_check_program {w : World} {K : PySem.W.Frag} {mg : Str → Option Value} (T : Txt w K mg) : PySem.W.keepIn K (.ref (He.ga K "check_program")) = true := T.F_check_program.kp
theorem Txt.b_check_program {w : World} {K : PySem.W.Frag} {mg : Str → Option Value} (T : Txt w K mg) : Binds K (fdOf K d_check_program) ["program"] [] := T.F_check_program.bindsN fun _ _ _ _ _ _ us hl => match us, hl with | [_], _ => rfl
theorem Txt.kp_check_function {w : World} {K : PySem.W.Frag} {mg : Str → Option Value} (T : Txt w K mg) : PySem.W.keepIn K (.ref (He.ga K "check_function")) = true := T.F_check_function.kp
theorem Txt.b_check_function {w : World} {K : PySem.W.Frag} {mg : Str → Option Value} (T : Txt w K mg) : Binds K (fdOf K d_check_function) ["function", "functions"] [] := T.F_check_function.bindsN fun _ _ _ _ _ _ us hl => match us, hl with | [_, _], _ => rfl
theorem Txt.kp_function_fits {w : World} {K : PySem.W.Frag} {mg : Str → Option Value} (T : Txt w K mg) : PySem.W.keepIn K (.ref (He.ga K "function_fits")) = true := T.F_function_fits.kp
theorem Txt.b_function_fits {w : World} {K : PySem.W.Frag} {mg : Str → Option Value} (T : Txt w K mg) : Binds K (fdOf K d_function_fits) ["function", "functions"] [] := T.F_function_fits.bindsN fun _ _ _ _ _ _ us hl => match us, hl with | [_, _], _ => rfl
theorem Txt.kp_word_fits {w : World} {K : PySem.W.Frag} {mg : Str → Option Value} (T : Txt w K mg) : PySem.W.keepIn K (.ref (He.ga K "word_fits")) = true := T.F_word_fits.kp
theorem Txt.b_word_fits {w : World} {K : PySem.W.Frag} {mg : Str → Option Value} (T : Txt w K mg) : Binds K (fdOf K d_word_fits) ["word", "functions", "around"] [] := T.F_word_fits.bindsN fun _ _ _ _ _ _ us hl => match us, hl with | [_, _, _], _ => rfl
theorem Txt.kp_given_fits {w : World} {K : PySem.W.Frag} {mg : Str → Option Value} (T : Txt w K mg) : PySem.W.keepIn K (.ref (He.ga K "given_fits")) = true := T.F_given_fits.kp
theorem Txt.b_given_fits {w : World} {K : PySem.W.Frag} {mg : Str → Option Value} (T : Txt w K mg) : Binds K (fdOf K d_given_fits) ["kind", "given", "functions"] [] := T.F_given_fits.bindsN fun _ _ _ _ _ _ us hl => match us, hl with | [_, _, _], _ => rfl
theorem Txt.kp_places {w : World} {K : PySem.W.Frag} {mg : Str → Option Value} (T : Txt w K mg) : PySem.W.keepIn K (.ref (He.ga K "places")) = true := T.F_places.kp
theorem Txt.b_places {w : World} {K : PySem.W.Frag} {mg : Str → Option Value} (T : Txt w K mg) : Binds K (fdOf K d_places) ["program", "tree"] [] := T.F_places.bindsN fun _ _ _ _ _ _ us hl => match us, hl with | [_, _], _ => rfl
theorem Txt.kp_wanted {w : World} {K : PySem.W.Frag} {mg : Str → Option Value} (T : Txt w K mg) : PySem.W.keepIn K (.ref (He.ga K "wanted")) = true := T.F_wanted.kp
theorem Txt.b_wanted {w : World} {K : PySem.W.Frag} {mg : Str → Option Value} (T : Txt w K mg) : Binds K (fdOf K d_wanted) ["program", "tree"] [] := T.F_wanted.bindsN fun _ _ _ _ _ _ us hl => match us, hl with | [_, _], _ => rfl
theorem Txt.kp_way_down {w : World} {K : PySem.W.Frag} {mg : Str → Option Value} (T : Txt w K mg) : PySem.W.keepIn K (.ref (He.ga K "way_down")) = true := T.F_way_down.kp
theorem Txt.b_way_down {w : World} {K : PySem.W.Frag} {mg : Str → Option Value} (T : Txt w K mg) : Binds K (fdOf K d_way_down) ["program", "tree", "function"] [] := T.F_way_down.bindsN fun _ _ _ _ _ _ us hl => match us, hl with | [_, _, _], _ => rfl
theorem Txt.kp_check_tree {w : World} {K : PySem.W.Frag} {mg : Str → Option Value} (T : Txt w K mg) : PySem.W.keepIn K (.ref (He.ga K "check_tree")) = true := T.F_check_tree.kp
theorem Txt.b_check_tree {w : World} {K : PySem.W.Frag} {mg : Str → Option Value} (T : Txt w K mg) : Binds K (fdOf K d_check_tree) ["program", "tree"] [] := T.F_check_tree.bindsN fun _ _ _ _ _ _ us hl => match us, hl with | [_, _], _ => rfl
theorem Txt.kp_parts_fit {w : World} {K : PySem.W.Frag} {mg : Str → Option Value} (T : Txt w K mg) : PySem.W.keepIn K (.ref (He.ga K "parts_fit")) = true := T.F_parts_fit.kp
theorem Txt.b_parts_fit {w : World} {K : PySem.W.Frag} {mg : Str → Option Value} (T : Txt w K mg) : Binds K (fdOf K d_parts_fit) ["parts", "functions"] [] := T.F_parts_fit.bindsN fun _ _ _ _ _ _ us hl => match us, hl with | [_, _], _ => rfl
theorem Txt.kp_part_fits {w : World} {K : PySem.W.Frag} {mg : Str → Option Value} (T : Txt w K mg) : PySem.W.keepIn K (.ref (He.ga K "part_fits")) = true := T.F_part_fits.kp
theorem Txt.b_part_fits {w : World} {K : PySem.W.Frag} {mg : Str → Option Value} (T : Txt w K mg) : Binds K (fdOf K d_part_fits) ["part", "functions"] [] := T.F_part_fits.bindsN fun _ _ _ _ _ _ us hl => match us, hl with | [_, _], _ => rfl
theorem Txt.kp_rises {w : World} {K : PySem.W.Frag} {mg : Str → Option Value} (T : Txt w K mg) : PySem.W.keepIn K (.ref (He.ga K "rises")) = true := T.F_rises.kp
theorem Txt.b_rises {w : World} {K : PySem.W.Frag} {mg : Str → Option Value} (T : Txt w K mg) : Binds K (fdOf K d_rises) ["row"] [] := T.F_rises.bindsN fun _ _ _ _ _ _ us hl => match us, hl with | [_], _ => rfl
theorem Txt.kp_stands_fit {w : World} {K : PySem.W.Frag} {mg : Str → Option Value} (T : Txt w K mg) : PySem.W.keepIn K (.ref (He.ga K "stands_fit")) = true := T.F_stands_fit.kp
theorem Txt.b_stands_fit {w : World} {K : PySem.W.Frag} {mg : Str → Option Value} (T : Txt w K mg) : Binds K (fdOf K d_stands_fit) ["stands", "parts"] [] := T.F_stands_fit.bindsN fun _ _ _ _ _ _ us hl => match us, hl with | [_, _], _ => rfl
theorem Txt.kp_has_end {w : World} {K : PySem.W.Frag} {mg : Str → Option Value} (T : Txt w K mg) : PySem.W.keepIn K (.ref (He.ga K "has_end")) = true := T.F_has_end.kp
theorem Txt.b_has_end {w : World} {K : PySem.W.Frag} {mg : Str → Option Value} (T : Txt w K mg) : Binds K (fdOf K d_has_end) ["stands", "part"] [] := T.F_has_end.bindsN fun _ _ _ _ _ _ us hl => match us, hl with | [_, _], _ => rfl
theorem Txt.kp_parts_below {w : World} {K : PySem.W.Frag} {mg : Str → Option Value} (T : Txt w K mg) : PySem.W.keepIn K (.ref (He.ga K "parts_below")) = true := T.F_parts_below.kp
theorem Txt.b_parts_below {w : World} {K : PySem.W.Frag} {mg : Str → Option Value} (T : Txt w K mg) : Binds K (fdOf K d_parts_below) ["stands", "part"] [] := T.F_parts_below.bindsN fun _ _ _ _ _ _ us hl => match us, hl with | [_, _], _ => rfl
theorem Txt.kp_size_of {w : World} {K : PySem.W.Frag} {mg : Str → Option Value} (T : Txt w K mg) : PySem.W.keepIn K (.ref (He.ga K "size_of")) = true := T.F_size_of.kp
theorem Txt.b_size_of {w : World} {K : PySem.W.Frag} {mg : Str → Option Value} (T : Txt w K mg) : Binds K (fdOf K d_size_of) ["program", "part"] [] := T.F_size_of.bindsN fun _ _ _ _ _ _ us hl => match us, hl with | [_, _], _ => rfl
theorem Txt.kp_begins {w : World} {K : PySem.W.Frag} {mg : Str → Option Value} (T : Txt w K mg) : PySem.W.keepIn K (.ref (He.ga K "begins")) = true := T.F_begins.kp
theorem Txt.b_begins {w : World} {K : PySem.W.Frag} {mg : Str → Option Value} (T : Txt w K mg) : Binds K (fdOf K d_begins) ["program", "tree"] [] := T.F_begins.bindsN fun _ _ _ _ _ _ us hl => match us, hl with | [_, _], _ => rfl
theorem Txt.kp_firsts_of {w : World} {K : PySem.W.Frag} {mg : Str → Option Value} (T : Txt w K mg) : PySem.W.keepIn K (.ref (He.ga K "firsts_of")) = true := T.F_firsts_of.kp
theorem Txt.b_firsts_of {w : World} {K : PySem.W.Frag} {mg : Str → Option Value} (T : Txt w K mg) : Binds K (fdOf K d_firsts_of) ["program", "tree"] [] := T.F_firsts_of.bindsN fun _ _ _ _ _ _ us hl => match us, hl with | [_, _], _ => rfl
theorem Txt.kp_end_of {w : World} {K : PySem.W.Frag} {mg : Str → Option Value} (T : Txt w K mg) : PySem.W.keepIn K (.ref (He.ga K "end_of")) = true := T.F_end_of.kp
theorem Txt.b_end_of {w : World} {K : PySem.W.Frag} {mg : Str → Option Value} (T : Txt w K mg) : Binds K (fdOf K d_end_of) ["program", "tree"] [] := T.F_end_of.bindsN fun _ _ _ _ _ _ us hl => match us, hl with | [_, _], _ => rfl
theorem Txt.kp_way_of {w : World} {K : PySem.W.Frag} {mg : Str → Option Value} (T : Txt w K mg) : PySem.W.keepIn K (.ref (He.ga K "way_of")) = true := T.F_way_of.kp
theorem Txt.b_way_of {w : World} {K : PySem.W.Frag} {mg : Str → Option Value} (T : Txt w K mg) : Binds K (fdOf K d_way_of) ["tree", "function"] [] := T.F_way_of.bindsN fun _ _ _ _ _ _ us hl => match us, hl with | [_, _], _ => rfl
theorem Txt.kp_cost {w : World} {K : PySem.W.Frag} {mg : Str → Option Value} (T : Txt w K mg) : PySem.W.keepIn K (.ref (He.ga K "cost")) = true := T.F_cost.kp
theorem Txt.b_cost {w : World} {K : PySem.W.Frag} {mg : Str → Option Value} (T : Txt w K mg) : Binds K (fdOf K d_cost) ["program", "tree", "trace"] [] := T.F_cost.bindsN fun _ _ _ _ _ _ us hl => match us, hl with | [_, _, _], _ => rfl
theorem Txt.kp_run_in {w : World} {K : PySem.W.Frag} {mg : Str → Option Value} (T : Txt w K mg) : PySem.W.keepIn K (.ref (He.ga K "run_in")) = true := T.F_run_in.kp
theorem Txt.b_run_in {w : World} {K : PySem.W.Frag} {mg : Str → Option Value} (T : Txt w K mg) : Binds K (fdOf K d_run_in) ["program", "tree", "room", "number"] [] := T.F_run_in.bindsN fun _ _ _ _ _ _ us hl => match us, hl with | [_, _, _, _], _ => rfl
theorem Txt.kp_run_with {w : World} {K : PySem.W.Frag} {mg : Str → Option Value} (T : Txt w K mg) : PySem.W.keepIn K (.ref (He.ga K "run_with")) = true := T.F_run_with.kp
theorem Txt.b_run_with {w : World} {K : PySem.W.Frag} {mg : Str → Option Value} (T : Txt w K mg) : Binds K (fdOf K d_run_with) ["program", "tree", "room", "ahead", "back", "number"] [] := T.F_run_with.bindsN fun _ _ _ _ _ _ us hl => match us, hl with | [_, _, _, _, _, _], _ => rfl
theorem Txt.kp_room_run {w : World} {K : PySem.W.Frag} {mg : Str → Option Value} (T : Txt w K mg) : PySem.W.keepIn K (.ref (He.ga K "room_run")) = true := T.F_room_run.kp
theorem Txt.b_room_run {w : World} {K : PySem.W.Frag} {mg : Str → Option Value} (T : Txt w K mg) : Binds K (fdOf K d_room_run) ["program", "tree", "room", "ahead", "back", "number"] [] := T.F_room_run.bindsN fun _ _ _ _ _ _ us hl => match us, hl with | [_, _, _, _, _, _], _ => rfl
theorem Txt.kp_shorts {w : World} {K : PySem.W.Frag} {mg : Str → Option Value} (T : Txt w K mg) : PySem.W.keepIn K (.ref (He.ga K "shorts")) = true := T.F_shorts.kp
theorem Txt.b_shorts {w : World} {K : PySem.W.Frag} {mg : Str → Option Value} (T : Txt w K mg) : Binds K (fdOf K d_shorts) ["program", "tree", "paper"] [] := T.F_shorts.bindsN fun _ _ _ _ _ _ us hl => match us, hl with | [_, _, _], _ => rfl
theorem Txt.kp_law_mix {w : World} {K : PySem.W.Frag} {mg : Str → Option Value} (T : Txt w K mg) : PySem.W.keepIn K (.ref (He.ga K "_law_mix")) = true := T.F_law_mix.kp
theorem Txt.b_law_mix {w : World} {K : PySem.W.Frag} {mg : Str → Option Value} (T : Txt w K mg) : Binds K (fdOf K d_law_mix) ["_law_script", "_law_seed"] [] := T.F_law_mix.bindsN fun _ _ _ _ _ _ us hl => match us, hl with | [_, _], _ => rfl
theorem Txt.kp_law_next {w : World} {K : PySem.W.Frag} {mg : Str → Option Value} (T : Txt w K mg) : PySem.W.keepIn K (.ref (He.ga K "_law_next")) = true := T.F_law_next.kp
theorem Txt.b_law_next {w : World} {K : PySem.W.Frag} {mg : Str → Option Value} (T : Txt w K mg) : Binds K (fdOf K d_law_next) ["_law_h", "_law_many"] [] := T.F_law_next.bindsN fun _ _ _ _ _ _ us hl => match us, hl with | [_, _], _ => rfl
theorem Txt.kp_law_alike {w : World} {K : PySem.W.Frag} {mg : Str → Option Value} (T : Txt w K mg) : PySem.W.keepIn K (.ref (He.ga K "_law_alike")) = true := T.F_law_alike.kp
theorem Txt.b_law_alike {w : World} {K : PySem.W.Frag} {mg : Str → Option Value} (T : Txt w K mg) : Binds K (fdOf K d_law_alike) ["_law_found", "_law_due"] [] := T.F_law_alike.bindsN fun _ _ _ _ _ _ us hl => match us, hl with | [_, _], _ => rfl
theorem Txt.kp_law_leaf {w : World} {K : PySem.W.Frag} {mg : Str → Option Value} (T : Txt w K mg) : PySem.W.keepIn K (.ref (He.ga K "_law_leaf")) = true := T.F_law_leaf.kp
theorem Txt.b_law_leaf {w : World} {K : PySem.W.Frag} {mg : Str → Option Value} (T : Txt w K mg) : Binds K (fdOf K d_law_leaf) ["_law_h", "_law_e", "_law_kind_here"] [] := T.F_law_leaf.bindsN fun _ _ _ _ _ _ us hl => match us, hl with | [_, _, _], _ => rfl
theorem Txt.kp_law_call {w : World} {K : PySem.W.Frag} {mg : Str → Option Value} (T : Txt w K mg) : PySem.W.keepIn K (.ref (He.ga K "_law_call")) = true := T.F_law_call.kp
theorem Txt.b_law_call {w : World} {K : PySem.W.Frag} {mg : Str → Option Value} (T : Txt w K mg) : Binds K (fdOf K d_law_call) ["_law_h", "_law_e", "_law_deep"] [] := T.F_law_call.bindsN fun _ _ _ _ _ _ us hl => match us, hl with | [_, _, _], _ => rfl
theorem Txt.kp_law_less {w : World} {K : PySem.W.Frag} {mg : Str → Option Value} (T : Txt w K mg) : PySem.W.keepIn K (.ref (He.ga K "_law_less")) = true := T.F_law_less.kp
theorem Txt.b_law_less {w : World} {K : PySem.W.Frag} {mg : Str → Option Value} (T : Txt w K mg) : Binds K (fdOf K d_law_less) ["_law_h", "_law_e", "_law_deep"] [] := T.F_law_less.bindsN fun _ _ _ _ _ _ us hl => match us, hl with | [_, _, _], _ => rfl
theorem Txt.kp_law_body {w : World} {K : PySem.W.Frag} {mg : Str → Option Value} (T : Txt w K mg) : PySem.W.keepIn K (.ref (He.ga K "_law_body")) = true := T.F_law_body.kp
theorem Txt.b_law_body {w : World} {K : PySem.W.Frag} {mg : Str → Option Value} (T : Txt w K mg) : Binds K (fdOf K d_law_body) ["_law_h", "_law_e", "_law_kind_here", "_law_deep"] [] := T.F_law_body.bindsN fun _ _ _ _ _ _ us hl => match us, hl with | [_, _, _, _], _ => rfl
theorem Txt.kp_law_words {w : World} {K : PySem.W.Frag} {mg : Str → Option Value} (T : Txt w K mg) : PySem.W.keepIn K (.ref (He.ga K "_law_words")) = true := T.F_law_words.kp
theorem Txt.b_law_words {w : World} {K : PySem.W.Frag} {mg : Str → Option Value} (T : Txt w K mg) : Binds K (fdOf K d_law_words) ["_law_body_here"] [] := T.F_law_words.bindsN fun _ _ _ _ _ _ us hl => match us, hl with | [_], _ => rfl
theorem Txt.kp_law_program {w : World} {K : PySem.W.Frag} {mg : Str → Option Value} (T : Txt w K mg) : PySem.W.keepIn K (.ref (He.ga K "_law_program")) = true := T.F_law_program.kp
theorem Txt.b_law_program {w : World} {K : PySem.W.Frag} {mg : Str → Option Value} (T : Txt w K mg) : Binds K (fdOf K d_law_program) ["_law_h", "_law_most"] [] := T.F_law_program.bindsN fun _ _ _ _ _ _ us hl => match us, hl with | [_, _], _ => rfl
theorem Txt.kp_law_tree {w : World} {K : PySem.W.Frag} {mg : Str → Option Value} (T : Txt w K mg) : PySem.W.keepIn K (.ref (He.ga K "_law_tree")) = true := T.F_law_tree.kp
theorem Txt.b_law_tree {w : World} {K : PySem.W.Frag} {mg : Str → Option Value} (T : Txt w K mg) : Binds K (fdOf K d_law_tree) ["_law_h", "_law_program_here"] [] := T.F_law_tree.bindsN fun _ _ _ _ _ _ us hl => match us, hl with | [_, _], _ => rfl
theorem Txt.kp_law_kind {w : World} {K : PySem.W.Frag} {mg : Str → Option Value} (T : Txt w K mg) : PySem.W.keepIn K (.ref (He.ga K "_law_kind")) = true := T.F_law_kind.kp
theorem Txt.b_law_kind {w : World} {K : PySem.W.Frag} {mg : Str → Option Value} (T : Txt w K mg) : Binds K (fdOf K d_law_kind) ["_law_work"] [] := T.F_law_kind.bindsN fun _ _ _ _ _ _ us hl => match us, hl with | [_], _ => rfl
theorem Txt.kp_law_odd {w : World} {K : PySem.W.Frag} {mg : Str → Option Value} (T : Txt w K mg) : PySem.W.keepIn K (.ref (He.ga K "_law_odd")) = true := T.F_law_odd.kp
theorem Txt.b_law_odd {w : World} {K : PySem.W.Frag} {mg : Str → Option Value} (T : Txt w K mg) : Binds K (fdOf K d_law_odd) ["_law_h", "_law_many", "_law_tree_here"] [] := T.F_law_odd.bindsN fun _ _ _ _ _ _ us hl => match us, hl with | [_, _, _], _ => rfl
theorem Txt.kp_law_works {w : World} {K : PySem.W.Frag} {mg : Str → Option Value} (T : Txt w K mg) : PySem.W.keepIn K (.ref (He.ga K "_law_works")) = true := T.F_law_works.kp
theorem Txt.b_law_works {w : World} {K : PySem.W.Frag} {mg : Str → Option Value} (T : Txt w K mg) : Binds K (fdOf K d_law_works) ["_law_program_here", "_law_tree_here"] [] := T.F_law_works.bindsN fun _ _ _ _ _ _ us hl => match us, hl with | [_, _], _ => rfl
theorem Txt.kp_law {w : World} {K : PySem.W.Frag} {mg : Str → Option Value} (T : Txt w K mg) : PySem.W.keepIn K (.ref (He.ga K "law")) = true := T.F_law.kp
theorem Txt.b_law {w : World} {K : PySem.W.Frag} {mg : Str → Option Value} (T : Txt w K mg) : Binds K (fdOf K d_law) ["_law_script"] [] := T.F_law.bindsN fun _ _ _ _ _ _ us hl => match us, hl with | [_], _ => rfl
theorem Txt.b_Hall_init {w : World} {K : PySem.W.Frag} {mg : Str → Option Value} (T : Txt w K mg) : Binds K (fdOf K d_Hall_init) ["self", "program", "tree", "room"] [] := T.F_Hall_init.bindsN fun _ _ _ _ _ _ us hl => match us, hl with | [_, _, _, _], _ => rfl
def lawi : Nat := 115
end K03
/-! ### halls as data -/
namespace Ov
open PySem PySem.Spec PyProof.Rows L2
abbrev Cnt := Nat × Nat
abbrev Lay := List (Nat × Cnt)
def Has (ly : List (Option Cnt)) (l : Lay) : Bool := l.all fun e => decide (ly[e.1]? = some (some e.2))
def brg (ly : List (Option Cnt)) (l : Lay) : List (Option Cnt) := l.foldl (fun ly e => ly.set e.1 (some e.2)) ly
theorem brg_snoc (ly : List (Option Cnt)) (l : Lay) (e : Nat × Cnt) : brg ly (l ++ [e]) = (brg ly l).set e.1 (some e.2) := by
  unfold brg
  rw [List.foldl_append]
  rfl
theorem brg_len : ∀ (l : Lay) (ly : List (Option Cnt)), (brg ly l).length = ly.length
  | [], _ => rfl
  | e :: l, ly => by
    show (brg (ly.set e.1 (some e.2)) l).length = _
    rw [brg_len l, List.length_set]
theorem brg_out : ∀ (l : Lay) (ly : List (Option Cnt)) (c : Nat), (∀ e ∈ l, e.1 ≠ c) → (brg ly l)[c]? = ly[c]?
  | [], _, _, _ => rfl
  | e :: l, ly, c, h => by
    show (brg (ly.set e.1 (some e.2)) l)[c]? = _
    rw [brg_out l _ c fun d hd => h d (List.mem_cons_of_mem _ hd), List.getElem?_set_ne (h e List.mem_cons_self)]
theorem brg_in : ∀ (l : Lay) (ly : List (Option Cnt)) (e : Nat × Cnt), (l.map (·.1)).Nodup → (∀ e ∈ l, e.1 < ly.length) → e ∈ l → (brg ly l)[e.1]? = some (some e.2)
  | [], _, _, _, _, h => nomatch h
  | d :: l, ly, e, nd, lt, h => by
    rw [List.map_cons, List.nodup_cons] at nd
    show (brg (ly.set d.1 (some d.2)) l)[e.1]? = _
    rcases List.mem_cons.mp h with rfl | h
    · rw [brg_out l _ e.1 fun z hz ez => nd.1 (List.mem_map.mpr ⟨z, hz, ez⟩), List.getElem?_set_self (lt e List.mem_cons_self)]
    · exact brg_in l _ e nd.2 (fun z hz => by rw [List.length_set]; exact lt z (List.mem_cons_of_mem _ hz)) h
def Apart (l m : Lay) : Prop := ∀ e ∈ l, ∀ d ∈ m, e.1 ≠ d.1
theorem Apart.symm {l m : Lay} (h : Apart l m) : Apart m l := fun e he d hd z => h d hd e he z.symm
theorem has_iff {ly : List (Option Cnt)} {l : Lay} : Has ly l = true ↔ ∀ e ∈ l, ly[e.1]? = some (some e.2) := by
  unfold Has
  rw [List.all_eq_true]
  exact ⟨fun h e he => of_decide_eq_true (h e he), fun h e he => decide_eq_true (h e he)⟩
theorem has_keep {ly : List (Option Cnt)} {l m : Lay} (a : Apart l m) (h : Has ly l = true) : Has (brg ly m) l = true := by
  rw [has_iff] at h ⊢
  intro e he
  rw [brg_out m ly e.1 fun d hd z => a e he d hd z.symm]
  exact h e he
theorem has_new {ly : List (Option Cnt)} {l : Lay} (nd : (l.map (·.1)).Nodup) (lt : ∀ e ∈ l, e.1 < ly.length) : Has (brg ly l) l = true := has_iff.mpr fun e he => brg_in l ly e nd lt he
def lyr (L : List Lay) (q : Nat) : Lay := L[q]?.getD []
/-- a hall's ways and layouts -/
structure HlOk (wy : List (List Nat)) (L : List Lay) (far : Nat) : Prop where
  nd : ∀ q, ((lyr L q).map (·.1)).Nodup
  lt : ∀ q, ∀ e ∈ lyr L q, e.1 < far
  ln : ∀ q, (lyr L q).length ≤ 64
  cnt : wy.length ≤ 8 ∧ L.length ≤ 8
  wl : ∀ w ∈ wy, w.length ≤ 8 ∧ ∀ q ∈ w, q < L.length
  ap : ∀ w ∈ wy, w.Pairwise fun q r => q ≠ r ∧ Apart (lyr L q) (lyr L r)
def mis (ly : List (Option Cnt)) (L : List Lay) (w : List Nat) : List Nat := w.filter fun q => !Has ly (lyr L q)
def brgs (ly : List (Option Cnt)) (L : List Lay) (ms : List Nat) : List (Option Cnt) := ms.foldl (fun ly q => brg ly (lyr L q)) ly
def siz (L : List Lay) (ms : List Nat) : Nat := (ms.map fun q => (lyr L q).length).sum
def thr (ly : List (Option Cnt)) (L : List Lay) (w : List Nat) : Bool := w.all fun q => Has ly (lyr L q)
theorem brgs_snoc (ly : List (Option Cnt)) (L : List Lay) (ms : List Nat) (q : Nat) : brgs ly L (ms ++ [q]) = brg (brgs ly L ms) (lyr L q) := by
  unfold brgs
  rw [List.foldl_append]
  rfl
theorem siz_snoc (L : List Lay) (ms : List Nat) (q : Nat) : siz L (ms ++ [q]) = siz L ms + (lyr L q).length := by
  unfold siz
  rw [List.map_append, List.sum_append]
  simp
theorem brgs_len (L : List Lay) : ∀ (ms : List Nat) (ly : List (Option Cnt)), (brgs ly L ms).length = ly.length
  | [], _ => rfl
  | q :: ms, ly => by
    show (brgs (brg ly (lyr L q)) L ms).length = _
    rw [brgs_len L ms, brg_len]
theorem brgs_out (L : List Lay) : ∀ (ms : List Nat) (ly : List (Option Cnt)) (c : Nat), (∀ q, ∀ e ∈ lyr L q, e.1 ≠ c) → (brgs ly L ms)[c]? = ly[c]?
  | [], _, _, _ => rfl
  | q :: ms, ly, c, h => by
    show (brgs (brg ly (lyr L q)) L ms)[c]? = _
    rw [brgs_out L ms _ c h, brg_out _ _ _ (h q)]
theorem brgs_keep {L : List Lay} {q : Nat} : ∀ (ms : List Nat) (ly : List (Option Cnt)), (∀ r ∈ ms, Apart (lyr L q) (lyr L r)) → Has ly (lyr L q) = true → Has (brgs ly L ms) (lyr L q) = true
  | [], _, _, h => h
  | r :: ms, ly, a, h => brgs_keep ms _ (fun r hr => a r (List.mem_cons_of_mem _ hr)) (has_keep (a r List.mem_cons_self) h)
theorem brgs_in {wy : List (List Nat)} {L : List Lay} {far : Nat} (ok : HlOk wy L far) {q : Nat} : ∀ (ms : List Nat) (ly : List (Option Cnt)), far ≤ ly.length → (ms.Pairwise fun q r => q ≠ r ∧ Apart (lyr L q) (lyr L r)) → q ∈ ms → Has (brgs ly L ms) (lyr L q) = true
  | [], _, _, _, h => nomatch h
  | r :: ms, ly, lf, pw, h => by
    rw [List.pairwise_cons] at pw
    rcases List.mem_cons.mp h with rfl | h
    · exact brgs_keep ms _ (fun r hr => (pw.1 r hr).2) (has_new (ok.nd _) fun e he => Nat.lt_of_lt_of_le (ok.lt _ e he) lf)
    · exact brgs_in ok ms _ (by rw [brg_len]; exact lf) pw.2 h
theorem pair_ne {R : Nat → Nat → Prop} (sy : ∀ a b, R a b → R b a) {w : List Nat} (pw : w.Pairwise R) {q r : Nat} (hq : q ∈ w) (hr : r ∈ w) (ne : q ≠ r) : R q r := by
  obtain ⟨i, hi⟩ := List.mem_iff_getElem?.mp hq
  obtain ⟨j, hj⟩ := List.mem_iff_getElem?.mp hr
  obtain ⟨li, ei⟩ := List.getElem?_eq_some_iff.mp hi
  obtain ⟨lj, ej⟩ := List.getElem?_eq_some_iff.mp hj
  rcases Nat.lt_trichotomy i j with lt | eq | gt
  · have z := List.pairwise_iff_getElem.mp pw i j li lj lt
    rw [ei, ej] at z
    exact z
  · subst eq
    exact absurd (ei.symm.trans ej) ne
  · have z := List.pairwise_iff_getElem.mp pw j i lj li gt
    rw [ei, ej] at z
    exact sy _ _ z
/-- behind a look all of the way down is there -/
theorem look_has {wy : List (List Nat)} {L : List Lay} {far : Nat} (ok : HlOk wy L far) {w : List Nat} (hw : w ∈ wy) {ly : List (Option Cnt)} (lf : far ≤ ly.length) {q : Nat} (hq : q ∈ w) : Has (brgs ly L (mis ly L w)) (lyr L q) = true := by
  have pw := ok.ap w hw
  by_cases h : Has ly (lyr L q) = true
  · refine brgs_keep _ _ (fun r hr => ?_) h
    unfold mis at hr
    rw [List.mem_filter] at hr
    have ne : q ≠ r := fun z => by
      rw [← z, h] at hr
      cases hr.2
    exact (pair_ne (R := fun q r => q ≠ r ∧ Apart (lyr L q) (lyr L r)) (fun a b z => ⟨z.1.symm, z.2.symm⟩) pw hq hr.1 ne).2
  · refine brgs_in ok _ _ lf (pw.filter _) ?_
    unfold mis
    rw [List.mem_filter]
    refine ⟨hq, ?_⟩
    cases e : Has ly (lyr L q) with
    | true => exact absurd e h
    | false => rfl
theorem mis_nil {ly : List (Option Cnt)} {L : List Lay} {w : List Nat} (h : ∀ q ∈ w, Has ly (lyr L q) = true) : mis ly L w = [] := by
  unfold mis
  rw [List.filter_eq_nil_iff]
  intro q hq z
  rw [h q hq] at z
  cases z
theorem thr_iff {ly : List (Option Cnt)} {L : List Lay} {w : List Nat} : thr ly L w = true ↔ ∀ q ∈ w, Has ly (lyr L q) = true := by
  unfold thr
  exact List.all_eq_true
/-! ### the layouts and ways of a tree -/
def layP (pr : List (Int × W)) (cs : List Int) (p : List Nat) : Lay := p.flatMap fun f => (List.range (fsz pr f).toNat).map fun n => ((cs[f]?.getD 0).toNat + n, (f, n))
theorem layP_snoc {pr : List (Int × W)} {cs : List Int} {p : List Nat} {f : Nat} : layP pr cs (p ++ [f]) = layP pr cs p ++ (List.range (fsz pr f).toNat).map fun n => ((cs[f]?.getD 0).toNat + n, (f, n)) := by
  unfold layP
  rw [List.flatMap_append]
  simp
theorem range_plus (a b : Nat) : List.range (a + b) = List.range a ++ (List.range b).map (a + ·) := by
  induction b with
  | zero => simp
  | succ b ih => rw [← Nat.add_assoc, List.range_succ, ih, List.range_succ, List.map_append, List.append_assoc]; rfl
theorem fsz_pos {pr : List (Int × W)} (ok : PrOk pr) {f : Nat} (h : f < pr.length) : 1 ≤ fsz pr f ∧ fsz pr f ≤ 8 := by
  unfold fsz
  rw [List.getElem?_eq_getElem h]
  have z := ok.f _ (List.getElem_mem h)
  exact ⟨z.1, z.2.1⟩
theorem psz_nn {pr : List (Int × W)} (ok : PrOk pr) : ∀ {p : List Nat}, (∀ x ∈ p, x < pr.length) → (p.length : Int) ≤ psz pr p ∧ psz pr p ≤ 8 * p.length
  | [], _ => ⟨Int.le_refl _, Int.le_refl _⟩
  | f :: p, h => by
    have z := psz_nn ok (p := p) fun x hx => h x (List.mem_cons_of_mem _ hx)
    have y := fsz_pos ok (h f List.mem_cons_self)
    have e : psz pr (f :: p) = fsz pr f + psz pr p := rfl
    rw [e, List.length_cons]
    omega
theorem bgn_nn {pr : List (Int × W)} (ok : PrOk pr) {ps : List (List Nat)} (hp : PInv pr.length ps) {dn : Nat → List Nat} {i : Nat} : 0 ≤ bgn pr ps dn i := by
  unfold bgn
  induction dn i with
  | nil => exact Int.le_refl _
  | cons y l ih =>
    rw [List.map_cons, List.sum_cons]
    have z : 0 ≤ psz pr (ps[y]?.getD []) := by
      cases e : ps[y]? with
      | none => exact Int.le_refl _
      | some p =>
        have := (psz_nn ok (p := p) fun x hx => hp.lt (List.mem_of_getElem? e) hx).1
        show 0 ≤ psz pr p
        omega
    omega
theorem lay_cells {pr : List (Int × W)} (ok : PrOk pr) {ps : List (List Nat)} (hp : PInv pr.length ps) {dn : Nat → List Nat} {cs : List Int} (hc : Cells pr ps dn cs) {i : Nat} {p : List Nat} (e : ps[i]? = some p) :
    ∀ j, j ≤ p.length → (layP pr cs (p.take j)).map (·.1) = (List.range (psz pr (p.take j)).toNat).map fun k => (bgn pr ps dn i).toNat + k
  | 0, _ => rfl
  | j + 1, hj => by
    have ih := lay_cells ok hp hc e j (by omega)
    have ef : p[j]? = some p[j] := List.getElem?_eq_getElem (by omega)
    have hf := hp.lt (List.mem_of_getElem? e) (List.mem_of_getElem? ef)
    have b0 := bgn_nn ok hp (dn := dn) (i := i)
    have p0 := (psz_nn ok (p := p.take j) fun x hx => hp.lt (List.mem_of_getElem? e) (List.mem_of_mem_take hx)).1
    have f0 := fsz_pos ok hf
    rw [List.take_add_one, ef]
    show (layP pr cs (p.take j ++ [p[j]])).map (·.1) = (List.range (psz pr (p.take j ++ [p[j]])).toNat).map _
    rw [layP_snoc, psz_snoc, List.map_append, ih, Int.toNat_add (by omega) (by omega), range_plus, List.map_append, List.map_map, List.map_map]
    congr 1
    refine List.map_congr_left fun n _ => ?_
    show ((cs[p[j]]?.getD 0).toNat + n) = (bgn pr ps dn i).toNat + ((psz pr (p.take j)).toNat + n)
    rw [hc.2 i p j _ e ef]
    show (bgn pr ps dn i + psz pr (p.take j)).toNat + n = _
    rw [Int.toNat_add b0 (by omega)]
    omega
/-- the part of a function -/
def prt (ps : List (List Nat)) (f : Nat) : Nat := ps.findIdx fun p => decide (f ∈ p)
theorem prt_eq {n : Nat} {ps : List (List Nat)} (h : PInv n ps) {f i : Nat} {p : List Nat} (e : ps[i]? = some p) (hf : f ∈ p) : prt ps f = i := by
  have ex : ∃ x ∈ ps, decide (f ∈ x) = true := ⟨p, List.mem_of_getElem? e, decide_eq_true hf⟩
  have lt := List.findIdx_lt_length.mpr ex
  have hm : decide (f ∈ ps[ps.findIdx fun p => decide (f ∈ p)]) = true := List.findIdx_getElem (w := lt)
  obtain ⟨j, hj⟩ := List.mem_iff_getElem?.mp (of_decide_eq_true hm)
  obtain ⟨j', hj'⟩ := List.mem_iff_getElem?.mp hf
  exact (h.uniq (List.getElem?_eq_getElem lt) hj e hj').1
def wayF (ps : List (List Nat)) (dn : Nat → List Nat) (f : Nat) : List Nat := dn (prt ps f) ++ [prt ps f]
def waysF (n : Nat) (ps : List (List Nat)) (dn : Nat → List Nat) : List (List Nat) := (List.range n).map (wayF ps dn)
def laysF (pr : List (Int × W)) (cs : List Int) (ps : List (List Nat)) : List Lay := ps.map (layP pr cs)
theorem Dn.clos {n : Nat} {ps : List (List Nat)} {st : List Int} {dn : Nat → List Nat} (hd : Dn n ps st dn) : ∀ {x : Nat} {l : List Nat}, Down st x l → (∀ q ∈ l, q < ps.length) → ∀ q ∈ l, ∀ r ∈ dn q, r ∈ l := by
  intro x l h
  induction h with
  | base _ => exact fun _ q hq => nomatch hq
  | @step x y l e h2 ih =>
    intro hl q hq r hr
    rcases List.mem_append.mp hq with hq | hq
    · exact List.mem_append_left _ (ih (fun q hq => hl q (List.mem_append_left _ hq)) q hq r hr)
    · obtain rfl := List.mem_singleton.mp hq
      have hy := hl q (List.mem_append_right _ hq)
      rw [(hd.down q hy).uniq h2] at hr
      exact List.mem_append_left _ hr
/-- who lies on a way has its way on it -/
theorem Dn.sub {n : Nat} {ps : List (List Nat)} {st : List Int} {dn : Nat → List Nat} (hd : Dn n ps st dn) {i q : Nat} (hi : i < ps.length) (hq : q ∈ dn i ++ [i]) {r : Nat} (hr : r ∈ dn q ++ [q]) : r ∈ dn i ++ [i] := by
  rcases List.mem_append.mp hr with hr | hr
  · rcases List.mem_append.mp hq with hq | hq
    · exact List.mem_append_left _ (hd.clos (hd.down i hi) (hd.lt i hi) q hq r hr)
    · obtain rfl := List.mem_singleton.mp hq
      exact List.mem_append_left _ hr
  · obtain rfl := List.mem_singleton.mp hr
    exact hq
theorem Dn.order {pr : List (Int × W)} (ok : PrOk pr) {ps : List (List Nat)} (hp : PInv pr.length ps) {st : List Int} {dn : Nat → List Nat} (hd : Dn pr.length ps st dn) : ∀ {x : Nat} {l : List Nat}, Down st x l → x < ps.length → (∀ q ∈ l, q < ps.length) →
    (l ++ [x]).Pairwise fun q r => bgn pr ps dn q + psz pr (ps[q]?.getD []) ≤ bgn pr ps dn r := by
  intro x l h
  induction h with
  | base _ => exact fun _ _ => List.pairwise_singleton _ _
  | @step x y l e h2 ih =>
    intro hx hl
    have hy := hl y (List.mem_append_right _ (List.mem_singleton.mpr rfl))
    have z := ih hy fun q hq => hl q (List.mem_append_left _ hq)
    have ex : bgn pr ps dn x = bgn pr ps dn y + psz pr (ps[y]?.getD []) := by
      have e1 := (hd.down x hx).uniq (.step e h2)
      have e2 := (hd.down y hy).uniq h2
      unfold bgn
      rw [e1, e2, List.map_append, List.sum_append]
      simp
    have y0 : 0 ≤ psz pr (ps[y]?.getD []) := by
      rw [List.getElem?_eq_getElem hy]
      have := (psz_nn ok (p := ps[y]) fun x hx => hp.lt (List.getElem_mem hy) hx).1
      show 0 ≤ psz pr ps[y]
      omega
    rw [List.pairwise_append] at z ⊢
    refine ⟨?_, List.pairwise_singleton _ _, fun q hq r hr => ?_⟩
    · rw [List.pairwise_append]
      exact z
    · obtain rfl := List.mem_singleton.mp hr
      rw [ex]
      rcases List.mem_append.mp hq with hq | hq
      · have := z.2.2 q hq y (List.mem_singleton.mpr rfl)
        omega
      · obtain rfl := List.mem_singleton.mp hq
        exact Int.le_refl _
theorem lyr_lays {pr : List (Int × W)} {cs : List Int} {ps : List (List Nat)} {q : Nat} : lyr (laysF pr cs ps) q = layP pr cs (ps[q]?.getD []) := by
  unfold lyr laysF
  rw [List.getElem?_map]
  cases ps[q]? <;> rfl
theorem lay_pos {pr : List (Int × W)} (ok : PrOk pr) {ps : List (List Nat)} (hp : PInv pr.length ps) {dn : Nat → List Nat} {cs : List Int} (hc : Cells pr ps dn cs) {q : Nat} : (lyr (laysF pr cs ps) q).map (·.1) = (List.range (psz pr (ps[q]?.getD [])).toNat).map fun k => (bgn pr ps dn q).toNat + k := by
  rw [lyr_lays]
  cases e : ps[q]? with
  | none => rfl
  | some p =>
    have z := lay_cells ok hp hc e p.length (Nat.le_refl _)
    rw [List.take_length] at z
    exact z
theorem lay_len {pr : List (Int × W)} (ok : PrOk pr) {ps : List (List Nat)} (hp : PInv pr.length ps) {dn : Nat → List Nat} {cs : List Int} (hc : Cells pr ps dn cs) {q : Nat} : ((lyr (laysF pr cs ps) q).length : Int) = psz pr (ps[q]?.getD []) := by
  have z := congrArg List.length (lay_pos ok hp hc (q := q))
  rw [List.length_map, List.length_map, List.length_range] at z
  have p0 : 0 ≤ psz pr (ps[q]?.getD []) := by
    cases e : ps[q]? with
    | none => exact Int.le_refl _
    | some p =>
      have := (psz_nn ok (p := p) fun x hx => hp.lt (List.mem_of_getElem? e) hx).1
      show 0 ≤ psz pr p
      omega
  omega
theorem hall_ok {pr : List (Int × W)} (ok : PrOk pr) {ps : List (List Nat)} {st : List Int} (ht : TrOk pr.length ps st) {dn : Nat → List Nat} (hd : Dn pr.length ps st dn) {cs : List Int} (hc : Cells pr ps dn cs) {m : Int} (hm : Far pr ps dn m) : HlOk (waysF pr.length ps dn) (laysF pr cs ps) m.toNat := by
  have hp := ht.p
  have pos : ∀ q e, e ∈ lyr (laysF pr cs ps) q → (bgn pr ps dn q).toNat ≤ e.1 ∧ (e.1 : Int) < bgn pr ps dn q + psz pr (ps[q]?.getD []) := fun q e he => by
    have h1 := List.mem_map_of_mem (f := fun x : Nat × Cnt => x.1) he
    rw [lay_pos ok hp hc] at h1
    obtain ⟨k, hk, ek⟩ := List.mem_map.mp h1
    have hk := List.mem_range.mp hk
    have b0 := bgn_nn ok hp (dn := dn) (i := q)
    have ek : (bgn pr ps dn q).toNat + k = e.1 := ek
    omega
  have pne : ∀ q, q < ps.length → 1 ≤ psz pr (ps[q]?.getD []) ∧ psz pr (ps[q]?.getD []) ≤ 64 := fun q hq => by
    rw [List.getElem?_eq_getElem hq]
    have h1 := psz_nn ok (p := ps[q]) fun x hx => hp.lt (List.getElem_mem hq) hx
    have h2 := List.length_pos_iff.mpr (hp.ne _ (List.getElem_mem hq))
    have h3 := hp.plen (List.getElem_mem hq)
    have h4 := ok.l8
    show 1 ≤ psz pr ps[q] ∧ psz pr ps[q] ≤ 64
    omega
  have hw : ∀ w ∈ waysF pr.length ps dn, ∃ i, i < ps.length ∧ w = dn i ++ [i] := fun w hw => by
    obtain ⟨f, hf, rfl⟩ := List.mem_map.mp hw
    obtain ⟨i, p, j, e1, e2⟩ := hp.stands (List.mem_range.mp hf)
    refine ⟨i, (List.getElem?_eq_some_iff.mp e1).1, ?_⟩
    unfold wayF
    rw [prt_eq hp e1 (List.mem_of_getElem? e2)]
  have l8 := ok.l8
  have pc := hp.count
  refine ⟨fun q => ?_, fun q e he => ?_, fun q => ?_, ⟨?_, ?_⟩, fun w h => ?_, fun w h => ?_⟩
  · rw [lay_pos ok hp hc]
    refine List.Pairwise.map _ (fun a b h z => h (by omega)) List.nodup_range
  · have h1 := pos q e he
    have hq : q < ps.length := by
      refine Nat.lt_of_not_le fun z => ?_
      rw [lyr_lays, List.getElem?_eq_none z] at he
      exact nomatch he
    have h2 := hm.2 q ps[q] (List.getElem?_eq_getElem hq)
    rw [List.getElem?_eq_getElem hq] at h1
    have h3 : (e.1 : Int) < bgn pr ps dn q + psz pr ps[q] := h1.2
    omega
  · have h1 := lay_len ok hp hc (q := q)
    by_cases hq : q < ps.length
    · have := pne q hq
      omega
    · rw [lyr_lays, List.getElem?_eq_none (by omega)]
      exact Nat.zero_le _
  · unfold waysF
    rw [List.length_map, List.length_range]
    exact l8
  · unfold laysF
    rw [List.length_map]
    omega
  · obtain ⟨i, hi, rfl⟩ := hw w h
    have h1 := hd.len i hi
    refine ⟨by rw [List.length_append, List.length_singleton]; omega, fun q hq => ?_⟩
    unfold laysF
    rw [List.length_map]
    rcases List.mem_append.mp hq with hq | hq
    · exact hd.lt i hi q hq
    · obtain rfl := List.mem_singleton.mp hq
      exact hi
  · obtain ⟨i, hi, rfl⟩ := hw w h
    refine List.Pairwise.imp_of_mem (fun {q r} hq hr z => ?_) (hd.order ok hp (hd.down i hi) hi (hd.lt i hi))
    have hq' : q < ps.length := by
      rcases List.mem_append.mp hq with hq | hq
      · exact hd.lt i hi q hq
      · obtain rfl := List.mem_singleton.mp hq
        exact hi
    have h1 := pne q hq'
    have b0 := bgn_nn ok hp (dn := dn) (i := q)
    have b1 := bgn_nn ok hp (dn := dn) (i := r)
    refine ⟨fun e => ?_, fun e he d hd' ed => ?_⟩
    · subst e
      omega
    · have h2 := pos q e he
      have h3 := pos r d hd'
      omega
end Ov
/-! ### a hall at a heap -/
namespace Ov
open PySem PySem.Spec PyProof.Rows L2
structure HA where
  a : Addr
  dx : Addr
  wy : Addr
  lo : Addr
  ly : Addr
def hallFs (x : HA) (mv : Int) : List (Str × V) := [("ways", .ref x.wy), ("layouts", .ref x.lo), ("lying", .ref x.ly), ("moved", .int mv)]
def CntAt (H : Hp) (v : V) (c : Cnt) : Prop := ∃ u, v = .ref u ∧ H u = some (.tup [.int (c.1 : Int), .int (c.2 : Int)])
theorem CntAt.keep {H H' : Hp} (k : Keep H H') {v : V} {c : Cnt} : CntAt H v c → CntAt H' v c := fun ⟨u, e, h⟩ => ⟨u, e, k _ _ h⟩
def CellAt (H : Hp) : V → Option Cnt → Prop
  | v, none => v = .non
  | v, some c => CntAt H v c
theorem CellAt.keep {H H' : Hp} (k : Keep H H') : ∀ {v : V} {c : Option Cnt}, CellAt H v c → CellAt H' v c
  | _, none, h => h
  | _, some _, h => CntAt.keep k h
def EntL (H : Hp) (v : V) (e : Nat × Cnt) : Prop := ∃ t u, v = .ref t ∧ H t = some (.tup [.int (e.1 : Int), u]) ∧ CntAt H u e.2
theorem EntL.keep {H H' : Hp} (k : Keep H H') {v : V} {e : Nat × Cnt} : EntL H v e → EntL H' v e := fun ⟨t, u, e1, h, c⟩ => ⟨t, u, e1, k _ _ h, c.keep k⟩
def LayAt (H : Hp) (b : Addr) (l : Lay) : Prop := ∃ vs, H b = some (.lst vs) ∧ Paired (EntL H) vs l
structure HallAt (K : PySem.W.Frag) (H0 H : Hp) (x : HA) (wys : List (List Nat)) (L : List Lay) (lc : List (Option Cnt)) (mv : Int) : Prop where
  ob : H x.a = some (.ins (He.ga K "Hall") x.dx (hallFs x mv))
  wy : ∃ ws : List Addr, H x.wy = some (.lst (ws.map V.ref)) ∧ Paired (fun b w => H b = some (.lst (nV w)) ∧ H0 b = none ∧ b ≠ x.ly) ws wys
  lo : ∃ ls : List Addr, H x.lo = some (.lst (ls.map V.ref)) ∧ Paired (fun b l => LayAt H b l ∧ H0 b = none ∧ b ≠ x.ly) ls L
  ly : ∃ vs, H x.ly = some (.lst vs) ∧ Paired (CellAt H) vs lc
  fa : H0 x.a = none
  fw : H0 x.wy = none ∧ x.wy ≠ x.ly
  fl : H0 x.lo = none ∧ x.lo ≠ x.ly
  fy : H0 x.ly = none
theorem paired_set {α β : Type} {R : α → β → Prop} {x : α} {y : β} : ∀ {l : List α} {m : List β}, Paired R l m → R x y → ∀ k : Nat, Paired R (l.set k x) (m.set k y)
  | _, _, .nil, _, _ => .nil
  | _, _, .cons _ r, h, 0 => .cons h r
  | _, _, .cons h1 r, h, k + 1 => .cons h1 (paired_set r h k)
section
variable {K : PySem.W.Frag} {H0 H H' H1 : Hp} {x : HA} {wys : List (List Nat)} {L : List Lay} {lc : List (Option Cnt)} {mv : Int}
theorem HallAt.keepF (h : HallAt K H0 H x wys L lc mv) (k : ∀ b o, H0 b = none → H b = some o → H' b = some o) (kt : Keep H H') : HallAt K H0 H' x wys L lc mv := by
  obtain ⟨h1, ⟨ws, h2, h3⟩, ⟨ls, h4, h5⟩, ⟨vs, h6, h7⟩, f1, f2, f3, f4⟩ := h
  exact ⟨k _ _ f1 h1, ⟨ws, k _ _ f2.1 h2, L2.Paired.mapP h3 fun b w z => ⟨k _ _ z.2.1 z.1, z.2⟩⟩, ⟨ls, k _ _ f3.1 h4, L2.Paired.mapP h5 fun b l z => by
    obtain ⟨⟨us, z1, z2⟩, z3⟩ := z
    exact ⟨⟨us, k _ _ z3.1 z1, L2.Paired.mapP z2 fun _ _ y => y.keep kt⟩, z3⟩⟩, ⟨vs, k _ _ f4 h6, L2.Paired.mapP h7 fun _ _ y => y.keep kt⟩, f1, f2, f3, f4⟩
theorem HallAt.same (h : HallAt K H0 H x wys L lc mv) (s : Same H H') : HallAt K H0 H' x wys L lc mv := h.keepF (fun b o _ e => s _ _ e) (Keep.same s)
theorem HallAt.but {p c : Addr} (h : HallAt K H0 H x wys L lc mv) (d0 : Dr H0 p c) (d : Dr H p c) (b : But p c H H') : HallAt K H0 H' x wys L lc mv := h.keepF (fun a o n e => b a o (fun z => by
    obtain ⟨m, k, ns, h1, h2, _⟩ := d0
    rw [z, h1] at n
    cases n) (fun z => by
    obtain ⟨m, k, ns, h1, h2, _⟩ := d0
    rw [z, h2] at n
    cases n) e) (Keep.but b d)
/-- all but the hall stays -/
def ButHl (x : HA) (H H' : Hp) : Prop := ∀ b o, b ≠ x.a → b ≠ x.ly → H b = some o → H' b = some o
theorem ButHl.refl : ButHl x H H := fun _ _ _ _ e => e
theorem ButHl.trans (p : ButHl x H H1) (q : ButHl x H1 H') : ButHl x H H' := fun b o n1 n2 e => q b o n1 n2 (p b o n1 n2 e)
theorem ButHl.same (s : Same H H') : ButHl x H H' := fun b o _ _ e => s b o e
theorem ButHl.keep (h : HallAt K H0 H x wys L lc mv) (b : ButHl x H H') : Keep H H' := fun a xs e => by
  obtain ⟨vs, h6, _⟩ := h.ly
  exact b a _ (ne_of e h.ob (by intro z; cases z)) (ne_of e h6 (by intro z; cases z)) e
theorem ButHl.s0 (h : HallAt K H0 H x wys L lc mv) (s : Same H0 H) (b : ButHl x H H') : Same H0 H' := fun a o e => b a o (ne_of_none e h.fa) (ne_of_none e h.fy) (s a o e)
theorem HallAt.setc (h : HallAt K H0 H x wys L lc mv) {vs : List V} (hl : H x.ly = some (.lst vs)) {v : V} {c : Cnt} (hv : CntAt H v c) (k : Nat) : HallAt K H0 (upd H x.ly (.lst (vs.set k v))) x wys L (lc.set k (some c)) mv ∧ ButHl x H (upd H x.ly (.lst (vs.set k v))) := by
  have kt := Keep.updL (ys := vs.set k v) hl
  obtain ⟨h1, ⟨ws, h2, h3⟩, ⟨ls, h4, h5⟩, ⟨us, h6, h7⟩, f1, f2, f3, f4⟩ := h
  obtain rfl : us = vs := by
    have z := h6.symm.trans hl
    cases z
    rfl
  refine ⟨⟨by rw [upd_ne (ne_of h1 hl (by intro z; cases z))]; exact h1, ⟨ws, by rw [upd_ne f2.2]; exact h2, L2.Paired.mapP h3 fun b w z => ⟨by rw [upd_ne z.2.2]; exact z.1, z.2⟩⟩, ⟨ls, by rw [upd_ne f3.2]; exact h4, L2.Paired.mapP h5 fun b l z => ?_⟩, ⟨us.set k v, upd_same, ?_⟩, f1, f2, f3, f4⟩, fun b o _ n e => by rw [upd_ne n]; exact e⟩
  · obtain ⟨⟨us', z1, z2⟩, z3⟩ := z
    exact ⟨⟨us', by rw [upd_ne z3.2]; exact z1, L2.Paired.mapP z2 fun _ _ y => y.keep kt⟩, z3⟩
  · have h8 := L2.Paired.mapP h7 fun _ _ y => CellAt.keep kt y
    exact paired_set h8 (show CellAt _ v (some c) from hv.keep kt) k
theorem hall_mv {m : Int} : putF "moved" (.int m) (hallFs x mv) = hallFs x m := by rfl
theorem HallAt.mvd (h : HallAt K H0 H x wys L lc mv) (m : Int) : HallAt K H0 (upd H x.a (.ins (He.ga K "Hall") x.dx (putF "moved" (.int m) (hallFs x mv)))) x wys L lc m ∧ ButHl x H (upd H x.a (.ins (He.ga K "Hall") x.dx (putF "moved" (.int m) (hallFs x mv)))) := by
  rw [hall_mv]
  obtain ⟨h1, ⟨ws, h2, h3⟩, ⟨ls, h4, h5⟩, ⟨us, h6, h7⟩, f1, f2, f3, f4⟩ := h
  have ne : ∀ {b : Addr} {l : List V}, H b = some (.lst l) → b ≠ x.a := fun e => ne_of e h1 (by intro z; cases z)
  have kt : Keep H (upd H x.a (.ins (He.ga K "Hall") x.dx (hallFs x m))) := fun b xs e => by
    rw [upd_ne (ne_of e h1 (by intro z; cases z))]
    exact e
  exact ⟨⟨upd_same, ⟨ws, by rw [upd_ne (ne h2)]; exact h2, L2.Paired.mapP h3 fun b w z => ⟨by rw [upd_ne (ne z.1)]; exact z.1, z.2⟩⟩, ⟨ls, by rw [upd_ne (ne h4)]; exact h4, L2.Paired.mapP h5 fun b l z => by
    obtain ⟨⟨us', z1, z2⟩, z3⟩ := z
    exact ⟨⟨us', by rw [upd_ne (ne z1)]; exact z1, L2.Paired.mapP z2 fun _ _ y => y.keep kt⟩, z3⟩⟩, ⟨us, by rw [upd_ne (ne h6)]; exact h6, L2.Paired.mapP h7 fun _ _ y => CellAt.keep kt y⟩, f1, f2, f3, f4⟩, fun b o n _ e => by rw [upd_ne n]; exact e⟩
end
/-- all is as it must be: the hall's own heap, its ways and layouts, as many cells -/
structure HallIn (K : PySem.W.Frag) (H0 H : Hp) (x : HA) (wys : List (List Nat)) (L : List Lay) (lc : List (Option Cnt)) (mv : Int) (far : Nat) : Prop where
  at_ : HallAt K H0 H x wys L lc mv
  ok : HlOk wys L far
  le : far ≤ lc.length ∧ lc.length ≤ 64
def spCheckRoom : Sp := fun vs H Q _ => ∃ r : Int, vs = [.int r] ∧ 1 ≤ r ∧ r ≤ 64 ∧ Q .non H
def spLayouts : Sp := fun vs H Q _ => ∃ v t pr ps st dn, vs = [v, t] ∧ preT H v t pr ps st ∧ Dn pr.length ps st dn ∧ ∀ H' p ls cs, Same H H' → H p = none → H' p = some (.lst (ls.map V.ref)) → Cells pr ps dn cs → Paired (fun b l => LayAt H' b l ∧ H b = none) ls (laysF pr cs ps) → Q (.ref p) H'
def spHallInit (K : PySem.W.Frag) : Sp := fun vs H Q _ => ∃ (H0 : Hp) (a dx : Addr) (v t : V) (pr : List (Int × W)) (ps : List (List Nat)) (st : List Int) (dn : Nat → List Nat) (far : Int) (room : Nat), vs = [.ref a, v, t, .int (room : Int)] ∧ H a = some (.ins (He.ga K "Hall") dx []) ∧ H0 a = none ∧ (∀ b, H b = none → H0 b = none) ∧ preT H v t pr ps st ∧ Dn pr.length ps st dn ∧ Far pr ps dn far ∧ far ≤ (room : Int) ∧ room ≤ 64 ∧
  ∀ H' x cs, (∀ b o, b ≠ a → H b = some o → H' b = some o) → x.a = a → x.dx = dx → Cells pr ps dn cs → HallIn K H0 H' x (waysF pr.length ps dn) (laysF pr cs ps) (List.replicate room none) 0 far.toNat → Q .non H'
def spHasPart (K : PySem.W.Frag) : Sp := fun vs H Q _ => ∃ (H0 : Hp) (x : HA) (wys : List (List Nat)) (L : List Lay) (lc : List (Option Cnt)) (mv : Int) (far : Nat) (q : Nat), vs = [.ref x.a, .int (q : Int)] ∧ HallIn K H0 H x wys L lc mv far ∧ q < L.length ∧ ∀ H', Same H H' → Q (.bl (Has lc (lyr L q))) H'
def spBring (K : PySem.W.Frag) : Sp := fun vs H Q _ => ∃ (H0 : Hp) (x : HA) (wys : List (List Nat)) (L : List Lay) (lc : List (Option Cnt)) (mv : Int) (far : Nat) (q : Nat), vs = [.ref x.a, .int (q : Int)] ∧ HallIn K H0 H x wys L lc mv far ∧ q < L.length ∧ ∀ H', ButHl x H H' → HallIn K H0 H' x wys L (brg lc (lyr L q)) (mv + ((lyr L q).length : Nat)) far → Q .non H'
def spLook (K : PySem.W.Frag) : Sp := fun vs H Q _ => ∃ (H0 : Hp) (x : HA) (wys : List (List Nat)) (L : List Lay) (lc : List (Option Cnt)) (mv : Int) (far : Nat) (f : Nat) (w : List Nat), vs = [.ref x.a, .int (f : Int)] ∧ HallIn K H0 H x wys L lc mv far ∧ wys[f]? = some w ∧
  ∀ H' r, ButHl x H H' → H r = none → r ≠ x.ly → H' r = some (.lst (nV (mis lc L w))) → HallIn K H0 H' x wys L (brgs lc L (mis lc L w)) (mv + (siz L (mis lc L w) : Nat)) far → Q (.ref r) H'
def spThere (K : PySem.W.Frag) : Sp := fun vs H Q _ => ∃ (H0 : Hp) (x : HA) (wys : List (List Nat)) (L : List Lay) (lc : List (Option Cnt)) (mv : Int) (far : Nat) (f : Nat) (w : List Nat), vs = [.ref x.a, .int (f : Int)] ∧ HallIn K H0 H x wys L lc mv far ∧ wys[f]? = some w ∧ ∀ H', Same H H' → Q (.bl (thr lc L w)) H'
def spCells (K : PySem.W.Frag) : Sp := fun vs H Q _ => ∃ (H0 : Hp) (x : HA) (wys : List (List Nat)) (L : List Lay) (lc : List (Option Cnt)) (mv : Int) (far : Nat), vs = [.ref x.a] ∧ HallIn K H0 H x wys L lc mv far ∧ ∀ H' r us, Same H H' → H r = none → H' r = some (.lst us) → Paired (CellAt H') us lc → Q (.ref r) H'
def spBrought (K : PySem.W.Frag) : Sp := fun vs H Q _ => ∃ (H0 : Hp) (x : HA) (wys : List (List Nat)) (L : List Lay) (lc : List (Option Cnt)) (mv : Int) (far : Nat), vs = [.ref x.a] ∧ HallIn K H0 H x wys L lc mv far ∧ Q (.int mv) H
theorem cells_none {H : Hp} : ∀ n : Nat, Paired (CellAt H) (List.replicate n V.non) (List.replicate n none)
  | 0 => .nil
  | n + 1 => .cons rfl (cells_none n)
/-- a cell's data -/
def cntD (c : Cnt) : PyData := .tuple [.int (c.1 : Int), .int (c.2 : Int)]
def cellD : Option Cnt → PyData
  | none => .none
  | some c => cntD c
theorem cell_dp {K : PySem.W.Frag} {H : Hp} : ∀ {v : V} {c : Option Cnt}, CellAt H v c → Dp K H v (cellD c)
  | _, none, rfl => .non
  | _, some _, ⟨_, rfl, h⟩ => .tup (SqT.of h) (.cons (.int _) (.cons (.int _) .nil))
theorem cell_shaped : ∀ c : Option Cnt, SeqAt.shaped (cellD c) = true
  | none => by simp [cellD, SeqAt.shaped, PyData.depth, PyData.canLay0]
  | some c => pairShaped _ _
theorem cell_eqv (c : Option Cnt) (d : Cnt) : PyData.eqv (cellD c) (cellD (some d)) = decide (c = some d) := by
  cases c with
  | none => simp [cellD, cntD, PyData.eqv]
  | some c =>
    obtain ⟨a, b⟩ := c
    obtain ⟨a', b'⟩ := d
    have e : ∀ u v : Nat, ((u : Int) == (v : Int)) = decide (u = v) := fun u v => by
      rw [Bool.eq_iff_iff, beq_iff_eq, decide_eq_true_iff]
      omega
    simp [cellD, cntD, PyData.eqv, PyData.eqvAll, e]
end Ov
/-! ### what a law needs of halls -/
namespace Ov
open PySem PySem.Spec PyProof.Rows L2
theorem pig : ∀ (n : Nat) (l : List Nat), l.Nodup → (∀ x ∈ l, x < n) → l.length ≤ n
  | 0, l, _, h => by
    cases l with
    | nil => exact Nat.le_refl _
    | cons x l => exact absurd (h x List.mem_cons_self) (Nat.not_lt_zero _)
  | n + 1, l, nd, h => by
    have z := pig n (l.erase n) (nd.erase n) fun x hx => by
      have h1 := (List.Nodup.mem_erase_iff nd).mp hx
      have h2 := h x h1.2
      have h3 := h1.1
      omega
    rw [List.length_erase] at z
    split at z <;> omega
theorem psz_app (pr : List (Int × W)) (p q : List Nat) : psz pr (p ++ q) = psz pr p + psz pr q := by
  unfold psz
  rw [List.map_append, List.sum_append]
theorem psz_flat (pr : List (Int × W)) (g : Nat → List Nat) : ∀ w : List Nat, psz pr (w.flatMap g) = (w.map fun q => psz pr (g q)).sum
  | [] => rfl
  | q :: w => by rw [List.flatMap_cons, psz_app, psz_flat pr g w, List.map_cons, List.sum_cons]
theorem far_le {pr : List (Int × W)} (ok : PrOk pr) {ps : List (List Nat)} {st : List Int} (ht : TrOk pr.length ps st) {dn : Nat → List Nat} (hd : Dn pr.length ps st dn) {m : Int} (hm : Far pr ps dn m) : 1 ≤ m ∧ m ≤ 64 := by
  have hp := ht.p
  obtain ⟨i, p, e, rfl⟩ := hm.1
  have hi := (List.getElem?_eq_some_iff.mp e).1
  have pne : ∀ q, q < ps.length → 1 ≤ psz pr (ps[q]?.getD []) := fun q hq => by
    rw [List.getElem?_eq_getElem hq]
    have h1 := psz_nn ok (p := ps[q]) fun x hx => hp.lt (List.getElem_mem hq) hx
    have h2 := List.length_pos_iff.mpr (hp.ne _ (List.getElem_mem hq))
    show 1 ≤ psz pr ps[q]
    omega
  have b0 := bgn_nn ok hp (dn := dn) (i := i)
  have lt : ∀ q ∈ dn i ++ [i], q < ps.length := fun q hq => by
    rcases List.mem_append.mp hq with hq | hq
    · exact hd.lt i hi q hq
    · rw [List.mem_singleton.mp hq]
      exact hi
  have e1 : bgn pr ps dn i + psz pr p = psz pr ((dn i ++ [i]).flatMap fun q => ps[q]?.getD []) := by
    rw [psz_flat, bgn_psz, e]
    rfl
  have z := pne i hi
  rw [e] at z
  have z : 1 ≤ psz pr p := z
  refine ⟨by omega, ?_⟩
  rw [e1]
  have mem : ∀ x ∈ (dn i ++ [i]).flatMap (fun q => ps[q]?.getD []), x < pr.length := fun x hx => by
    obtain ⟨q, hq, hx⟩ := List.mem_flatMap.mp hx
    rw [List.getElem?_eq_getElem (lt q hq)] at hx
    exact hp.lt (List.getElem_mem (lt q hq)) hx
  have nd : ((dn i ++ [i]).flatMap fun q => ps[q]?.getD []).Nodup := by
    unfold List.Nodup
    rw [List.pairwise_flatMap]
    refine ⟨fun q hq => ?_, ?_⟩
    · rw [List.getElem?_eq_getElem (lt q hq)]
      exact List.Pairwise.imp (fun z => by omega) (hp.rise _ (List.getElem_mem (lt q hq)))
    · refine List.Pairwise.imp_of_mem (fun {q r} hq hr z => ?_) (hd.order ok hp (hd.down i hi) hi (hd.lt i hi))
      intro x hx y hy exy
      subst exy
      rw [List.getElem?_eq_getElem (lt q hq)] at hx
      rw [List.getElem?_eq_getElem (lt r hr)] at hy
      obtain ⟨j, hj⟩ := List.mem_iff_getElem?.mp hx
      obtain ⟨k, hk⟩ := List.mem_iff_getElem?.mp hy
      have eq := (hp.uniq (List.getElem?_eq_getElem (lt q hq)) hj (List.getElem?_eq_getElem (lt r hr)) hk).1
      subst eq
      have := pne q (lt q hq)
      omega
  have h1 := pig pr.length _ nd mem
  have h2 := (psz_nn ok mem).2
  have := ok.l8
  omega
theorem siz_eq {pr : List (Int × W)} (ok : PrOk pr) {ps : List (List Nat)} (hp : PInv pr.length ps) {dn : Nat → List Nat} {cs : List Int} (hc : Cells pr ps dn cs) : ∀ ms : List Nat, ((siz (laysF pr cs ps) ms : Nat) : Int) = (ms.map fun q => psz pr (ps[q]?.getD [])).sum
  | [] => rfl
  | q :: ms => by
    have z := lay_len ok hp hc (q := q)
    have y := siz_eq ok hp hc ms
    have e : siz (laysF pr cs ps) (q :: ms) = (lyr (laysF pr cs ps) q).length + siz (laysF pr cs ps) ms := rfl
    rw [e, List.map_cons, List.sum_cons, Int.natCast_add, z, y]
theorem atI_last (l : List Nat) (x : Nat) : atI (nV (l ++ [x])) (-1) = some (.int (x : Int)) := by
  have e : (nV (l ++ [x])).length = l.length + 1 := by rw [nV_len, List.length_append]; rfl
  have z : ixN (l.length + 1) (-1) = some l.length := by
    unfold ixN
    rw [if_neg (by omega), if_pos (by omega)]
    congr 1
    omega
  unfold atI
  rw [e, z, nV_app]
  show (nV l ++ [V.int (x : Int)])[l.length]? = _
  rw [List.getElem?_append_right (by rw [nV_len]; exact Nat.le_refl _), nV_len, Nat.sub_self]
  rfl
/-- all but the drawer and the hall stays -/
def ButLw (x : HA) (h c : Addr) (H H' : Hp) : Prop := ∀ b o, b ≠ h → b ≠ c → b ≠ x.a → b ≠ x.ly → H b = some o → H' b = some o
section
variable {K : PySem.W.Frag} {H0 H H' H1 : Hp} {x : HA} {wys : List (List Nat)} {L : List Lay} {lc : List (Option Cnt)} {mv : Int} {far : Nat} {h c : Addr}
theorem ButLw.refl : ButLw x h c H H := fun _ _ _ _ _ _ e => e
theorem ButLw.same (p : ButLw x h c H H1) (s : Same H1 H') : ButLw x h c H H' := fun b o n1 n2 n3 n4 e => s _ _ (p b o n1 n2 n3 n4 e)
theorem ButLw.but (p : ButLw x h c H H1) (s : But h c H1 H') : ButLw x h c H H' := fun b o n1 n2 n3 n4 e => s _ _ n1 n2 (p b o n1 n2 n3 n4 e)
theorem ButLw.hall (p : ButLw x h c H H1) (s : ButHl x H1 H') : ButLw x h c H H' := fun b o n1 n2 n3 n4 e => s _ _ n3 n4 (p b o n1 n2 n3 n4 e)
theorem HallIn.same (i : HallIn K H0 H x wys L lc mv far) (s : Same H H') : HallIn K H0 H' x wys L lc mv far := ⟨i.at_.same s, i.ok, i.le⟩
theorem HallIn.but (i : HallIn K H0 H x wys L lc mv far) (d0 : Dr H0 h c) (d : Dr H h c) (b : But h c H H') : HallIn K H0 H' x wys L lc mv far := ⟨i.at_.but d0 d b, i.ok, i.le⟩
theorem Dr.ne0 (d0 : Dr H0 h c) (i : HallIn K H0 H x wys L lc mv far) : h ≠ x.a ∧ h ≠ x.ly ∧ c ≠ x.a ∧ c ≠ x.ly := by
  obtain ⟨m, k, ns, h1, h2, _⟩ := d0
  exact ⟨ne_of_none h1 i.at_.fa, ne_of_none h1 i.at_.fy, ne_of_none h2 i.at_.fa, ne_of_none h2 i.at_.fy⟩
theorem Dr.hall (d : Dr H h c) (d0 : Dr H0 h c) (i : HallIn K H0 H x wys L lc mv far) (b : ButHl x H H') : Dr H' h c := by
  obtain ⟨n1, n2, n3, n4⟩ := Dr.ne0 d0 i
  obtain ⟨m, k, ns, h1, h2, h3⟩ := d
  exact ⟨m, k, ns, b _ _ n1 n2 h1, b _ _ n3 n4 h2, h3⟩
theorem ButLw.keep (p : ButLw x h c H H') (d : Dr H h c) (i : HallIn K H0 H x wys L lc mv far) : Keep H H' := fun a xs e => by
  obtain ⟨m, k, ns, h1, h2, _⟩ := d
  obtain ⟨vs, h6, _⟩ := i.at_.ly
  exact p a _ (ne_of e h1 (by intro z; cases z)) (ne_of e h2 (by intro z; cases z)) (ne_of e i.at_.ob (by intro z; cases z)) (ne_of e h6 (by intro z; cases z)) e
end
end Ov
/-! ### comprehensions that errors leave: the words of the model -/
namespace Ov
open PySem PySem.Spec PyProof.Rows L2
/-- what is asked of a comprehension's end, by its own environment -/
def cPost (M : Model) (A : Around) (E : Value → Shared → Prop) (use : Option (Value → Sem Unit)) (Q : Value → Shared → Prop) (acc : Value) (cenv : Env) : Result → Shared → Prop := fun r s' =>
  match r with
  | .ok _ => compPost M A E use Q acc cenv.locals r s'
  | .error x => ∃ m, s'.heap.Ns cenv.locals m ∧ ∀ (h' : Heap) (m' : Str → Option Value), h'.Ns cenv.locals m' → Heap.SameBut cenv.locals s'.heap h' →
      wpAny M A (PySem.passOn "comprehension.variables-let-go" x cenv) (fun (_ : Value) _ => False) E { s' with heap := h' }
theorem comp_exc {M : Model} {A : Around} {E : Value → Shared → Prop} {s : Shared} {env : Env} {e : Expr} {scope : Scope} {pos : Pos} {newAcc first : Sem Value} {g : Comprehension} {gs : List Comprehension} {cl : List (Str × Addr)} {use : Option (Value → Sem Unit)} {Q : Value → Shared → Prop}
    (hc : clausesOf e = g :: gs) (hf : ∀ x, foldedSetIterable g.iter env x = pure x) (hcl : closureFor scope env = pure cl) (hk : scope.kind = .function)
    (hl : ∀ x ∈ scope.names, x.2 = .local → List.lookup x.1 scope.names = some .local)
    (h : wpAny M A first (fun x s₁ => wpAny M A (pyIter x) (fun it s₂ => wpAny M A newAcc (fun acc s₃ => wpAny M A (newFunctionEnv scope env.globals cl [] env.qual none .none (some env)) (fun cenv s₄ =>
      codeAny M A (.compStart e 0 it acc { scope := relabel scope env, locals := cenv.locals, globals := cenv.globals, cells := cenv.cells, qual := cenv.qual, func := cenv.func, code := cenv.code, frame := cenv.frame, builtins := cenv.builtins })
        (cPost M A E use Q acc { scope := relabel scope env, locals := cenv.locals, globals := cenv.globals, cells := cenv.cells, qual := cenv.qual, func := cenv.func, code := cenv.code, frame := cenv.frame, builtins := cenv.builtins }) s₄) E s₃) E s₂) E s₁) E s) :
    wpAny M A (comprehension e scope env pos newAcc false first use) Q E s := by
  unfold comprehension
  refine wpAny_bind (wpAny_mono h (fun x s1 h => ?_) fun _ _ z => z)
  refine wpAny_bind (wpAny_standAt ?_)
  rw [hc]
  refine wpAny_bind (wpAny_of_eq (hf x) ?_)
  refine wpAny_bind (wpAny_holding ?_)
  refine wpAny_mono h (fun it s2 h => ?_) fun _ _ z => z
  refine wpAny_standIf ?_
  refine wpAny_bind (wpAny_mono h (fun acc s3 h => ?_) fun _ _ z => z)
  refine wpAny_bind (wpAny_of_eq hcl ?_)
  refine wpAny_bind (wpAny_mono h (fun cenv s4 h => ?_) fun _ _ z => z)
  refine wpAny_holding ?_
  refine wpAny_bind (wpAny_attempt (wpAny_holding (wpAny_run (codeAny_mono h fun r s5 hr => ?_) (by decide))))
  have hkk : ({ scope := relabel scope env, locals := cenv.locals, globals := cenv.globals, cells := cenv.cells, qual := cenv.qual, func := cenv.func, code := cenv.code, frame := cenv.frame, builtins := cenv.builtins } : Env).scope.kind = .function := hk
  have hloc : ∀ x ∈ scope.names, x.2 = .local → ({ scope := relabel scope env, locals := cenv.locals, globals := cenv.globals, cells := cenv.cells, qual := cenv.qual, func := cenv.func, code := cenv.code, frame := cenv.frame, builtins := cenv.builtins } : Env).kindOf x.1 = some .local := fun x hx e => lookup_relabel_local (hl x hx e)
  cases r with
  | error x =>
    obtain ⟨m, hm, hr⟩ := hr
    refine wpAny_bind (wpAny_holding (wpAny_comp_letGo hkk _ s5 m ?_ hm fun h' m' hm' sb => ?_))
    · exact fun x hx e => hloc x (List.mem_filter.mp (List.mem_reverse.mp hx)).1 e
    · exact wpAny_mono (hr h' m' hm' sb) (fun _ _ z => z.elim) fun _ _ z => z
  | ok a =>
    cases use with
    | none =>
      obtain ⟨m, hm, hr⟩ := hr
      refine wpAny_bind (wpAny_holding (wpAny_comp_letGo hkk _ s5 m ?_ hm fun h' m' hm' sb => wpAny_pure (hr h' sb)))
      exact fun x hx e => hloc x (List.mem_filter.mp (List.mem_reverse.mp hx)).1 e
    | some u =>
      refine wpAny_bind (wpAny_rule (wpAny_bind (wpAny_holding (wpAny_mono hr (fun _ s6 ⟨m, hm, hr⟩ => ?_) fun _ _ z => z))))
      refine wpAny_bind (wpAny_comp_letGo hkk _ s6 m ?_ hm fun h' m' hm' sb => wpAny_pure (hr h' sb))
      intro x hx e
      refine hloc x ?_ e
      rcases List.mem_append.mp hx with hx | hx
      · exact (List.mem_filter.mp (List.mem_reverse.mp (List.mem_of_mem_drop hx))).1
      · exact (List.mem_filter.mp (List.mem_reverse.mp (List.mem_of_mem_take hx))).1

theorem noteFrame_eq {e : Value} {env cenv : Env} (h : cenv.frame = env.frame) : noteFrame e cenv = noteFrame e env := by
  unfold noteFrame PySem.frameOf
  rw [h]
theorem passOn_eq {α : Type} {w : String} {e : Value} {env cenv : Env} (h : cenv.frame = env.frame) : (PySem.passOn w e cenv : Sem α) = PySem.passOn w e env := by
  unfold PySem.passOn
  rw [h]
theorem ff_base {h h2 B B' : Heap} : ∀ {l : List Env}, h.FunFrames B l → (∀ b, B.get? b = none → ∀ o, h.get? b = some o → B'.get? b = none ∧ h2.get? b = some o) → h2.FunFrames B' l
  | [], _, _ => True.intro
  | _ :: _, ⟨k, ⟨L, o, e1, e2, e3, e4⟩, r⟩, f => ⟨k, ⟨L, o, e1, (f L e2 o e3).1, (f L e2 o e3).2, e4⟩, ff_base r f⟩
/-- an error that leaves a comprehension's step is noted by the frame, the variables let go, passed on -/
theorem lc_raise {X : Cx} {W : WX} (tk : Takes X W) (hs : X.stack = X.env :: X.outer) (hf : X.env.frame = some X.env.locals) {pins : List (Addr × Obj)} {σ0 : L2.St} {H3 : Hp} {s3 : Shared} (I3 : Inv X pins σ0 H3 s3) {fp : List Addr} (hfp : ∀ b ∈ fp, FpOk X pins H3 b ∧ b < s3.heap.objs.size)
    {scope : Scope} {cl : List (Str × Addr)} {C : Addr} (hC : s3.heap.objs.size ≤ C) {E : XK} (hW : ∀ cls d H, E cls d H → W cls d σ0 H) {use : Option (Value → Sem Unit)} {Q : Value → Shared → Prop} {acc : Value}
    {pinsB : List (Addr × Obj)} {σ : L2.St} {H : Hp} {s : Shared} (Ib : Inv (X.blk s3 H3 scope (compEnvC scope cl C X.env) fp) pinsB σ H s) {e : Value} {s' : Shared} (c : CX X.prog X.w X.stack H s E e s') :
    notedBy (model X.prog X.w) X.A (compEnvC scope cl C X.env) (fun x s'' => cPost (model X.prog X.w) X.A X.xe use Q acc (compEnvC scope cl C X.env) (.error x) s'') e s' := by
  obtain ⟨a, B, H', cls, d, rfl, fl, hok, ub, na, os, ag, hE⟩ := c
  have HC : H C = none := Ib.free
  have nC : ¬ C ∈ frs X.stack := fun z => by
    obtain ⟨_, o, ho, _⟩ := Heap.FunFrames.mem Ib.ok.funs z
    exact absurd (Heap.lt_size ho) (Nat.not_lt.mpr hC)
  obtain ⟨m, ⟨o, es, ep, ho, hd, hsk, hfi⟩, _⟩ := Ib.loc
  have eB : B.get? C = some o := ub.keep C o ho HC nC
  have fr : ∀ {b}, b ∈ frs X.stack → B.get? b = none ∧ ∃ o, s'.heap.get? b = some o ∧ ∀ vs, o.data ≠ .fields vs := fun hb => Heap.FunFrames.mem fl.2.2.1 hb
  have fHC : H' C = none := ub.free C o ho HC
  unfold notedBy
  rw [noteFrame_eq (env := X.env) (cenv := compEnvC scope cl C X.env) rfl]
  have fl' := fl
  rw [hs] at fl'
  refine HandSPX.looks_onZ Zc.steady (by rw [I3.ok.frames, hs]) hf fl' fun h1 held up1 => ?_
  refine ⟨m, ⟨o, es, ep, held.1 C o eB, hd, hsk, hfi⟩, fun h2 m' hm' sb => ?_⟩
  rw [passOn_eq (env := X.env) (cenv := compEnvC scope cl C X.env) rfl]
  obtain ⟨st1, nb1, ff1, oe, vs, T, oT, ts, ha, hz, hvs, h1T, nT, neT, hT, hts, h3T⟩ := held
  have naC : a ≠ C := fun z => by
    rw [z, eB] at nb1
    cases nb1
  have nTC : T ≠ C := fun z => by
    rw [z, eB] at nT
    cases nT
  obtain ⟨B', b1, b2⟩ := L2.restrict B fun b => decide (b ≠ C)
  have bn : ∀ {b}, b ≠ C → B'.get? b = B.get? b := fun n => b1 _ (decide_eq_true n)
  have bC : B'.get? C = none := b2 _ (decide_eq_false fun z => z rfl)
  have bS : ∀ {b o}, B'.get? b = some o → b ≠ C ∧ B.get? b = some o := fun {b o} h => by
    by_cases n : b = C
    · rw [n, bC] at h
      cases h
    · exact ⟨n, by rw [← bn n]; exact h⟩
  have held2 : HandSPX.HeldZ B' (X.env :: X.outer) a (Zc cls d) X.env.locals h2 := by
    refine ⟨fun b o' h => ?_, by rw [bn naC]; exact nb1, ?_, oe, vs, T, oT, ts, by rw [sb.2 a naC]; exact ha, hz, hvs, h1T, by rw [bn nTC]; exact nT, neT, by rw [sb.2 T nTC]; exact hT, hts, h3T⟩
    · obtain ⟨n, h⟩ := bS h
      rw [sb.2 b n]
      exact st1 b o' h
    · refine ff_base ff1 fun b hb o' ho' => ?_
      have n : b ≠ C := fun z => by
        rw [z, eB] at hb
        cases hb
      exact ⟨by rw [bn n]; exact hb, by rw [sb.2 b n]; exact ho'⟩
  unfold PySem.passOn
  refine wpAny_bind (wpAny_field (o := oe) (vs := vs) (x := .ref T) (by show h2.get? a = _; rw [sb.2 a naC]; exact ha) hvs h1T ?_)
  have hne : (Value.ref T == Value.none) = false := rfl
  rw [hf]
  simp only [hne, Bool.false_eq_true, if_false]
  refine wpAny_bind (HandSPX.setFlight_onZ (s := { s' with heap := h2 }) held2 fun h3 held3 up3 => ?_)
  refine wpAny_throw ?_
  refine tk _ _ ?_
  have d1 : ∀ {b o}, b ≠ C → s'.heap.get? b = some o → (∀ vs, o.data ≠ .fields vs) → ∃ sl, h3.get? b = some { cls := o.cls, dict := o.dict, data := o.data, slots := sl } := fun {b o} n h1' nf => by
    obtain ⟨sl, e1⟩ := up1 b o h1' nf
    have e2 : h2.get? b = _ := (sb.2 b n).trans e1
    obtain ⟨sl2, e3⟩ := up3 b _ e2 nf
    exact ⟨sl2, e3⟩
  -- the heap as it is told
  obtain ⟨G, g1, g2⟩ := L2.restrict s'.heap fun b => (B.get? b).isSome || decide (b ∈ frs X.stack)
  have gB : ∀ b o, B.get? b = some o → G.get? b = some o := fun b o e => by
    rw [g1 b (by rw [e]; rfl)]
    exact fl.1 b o e
  have gF : ∀ b, b ∈ frs X.stack → G.get? b = s'.heap.get? b := fun b hb => g1 b (by rw [decide_eq_true hb, Bool.or_true])
  have bk := Ib.base
  have un : Un (frs X.stack) fp H3 H' s3.heap G := by
    refine ⟨fun b o e n h1 h2 => ?_, fun b o e n h1 h2 => ?_, fun b o e n h1 => ?_, fun b o e h1 => ?_, fun b xs e => ub.tups b xs (bk.tups b xs e), fun b o u e => ub.frzs b o u (bk.frzs b o u e), fun b ps e => ?_⟩
    · exact gB b o (ub.keep b o (bk.keep b o e n h1 h2) (bk.free b o e n h2) h1)
    · obtain ⟨sl, e1⟩ := bk.slot b o e n h1 h2
      obtain ⟨sl2, e2⟩ := ub.slot b _ e1 h1
      exact ⟨sl2, by rw [gF b h1]; exact e2⟩
    · obtain ⟨o', e'⟩ := bk.there b o e h1
      exact ub.free b o' e' (bk.free b o e n h1)
    · obtain ⟨o', e'⟩ := bk.there b o e h1
      by_cases hb : b ∈ frs X.stack
      · obtain ⟨sl, e2⟩ := ub.slot b o' e' hb
        exact ⟨_, by rw [gF b hb]; exact e2⟩
      · obtain ⟨o2, e2⟩ := ub.there b o' e' hb
        exact ⟨o2, gB b o2 e2⟩
    · obtain ⟨m1, q1⟩ := bk.tbls b ps e
      obtain ⟨m2, q2⟩ := ub.tbls b _ q1
      exact ⟨m1 ++ m2, by rw [← Array.append_assoc]; exact q2⟩
  have I4 : Inv X pins σ0 H' { heap := G, gens := s'.gens, drawn := s'.drawn, toks := s'.toks, os := s.os } := I3.call' Ib.os un (HOk.kept hok gB) ag fun b hb => by
    obtain ⟨_, q2, _, q4, q5, q6⟩ := (hfp b hb).1
    exact ⟨q4, q2, q5, q6⟩
  obtain ⟨_, q2, _, q4, q5, q6⟩ := I3.fpOk hC fHC
  obtain ⟨G2, k1, k2⟩ := L2.restrict G fun b => decide (b ≠ C)
  have kn : ∀ {b}, b ≠ C → G2.get? b = G.get? b := fun n => k1 _ (decide_eq_true n)
  have I5 := I4.turned (h' := G2) (t' := s'.toks) (it := C) (fun b o n e => by rw [kn n]; exact e) fHC q2 q4 q5 q6
  have og : ∀ {b o}, G2.get? b = some o → b ≠ C ∧ s'.heap.get? b = some o ∧ (¬ b ∈ frs X.stack → B'.get? b = some o) := fun {b o} e => by
    by_cases n : b = C
    · rw [n, k2 _ (decide_eq_false fun z => z rfl)] at e
      cases e
    · rw [kn n] at e
      cases q : (B.get? b).isSome || decide (b ∈ frs X.stack) with
      | false =>
        rw [g2 b q] at e
        cases e
      | true =>
        rw [g1 b q] at e
        refine ⟨n, e, fun nb => ?_⟩
        rw [decide_eq_false nb, Bool.or_false] at q
        obtain ⟨o', e'⟩ := Option.isSome_iff_exists.mp q
        have := (fl.1 b o' e').symm.trans e
        cases this
        rw [bn n]
        exact e'
  exact ⟨a, B', _, pins, σ0, H', cls, d, rfl, I5, fun b o e hb => (og e).2.2 hb, fun b o e nf => d1 (og e).1 (og e).2.1 nf, .inr (.inr (by rw [hs]; exact held3)), na, os, ag, hW cls d H' hE⟩
end Ov
/-! ### the rule for a comprehension that errors leave -/
namespace Ov
open PySem PySem.Spec PyProof.Rows L2
/-- the block of a comprehension, with its own way out -/
@[reducible] def blkX (X : Cx) (s : Shared) (H : Hp) (scope : Scope) (ce : Env) (fp : List Addr) (xe : Value → Shared → Prop) : Cx := { X.blk s H scope ce fp with xe := xe }
theorem inv_to {X : Cx} {s0 : Shared} {H0 : Hp} {scope : Scope} {ce : Env} {fp : List Addr} {xe : Value → Shared → Prop} {pins : List (Addr × Obj)} {σ : L2.St} {H : Hp} {s : Shared} (I : Inv (X.blk s0 H0 scope ce fp) pins σ H s) : Inv (blkX X s0 H0 scope ce fp xe) pins σ H s :=
  ⟨⟨I.ok.mod, I.ok.kind, I.ok.glob, I.ok.blt, I.ok.above, I.ok.inj, I.ok.has, I.ok.cab, I.ok.hd, I.ok.frames, I.ok.stk, I.ok.exf, I.ok.bs, I.ok.bsz, I.ok.noex, I.ok.exfs, I.ok.funs, I.ok.frf⟩, I.os, I.bare, I.base, I.loc, I.cell, I.free, I.freeC, I.pin, I.hok, I.len⟩
theorem inv_of {X : Cx} {s0 : Shared} {H0 : Hp} {scope : Scope} {ce : Env} {fp : List Addr} {xe : Value → Shared → Prop} {pins : List (Addr × Obj)} {σ : L2.St} {H : Hp} {s : Shared} (I : Inv (blkX X s0 H0 scope ce fp xe) pins σ H s) : Inv (X.blk s0 H0 scope ce fp) pins σ H s :=
  ⟨⟨I.ok.mod, I.ok.kind, I.ok.glob, I.ok.blt, I.ok.above, I.ok.inj, I.ok.has, I.ok.cab, I.ok.hd, I.ok.frames, I.ok.stk, I.ok.exf, I.ok.bs, I.ok.bsz, I.ok.noex, I.ok.exfs, I.ok.funs, I.ok.frf⟩, I.os, I.bare, I.base, I.loc, I.cell, I.free, I.freeC, I.pin, I.hok, I.len⟩
theorem lcX_loop {X : Cx} {W : WX} {E : XK} (tk : Takes X W) (hW : ∀ cls d σ H, E cls d H → W cls d σ H) (hs : X.stack = X.env :: X.outer) (hf : X.env.frame = some X.env.locals) {pins : List (Addr × Obj)} {s3 : Shared} {σ : L2.St} {H3 : Hp} {Q : VK} {elt tg iter : Expr} {scope : Scope} {own : List (Str × Nat)} {pos : Pos}
    {g : TG} {te : TE} {use : Option (Value → Sem Unit)} {Qf : Value → Shared → Prop} (hc : X.calm = true) (hN : X.N.Nodup) (I3 : Inv X pins σ H3 s3) (ok : BlkOk X.N X.env.scope scope own)
    (hg : ∀ s H C cl fp, PG (X.blk s H scope (compEnvC scope cl C X.env) fp) tg g)
    (he : ∀ s H C cl fp xe, Passes (L2.CX X.prog X.w) (blkX X s H scope (compEnvC scope cl C X.env) fp xe) E → PE (blkX X s H scope (compEnvC scope cl C X.env) fp xe) elt te)
    {it D : Addr} {fp : List Addr} {tn : Nat → Heap → Prop} {J : L2.It} (T : Turn X.prog X.w X.K tg J fp it tn) (f3 : ∀ b ∈ fp, FpOk X pins H3 b ∧ b < s3.heap.objs.size) (st3 : tn 0 s3.heap) {W0 : Nat → Nat → Hp → Prop} {m0 : Nat} (w0 : W0 0 m0 H3)
    (turn : ∀ i m H, W0 i m H → (J.stop i H ∧ Q (.ref D) H) ∨ (J.go i H ∧ ∃ Nx : Hp → Prop, (∀ H', Nx H' → ∃ m', m' < m ∧ W0 (i + 1) m' H') ∧ ∀ x H', J.yld i H x H' → g x (wipe σ (own.map (·.2))) H' fun σ2 H2 => wipe σ2 (own.map (·.2)) = wipe σ (own.map (·.2)) ∧ tYes σ2 H2 fun b H3 =>
      if b = true then te σ2 H3 fun y H4 => ∃ acc, H4 D = some (.lst acc) ∧ acc.length < sizeLine ∧ Nx (upd H4 D (.lst (acc ++ [y]))) else Nx H3))
    (hq : ∀ D C s' m H', Inv X pins σ H' s' → Q (.ref D) H' → s'.heap.Ns C m → FpOk X pins H' C → compPost (model X.prog X.w) X.A X.xe use Qf (.ref D) C (.ok .next) s') :
    codeAny (model X.prog X.w) X.A (.compStart (.ListComp elt [⟨tg, iter, [], 0⟩] scope pos) 0 (.ref it) (.ref D) (compEnvC scope (cellsFrom (s3.heap.objs.size + 1) scope.names (cloFrom X.env.cells scope.names [])) s3.heap.objs.size X.env))
      (cPost (model X.prog X.w) X.A X.xe use Qf (.ref D) (compEnvC scope (cellsFrom (s3.heap.objs.size + 1) scope.names (cloFrom X.env.cells scope.names [])) s3.heap.objs.size X.env))
      { heap := pushCells (s3.heap.push { cls := .type "dict", data := .dict #[] }) scope.names, gens := s3.gens, drawn := s3.drawn, toks := s3.toks, os := s3.os } := by
  have I4 := block_start I3 ok hN f3
  have st4 := T.keep 0 s3.heap (pushCells (s3.heap.push { cls := .type "dict", data := .dict #[] }) scope.names) st3 fun b _ o e => pushCells_keeps _ _ b o (Heap.get?_push_of_some _ e)
  generalize cellsFrom (s3.heap.objs.size + 1) scope.names (cloFrom X.env.cells scope.names []) = cl at I4 ⊢
  have fpb : ∀ {H' : Hp}, (∀ b ∈ fp, H' b = none) → ∀ b ∈ fp, FpOk (X.blk s3 H3 scope (compEnvC scope cl s3.heap.objs.size X.env) fp) [] H' b := fun nf b hb => by
    have z := I4.ok.exf b hb
    exact ⟨nf b hb, z.1, I4.ok.exfs b hb, .inl hb, z.2, fun p hp => nomatch hp⟩
  refine (fun L => codeAny_compStart_list L (T.self X.A 0 _ _ _ st4 L)) ?_
  refine compLoop_any (fun n sN => ∃ i H, W0 i n H ∧ Inv (X.blk s3 H3 scope (compEnvC scope cl s3.heap.objs.size X.env) fp) [] (wipe σ (own.map (·.2))) H sN ∧ tn i sN.heap ∧ ∀ b ∈ fp, H b = none) ?_ m0 ⟨0, H3, w0, I4, st4, fun b hb => (f3 b hb).1.1⟩
  rintro n sN ⟨i, Hn, wn, In, tni, nfp⟩
  rcases turn i n Hn wn with ⟨hstop, hQ⟩ | ⟨hgo, Nx, hNx, hturn⟩
  · refine thn (T.done (X.blk s3 H3 scope (compEnvC scope cl s3.heap.objs.size X.env) fp) rfl rfl rfl hc i [] sN _ Hn _ In (fpb nfp) tni hstop) fun r s1 z => ?_
    obtain ⟨rfl, I1⟩ := z
    obtain ⟨m, hm, _⟩ := I1.loc
    have IX : Inv X pins σ Hn s1 := I3.call' I1.os I1.base I1.hok I1.bare fun b hb => by
      obtain ⟨_, q2, _, q4, q5, q6⟩ := (f3 b hb).1
      exact ⟨q4, q2, q5, q6⟩
    exact hq D _ s1 m Hn IX hQ hm (I3.fpOk (Nat.le_refl _) I1.free)
  · refine thn (T.item (X.blk s3 H3 scope (compEnvC scope cl s3.heap.objs.size X.env) fp) rfl rfl rfl hc i [] sN _ Hn _ In (fpb nfp) tni hgo) fun r s1 z => ?_
    obtain ⟨u, rfl, z⟩ := z
    refine thn z fun _ s2 z => ?_
    obtain ⟨x, H', I2, rx, hy, tn2, nf2⟩ := z
    have Ip := I2.pinned (fpb nf2) fun b hb => T.obj (i + 1) s2.heap tn2 b hb
    refine thnF ((hg s3 H3 s3.heap.objs.size cl fp).run _ s2 _ H' x u _ Ip rx (hturn x H' hy)) fun _ s4 z => ?_
    obtain ⟨σ4, H4, I5, hw, hy2⟩ := z
    refine wpAny_pure ?_
    refine thn ((he s3 H3 s3.heap.objs.size cl fp _ fun pinsB σB HB sB e s' IB c => lc_raise tk hs hf I3 f3 (Nat.le_refl _) (fun cls d H h => hW cls d σ H h) (inv_of IB) c).run _ s4 σ4 H4 _ (inv_to I5) hy2) fun v s5 z => ?_
    obtain ⟨y, H5, I6, ry, acc, eD, hacc, hn⟩ := z
    refine app_ok (X := X.blk s3 H3 scope (compEnvC scope cl s3.heap.objs.size X.env) fp) (inv_of I6) eD hacc ry fun s6 I7 => ?_
    obtain ⟨m', lt, hw'⟩ := hNx _ hn
    have hp : ∀ b ∈ fp, ∀ o, s2.heap.get? b = some o → s6.heap.get? b = some o ∧ (upd H5 D (.lst (acc ++ [y]))) b = none := fun b hb o e => by
      have z := I7.pin (b, o) (List.mem_append_right _ (List.mem_append_right _ (mem_pinsAt hb e)))
      exact ⟨z.1, z.2.1⟩
    refine ⟨m', lt, i + 1, _, hw', (I7.unpinned (pins := []) (pl := pinsAt fp s2.heap)).weak (by rw [wipe_length, I7.len, ← I3.len]) fun j v e => ?_, T.keep (i + 1) s2.heap s6.heap tn2 fun b hb o e => (hp b hb o e).1, fun b hb => ?_⟩
    · rw [← hw] at e
      exact (wipe_some e).1
    · obtain ⟨o, e, _⟩ := T.obj (i + 1) s2.heap tn2 b hb
      exact (hp b hb o e).2
theorem lcX_core {X : Cx} {W : WX} {E : XK} (tk : Takes X W) (hW : ∀ cls d σ H, E cls d H → W cls d σ H) (hs : X.stack = X.env :: X.outer) (hf : X.env.frame = some X.env.locals) {pins : List (Addr × Obj)} {s : Shared} {σ : L2.St} {H : Hp} {Q : VK} {elt tg iter : Expr} {scope : Scope} {own : List (Str × Nat)} {pos pos' : Pos}
    {wi : TI} {g : TG} {te : TE} {use : Option (Value → Sem Unit)} {Qf : Value → Shared → Prop} (hc : X.calm = true) (hN : X.N.Nodup) (I : Inv X pins σ H s) (hi : PI X tg iter wi) (ok : BlkOk X.N X.env.scope scope own)
    (hg : ∀ s H C cl fp, PG (X.blk s H scope (compEnvC scope cl C X.env) fp) tg g)
    (he : ∀ s H C cl fp xe, Passes (L2.CX X.prog X.w) (blkX X s H scope (compEnvC scope cl C X.env) fp xe) E → PE (blkX X s H scope (compEnvC scope cl C X.env) fp xe) elt te)
    (hfold : ∀ x, foldedSetIterable iter X.env x = pure x) (h : tLc wi g tYes te (own.map (·.2)) σ H Q)
    (hq : ∀ D C s' m H', Inv X pins σ H' s' → Q (.ref D) H' → s'.heap.Ns C m → FpOk X pins H' C → compPost (model X.prog X.w) X.A X.xe use Qf (.ref D) C (.ok .next) s') :
    wpAny (model X.prog X.w) X.A (comprehension (.ListComp elt [⟨tg, iter, [], 0⟩] scope pos) scope X.env pos' (newList []) false (eval iter X.env) use) Qf X.xe s := by
  refine comp_exc (g := ⟨tg, iter, [], 0⟩) (gs := []) rfl hfold (closure_ok fun y hy e => I.ok.has y.1 (ok.free y hy e)) ok.kind (fun x hx e => by
    have z := ok.uniq x hx
    rw [e] at z
    exact z) ?_
  refine thn (hi.run pins s σ H _ I h) fun xv s1 hx => thn hx fun itv s2 h2 => ?_
  obtain ⟨it, fp, tn, J, H2, rfl, I2, T, st2, f2, q⟩ := h2
  unfold newList
  refine wpAny_newObj_type (newEnv_comp ?_)
  have hDn := HOk.fresh I2.hok (Nat.le_refl s2.heap.objs.size)
  obtain ⟨W0, ⟨m0, w0⟩, turn⟩ := q s2.heap.objs.size hDn
  have I3 : Inv X pins σ (upd H2 s2.heap.objs.size (.lst [])) { heap := s2.heap.push { cls := .type "list", dict := none, data := .seq (List.toArray []) }, gens := s2.gens, drawn := s2.drawn, toks := s2.toks, os := s2.os } :=
    I2.laid (fun b o e => Heap.get?_push_of_some _ e) (Nat.le_refl _) ⟨Nat.zero_le _, [], 0, .nil, Heap.get?_push_size _ rfl⟩
  have f3 : ∀ b ∈ fp, FpOk X pins (upd H2 s2.heap.objs.size (.lst [])) b ∧ b < (s2.heap.push { cls := .type "list", dict := none, data := .seq (List.toArray []) }).objs.size := fun b hb => by
    obtain ⟨o, e, _⟩ := T.obj 0 s2.heap st2 b hb
    have lt := Heap.lt_size e
    obtain ⟨z1, z2⟩ := f2 b hb
    refine ⟨⟨?_, z2⟩, ?_⟩
    · rw [upd_ne (Nat.ne_of_lt lt)]
      exact z1
    · rw [Heap.size_push]
      exact Nat.lt_succ_of_lt lt
  have st3 := T.keep 0 s2.heap (s2.heap.push { cls := .type "list", dict := none, data := .seq (List.toArray []) }) st2 fun b _ o e => Heap.get?_push_of_some _ e
  have L := lcX_loop (use := use) (Qf := Qf) (elt := elt) (iter := iter) (pos := pos) tk hW hs hf hc hN I3 ok hg he T f3 st3 w0 turn hq
  exact L
/-- y = [e for x in xs], where e may raise -/
theorem ps_setLcX {X : Cx} {W : WX} {E : XK} {i : Nat} {y : Str} {py : Pos} {elt tg iter : Expr} {scope : Scope} {own : List (Str × Nat)} {pos spos : Pos} {wi : TI} {g : TG} {te : TE} (tk : Takes X W) (hW : ∀ cls d σ H, E cls d H → W cls d σ H) (hs : X.stack = X.env :: X.outer) (hf : X.env.frame = some X.env.locals)
    (hc : X.calm = true) (hN : X.N.Nodup) (hy : X.N[i]? = some y) (hyl : List.lookup y X.env.scope.names = some .local) (hsw : swapsWith (.ListComp elt [⟨tg, iter, [], 0⟩] scope pos) (some (.Name y py)) spos.line X.env = pure true) (hi : PI X tg iter wi) (ok : BlkOk X.N X.env.scope scope own)
    (hg : ∀ s H C cl fp, PG (X.blk s H scope (compEnvC scope cl C X.env) fp) tg g)
    (he : ∀ s H C cl fp xe, Passes (L2.CX X.prog X.w) (blkX X s H scope (compEnvC scope cl C X.env) fp xe) E → PE (blkX X s H scope (compEnvC scope cl C X.env) fp xe) elt te)
    (hfold : ∀ x, foldedSetIterable iter X.env x = pure x := by intro _; rfl) :
    PS X (.Assign [.Name y py] (.ListComp elt [⟨tg, iter, [], 0⟩] scope pos) spos) (tAsg (tLc wi g tYes te (own.map (·.2))) (gName i)) := by
  refine ⟨fun pins s σ H D I h => ?_⟩
  rw [exec_Assign_Name_used y py _ spos hsw]
  refine wpAny_bind (wpAny_standAt (wpAny_bind ?_))
  refine wpAny_bind (thn (lcX_core tk hW hs hf hc hN I hi ok hg he hfold h fun L C s' m H' I' q hn f => ?_) fun x s' hq => wpAny_pure (wpAny_pure hq))
  refine wpAny_assign_Name (store_ok2 (v := .ref L) I' hN hy (Or.inl hyl) (show RelV (.ref L) (Value.ref L) from rfl) (fun s2 I2 x => ?_) (Or.inr hyl))
  obtain ⟨a, sb, ha⟩ := x
  obtain ⟨f0, f1, f2, f3, f4, f5⟩ := f
  have haC : C ≠ a := by
    rcases ha with rfl | z
    · exact f1
    · exact fun e => f4 y a z e.symm
  exact ⟨m, hn.sameBut sb haC, fun h3 sb3 => ⟨σ.set i (some (.ref L)), H', I2.turned (fun b o hb e => (sb3.2 b hb).trans e) f0 f1 f3 f4 f5, q⟩⟩
end Ov
/-! ### a method's call within a try -/
namespace Ov
open PySem PySem.Spec PyProof.Rows L2
theorem ps_fldK {X : Cx} {K : PySem.W.Frag} {o value : Expr} {f : Str} {pos pos' : Pos} {ta tv : TE} (hK : X.K = K) (ho : PE X o ta) (hv : PE X value tv) (hs : swapsWith value (some (o.Attribute f pos')) pos.line X.env = pure false) : PS X (.Assign [o.Attribute f pos'] value pos) (sFld K ta tv f) := by
  subst hK
  exact ps_fld ho hv hs
theorem pe_methAt {X : Cx} {CX : CXT} {k : Nat} {f C : Addr} {fd : FuncData} {ps : List Str} {sp : Sp} {E : L2.St → XK} {m : Str} {pos apos : Pos} {e o : Expr} {es : List Expr} {ta : TE} {t : TA} {pl : Sem Bool} (he : PE X o ta) (c : Cls X.K C) (hm : Meth X.K C m f) (F : FnOk X.prog X.w X.K X.mg X.base CX k f fd ps sp) (hr : Room k X.A)
    (hb : Binds X.K fd ps []) (hx : ∀ σ, PassesAt CX X σ (E σ)) (ha : L2.PA X (e :: es) t) (hst : starEach (e :: es) X.env = (false, eval e X.env) :: starEach es X.env := by rfl) (hpl : ((backTo pos (starEach es X.env)).any fun x => x.1) = false := by rfl)
    (ht : eval ((o.Attribute m apos).Call (e :: es) [] pos) X.env = (do
      let ov ← eval o X.env
      standAt apos.atName
      let (f, first) ← holding [ov] (getMethod ov m pl)
      callWith pos f first (backTo pos (starEach (e :: es) X.env)) (backToKw pos (keywordEach [] X.env))) := by rfl) :
    PE X ((o.Attribute m apos).Call (e :: es) [] pos) (fun σ H Q => tMeth C m sp [] (E σ) ta t σ H Q) := by
  refine ⟨fun pins s σ H Q I h => W.methodCall_KW (thn (he.run pins s σ H _ I h) fun u s1 x => ?_) ht⟩
  obtain ⟨x1, H1, I1, rx, a, dx, fs, rfl, ea, l, q⟩ := x
  obtain rfl : u = Value.ref a := rx
  refine getmeth_ok I1 ea c hm l (W.callWith_K I.ok.mod.kin hm.kp (thn (ha.run pos pins s1 σ H1 _ I1 q) fun us s2 x => ?_) hst hpl)
  obtain ⟨vs, H2, I2, r, q2⟩ := x
  exact ⟨Inv.kIn I2, run_fnS F hr hb (hx σ) I2 (.cons (show RelV (.ref a) (Value.ref a) from rfl) r) (by simpa using q2)⟩
end Ov
/-! ### the program's runs -/
namespace Ov
open PySem PySem.Spec PyProof.Rows L2
/-- u is the i-th word, and what is within it -/
def SubAt (rows : List (Op × Int × List Nat)) (i : Nat) (u : W) : Prop := ∃ pre post, rows = pre ++ u.rows i ++ post ∧ pre.length = i
theorem SubAt.all (w : W) : SubAt (w.rows 0) 0 w := ⟨[], [], by simp, rfl⟩
theorem SubAt.row {rows : List (Op × Int × List Nat)} {i : Nat} {o : Op} {g : Int} {as : List W} (h : SubAt rows i (.mk o g as)) : rows[i]? = some (o, g, starts (i + 1) as) := by
  obtain ⟨pre, post, rfl, rfl⟩ := h
  rw [List.append_assoc, List.getElem?_append_right (Nat.le_refl _), Nat.sub_self, W.rows_mk]
  rfl
theorem rowss_get : ∀ (ws : List W) (b j : Nat) (a : W), ws[j]? = some a → (starts b ws)[j]? = some (b + W.sizes (ws.take j)) ∧ ∃ pre post, W.rowss b ws = pre ++ a.rows (b + W.sizes (ws.take j)) ++ post ∧ pre.length = W.sizes (ws.take j)
  | [], _, _, _, h => by simp at h
  | x :: r, b, 0, a, h => by
    obtain rfl : x = a := Option.some.inj h
    refine ⟨by rw [List.take_zero, W.sizes]; rfl, [], W.rowss (b + x.size) r, ?_, by rw [List.take_zero, W.sizes]; rfl⟩
    rw [List.take_zero, W.sizes, W.rowss]
    rfl
  | x :: r, b, j + 1, a, h => by
    obtain ⟨h1, pre, post, h2, h3⟩ := rowss_get r (b + x.size) j a h
    rw [List.take_succ_cons, W.sizes, ← Nat.add_assoc]
    refine ⟨h1, x.rows b ++ pre, post, ?_, by rw [List.length_append, W.rows_len, h3]⟩
    rw [W.rowss, h2]
    simp
theorem SubAt.arm {rows : List (Op × Int × List Nat)} {i : Nat} {o : Op} {g : Int} {as : List W} (h : SubAt rows i (.mk o g as)) {j : Nat} {a : W} (ha : as[j]? = some a) : ∃ k, (starts (i + 1) as)[j]? = some k ∧ SubAt rows k a := by
  obtain ⟨pre, post, rfl, rfl⟩ := h
  obtain ⟨h1, p2, q2, h2, h3⟩ := rowss_get as (pre.length + 1) j a ha
  refine ⟨_, h1, pre ++ [(o, g, starts (pre.length + 1) as)] ++ p2, q2 ++ post, ?_, by simp [h3]; omega⟩
  rw [W.rows_mk, h2]
  simp
/-- an answer of the program: what it comes to, or a fault -/
def AnsP (K : PySem.W.Frag) (x : PA) (pr : List (Int × W)) (told : V) (oth : Int) (H : Hp) (Q : VK) (E : XK) (r : Res) : Prop := match r with
  | .ok b s => ∀ H' y, ButP x H H' → RunAt K H' x pr told s oth → PV H' y b → Q y H'
  | .bad f s => ∀ H' d oth', ButP x H H' → RunAt K H' x pr told s oth' → H' d = some (.xd [("word", .str f.name)]) → E (.ref (He.ga K "Fault")) (some d) H'
theorem ButP.refl {x : PA} {H : Hp} : ButP x H H := fun _ _ _ _ _ e => e
theorem ButP.trans {x : PA} {H H1 H2 : Hp} (p : ButP x H H1) (q : ButP x H1 H2) : ButP x H H2 := fun b o n1 n2 n3 e => q b o n1 n2 n3 (p b o n1 n2 n3 e)
theorem ButP.same {x : PA} {H H' : Hp} (s : Same H H') : ButP x H H' := fun b o _ _ _ e => s b o e
theorem RunAt.keep {K : PySem.W.Frag} {H H' : Hp} {x : PA} {pr : List (Int × W)} {told : V} {s : RS} {oth : Int} (h : RunAt K H x pr told s oth) (b : ButP x H H') : Keep H H' := fun a xs e => b a _ (ne_of e h.ob (by intro z; cases z)) (ne_of e h.sa (by intro z; cases z)) (ne_of e h.ro (by intro z; cases z)) e
theorem AnsP.but {K : PySem.W.Frag} {x : PA} {pr : List (Int × W)} {told : V} {oth : Int} {H H1 : Hp} {Q : VK} {E : XK} (b : ButP x H H1) : ∀ {r : Res}, AnsP K x pr told oth H Q E r → AnsP K x pr told oth H1 Q E r
  | .ok _ _, h => fun H' y b' => h H' y (b.trans b')
  | .bad _ _, h => fun H' d oth' b' => h H' d oth' (b.trans b')
theorem RunAt.same {K : PySem.W.Frag} {H H' : Hp} {x : PA} {pr : List (Int × W)} {told : V} {s : RS} {oth : Int} (h : RunAt K H x pr told s oth) (e : Same H H') : RunAt K H' x pr told s oth := by
  obtain ⟨h1, ⟨bs, h2, h3, h4⟩, h5, h6, n⟩ := h
  exact ⟨e _ _ h1, ⟨bs, e _ _ h2, L2.Paired.mapP h3 fun _ _ z => z.same e, h4⟩, e _ _ h5, e _ _ h6, n⟩
/-- a fault that is told here -/
theorem AnsP.out {K : PySem.W.Frag} {x : PA} {pr : List (Int × W)} {told : V} {oth oth' : Int} {H H1 : Hp} {Q : VK} {E : XK} {f : Flt} {s : RS} (h : AnsP K x pr told oth H Q E (.bad f s)) (b : ButP x H H1) (r : RunAt K H1 x pr told s oth') : Out K H1 E f.name := fun H' d s' _ e => h H' d oth' (b.trans (ButP.same s')) (r.same s') e
/-- the object's two numbers are written -/
theorem runFs_calls {x : PA} {told : V} {c d : Int} {oth : Int} : putF "calls" (.int d) (runFs x told c oth) = runFs x told d oth := by rfl
theorem runFs_others {x : PA} {told : V} {c : Int} {o1 o2 : Int} : putF "others" (.int o2) (runFs x told c o1) = runFs x told c o2 := by rfl
theorem runFs_told {x : PA} {t1 t2 : V} {c : Int} {o : Int} : putF "told" t2 (runFs x t1 c o) = runFs x t2 c o := by rfl
theorem RunAt.wr {K : PySem.W.Frag} {H : Hp} {x : PA} {pr : List (Int × W)} {told told' : V} {s : RS} {oth oth' : Int} {c : Nat} (h : RunAt K H x pr told s oth) : RunAt K (upd H x.a (.ins (He.ga K "Run") x.dx (runFs x told' (c : Int) oth'))) x pr told' { s with calls := c } oth' ∧ ButP x H (upd H x.a (.ins (He.ga K "Run") x.dx (runFs x told' (c : Int) oth'))) := by
  obtain ⟨h1, ⟨bs, h2, h3, h4⟩, h5, h6, n⟩ := h
  have ne : ∀ {b : Addr} {l : List V}, H b = some (.lst l) → b ≠ x.a := fun e => ne_of e h1 (by intro z; cases z)
  have kt : Keep H (upd H x.a (.ins (He.ga K "Run") x.dx (runFs x told' (c : Int) oth'))) := fun b xs e => by
    rw [upd_ne (ne_of e h1 (by intro z; cases z))]
    exact e
  refine ⟨⟨upd_same, ⟨bs, by rw [upd_ne (ne h2)]; exact h2, L2.Paired.mapP h3 fun b f z => ?_, h4⟩, by rw [upd_ne (ne h5)]; exact h5, by rw [upd_ne (ne h6)]; exact h6, n⟩, fun b o n1 _ _ e => by rw [upd_ne n1]; exact e⟩
  obtain ⟨ys, z1, z2⟩ := z
  exact ⟨ys, by rw [upd_ne (ne z1)]; exact z1, L2.Paired.mapP z2 fun _ _ y => y.keep kt⟩
def spEnter (K : PySem.W.Frag) : Sp := fun vs H Q _ => ∃ (x : PA) (pr : List (Int × W)) (told v : V) (s : RS) (oth : Int) (f : Nat), vs = [.ref x.a, v, .int (f : Int)] ∧ RunAt K H x pr told s oth ∧ s.row.length ≤ most ∧ ∀ H', ButP x H H' → RunAt K H' x pr told { s with row := s.row ++ [f] } oth → Q .non H'
def spBack (K : PySem.W.Frag) : Sp := fun vs H Q _ => ∃ (x : PA) (pr : List (Int × W)) (told : V) (s : RS) (oth : Int) (p : Addr) (f w : Nat), vs = [.ref x.a, .ref p] ∧ H p = some (.tup [.int (f : Int), .int (w : Int)]) ∧ RunAt K H x pr told s oth ∧ s.row.length ≤ most ∧ ∀ H', ButP x H H' → RunAt K H' x pr told { s with row := s.row ++ [f] } oth → Q .non H'
def spCallP (K : PySem.W.Frag) (pr : List (Int × W)) (n : Nat) : Sp := fun vs H Q E => ∃ (x : PA) (told v : V) (s : RS) (oth : Int) (p : Addr) (c wi f : Nat) (a : Wt), vs = [.ref x.a, .ref p, .int (f : Int), v] ∧ H p = some (.tup [.int (c : Int), .int (wi : Int)]) ∧ RunAt K H x pr told s oth ∧ PrOk pr ∧ c < pr.length ∧ f < pr.length ∧ PV H v a ∧ WtOk pr.length a ∧ s.phi ≤ most ∧ oth + (n : Int) = 12 ∧ AnsP K x pr told oth H Q E (evC pr n c f a s)
def spWorth (K : PySem.W.Frag) (pr : List (Int × W)) (n d : Nat) : Sp := fun vs H Q E => ∃ (x : PA) (told v : V) (s : RS) (oth : Int) (f wi : Nat) (p : Int × W) (u : W) (a : Wt), vs = [.ref x.a, .int (f : Int), .int (wi : Int), v] ∧ RunAt K H x pr told s oth ∧ PrOk pr ∧ pr[f]? = some p ∧ SubAt (p.2.rows 0) wi u ∧ WOk pr.length d u ∧ PV H v a ∧ WtOk pr.length a ∧ s.phi + u.size ≤ most ∧ oth + (n : Int) = 12 ∧ AnsP K x pr told oth H Q E (evB (evC pr n f) a d u s)
end Ov
namespace Ov
open PySem PySem.Spec PyProof.Rows L2
theorem RunAt.fresh {K : PySem.W.Frag} {H0 H : Hp} {x : PA} {pr : List (Int × W)} {told told0 : V} {s s0 : RS} {oth oth0 : Int} {D : Addr} {us us' : List V} (h0 : RunAt K H0 x pr told0 s0 oth0) (hD : H0 D = none) (b : ButP x H0 H) (h : RunAt K H x pr told s oth) (e : H D = some (.lst us)) : RunAt K (upd H D (.lst us')) x pr told s oth := by
  have kt := Keep.updL (ys := us') e
  obtain ⟨bs0, g2, g3, g4⟩ := h0.bo
  obtain ⟨h1, ⟨bs, h2, h3, h4⟩, h5, h6, n1, n2, n3⟩ := h
  have ne : ∀ {b : Addr} {o : HO}, H0 b = some o → b ≠ D := fun e => ne_of_none e hD
  have nbo : x.bo ≠ x.a := ne_of g2 h0.ob (by intro z; cases z)
  have e2 := b _ _ nbo n1 n2 g2
  have eq : bs = bs0 := by
    have z := h2.symm.trans e2
    have z2 : bs.map V.ref = bs0.map V.ref := by
      injection z with z
      injection z
    exact List.map_inj_right (fun _ _ q => by injection q) |>.mp z2
  subst eq
  refine ⟨by rw [upd_ne (ne h0.ob)]; exact h1, ⟨bs, by rw [upd_ne (ne g2)]; exact h2, PairedMem.map h3 fun b f hb z => ?_, h4⟩, by rw [upd_ne (ne h0.sa)]; exact h5, by rw [upd_ne (ne h0.ro)]; exact h6, n1, n2, n3⟩
  obtain ⟨f0, ys0, z0, _⟩ := PairedMem.left g3 b hb
  obtain ⟨ys, z1, z2⟩ := z
  exact ⟨ys, by rw [upd_ne (ne z0)]; exact z1, L2.Paired.mapP z2 fun _ _ y => y.keep kt⟩
theorem ButP.updn {x : PA} {H H' : Hp} {D : Addr} {o : HO} (b : ButP x H H') (hD : H D = none) : ButP x H (upd H' D o) := fun c u n1 n2 n3 e => by
  rw [upd_ne (ne_of_none e hD)]
  exact b c u n1 n2 n3 e
theorem drop_get {α : Type} {l : List α} {i : Nat} {a : α} (h : l[i]? = some a) : l.drop i = a :: l.drop (i + 1) := by
  obtain ⟨lt, e⟩ := List.getElem?_eq_some_iff.mp h
  rw [List.drop_eq_getElem_cons lt, e]
theorem paired_two {α β : Type} {R : α → β → Prop} {us : List α} {vs : List β} (h : Paired R us vs) (l : vs.length = 2) : ∃ x y u v, us = [x, y] ∧ vs = [u, v] ∧ R x u ∧ R y v := by
  obtain ⟨x, y, a, b, h1, h2, h3, h4⟩ := two_of h l
  exact ⟨x, y, a, b, h1, h2, h3, h4⟩
end Ov
namespace Ov
open PySem PySem.Spec PyProof.Rows L2
def spBegin (K : PySem.W.Frag) : Sp := fun vs H Q _ => ∃ (x : PA) (pr : List (Int × W)) (z : Int), vs = [.ref x.a, .int z] ∧ RunAt K H x pr .non ⟨[], 0, [], [], []⟩ 0 ∧ PrOk pr ∧ 0 ≤ z ∧ z < 1000 ∧
  ∀ H' t oth, ButP x H H' → RunAt K H' x pr (.ref t) (evR pr z).st oth → H' t = some (.tup [.str (endD (evR pr z)).1, (endD (evR pr z)).2]) → Q .non H'
end Ov
namespace Ov
open PySem PySem.Spec PyProof.Rows L2
def spCheckNumber : Sp := fun vs H Q _ => ∃ z : Int, vs = [.int z] ∧ 0 ≤ z ∧ z < 1000 ∧ Q .non H
def spPlainRun (K : PySem.W.Frag) : Sp := fun vs H Q _ => ∃ (v : V) (pr : List (Int × W)) (z : Int), vs = [v, .int z] ∧ PrAt H v pr ∧ PrOk pr ∧ 0 ≤ z ∧ z < 1000 ∧
  ∀ H' x t oth, Same H H' → H x.sa = none → H x.ro = none → RunAt K H' x pr (.ref t) (evR pr z).st oth → H' t = some (.tup [.str (endD (evR pr z)).1, (endD (evR pr z)).2]) → Q (.ref x.a) H'
def spRunTold : Sp := fun vs H Q _ => ∃ (v : V) (pr : List (Int × W)) (z : Int), vs = [v, .int z] ∧ PrAt H v pr ∧ PrOk pr ∧ 0 ≤ z ∧ z < 1000 ∧
  ∀ H' r t sa, Same H H' → H sa = none → H' r = some (.tup [.ref t, .ref sa]) → H' t = some (.tup [.str (endD (evR pr z)).1, (endD (evR pr z)).2]) → H' sa = some (.lst ((evR pr z).st.said.map V.int)) → Q (.ref r) H'
def spTraced : Sp := fun vs H Q _ => ∃ (v : V) (pr : List (Int × W)) (z : Int), vs = [v, .int z] ∧ PrAt H v pr ∧ PrOk pr ∧ 0 ≤ z ∧ z < 1000 ∧
  ∀ H' ro, Same H H' → H ro = none → H' ro = some (.lst (nV (evR pr z).st.row)) → Q (.ref ro) H'
/-! ### refused -/
def NoNum (z : Int) : Prop := (z < 0 ∨ 1000 ≤ z) ∧ z.natAbs < 10 ^ 9
def OutN (K : PySem.W.Frag) (H : Hp) (E : XK) : Prop := ∀ H', Same H H' → E (.ref (He.ga K "BadNumber")) none H'
theorem OutN.same {K : PySem.W.Frag} {H H1 : Hp} {E : XK} (h : OutN K H E) (s : Same H H1) : OutN K H1 E := fun H' s' => h H' (s.trans s')
def spCheckNumberX (K : PySem.W.Frag) : Sp := fun vs H _ E => ∃ z : Int, vs = [.int z] ∧ NoNum z ∧ OutN K H E
def spRunX (K : PySem.W.Frag) : Sp := fun vs H _ E => ∃ (v : V) (pr : List (Int × W)) (z : Int), vs = [v, .int z] ∧ PrAt H v pr ∧ PrOk pr ∧ NoNum z ∧ OutN K H E
theorem NoNum.log {z : Int} (h : NoNum z) : z.natAbs.log2 < 1920 := by
  have h2 := h.2
  by_cases h0 : z.natAbs = 0
  · rw [h0]
    decide
  exact (Nat.log2_lt h0).mpr (Nat.lt_trans h2 (by decide))
theorem NoNum.len {z : Int} (h : NoNum z) : (PySem.Str.ofString (toString z)).length ≤ 10 := by
  have e := PySem.int_text_length_le10 (k := 9) (by decide) h.2
  rw [PySem.ofString_length]
  omega
end Ov
/-! ### a lambda with one parameter that has a default, handed to a def -/
namespace Ov
open PySem PySem.Spec PyProof.Rows L2 LamX
/-- the scope of such a lambda: its parameter a, what it reads of the def around -/
structure LamSD (sc scope : Scope) (a : Str) : Prop where
  kind : scope.kind = .function
  co : scope.isCoroutine = false
  gen : scope.isGenerator = false
  own : ∀ y ∈ scope.names, y.2 ≠ .cell ∧ (y.2 = .local → y.1 = a)
  par : List.lookup a scope.names = some .local
  free : ∀ y ∈ scope.names, y.2 = .free → List.lookup y.1 sc.names = some .cell ∨ List.lookup y.1 sc.names = some .free
theorem lam_startD {X : Cx} {pins : List (Addr × Obj)} {σ : L2.St} {H HZ : Hp} {s s1 : Shared} {A : Around} {outer : List Env} {E : XK} {scope : Scope} {f c' : Addr} {h₁ : Heap} {tk : Nat} {a : Str} {u : Value} (I : Inv X pins σ H s) (L : LamSD X.env.scope scope a) (hna : ∀ (i : Nat) (x : Str), X.N[i]? = some x → x ≠ a)
    (e0 : Env0 X.prog X.w X.K X.mg X.base A outer s1 HZ) (hd : A.handled = none) (un : Un (frs X.stack) [] H HZ s.heap s1.heap) (hns : h₁.Ns s1.heap.objs.size fun y => List.lookup y [(a, u)].reverse) (kp : ∀ b o, s1.heap.get? b = some o → h₁.get? b = some o) :
    Inv (lamCx X A outer s1 HZ E scope f c') [] σ HZ { heap := h₁, gens := s1.gens, drawn := s1.drawn, toks := tk, os := s1.os } := by
  have hfr : ∀ {y : Str}, (y, NameKind.free) ∈ scope.names → ∃ c, List.lookup y X.env.cells = some c := fun {y} h => I.ok.has y (L.free (y, .free) h rfl)
  have cm : ∀ {y : Str} {c : Addr}, List.lookup y (cloFrom X.env.cells scope.names []) = some c → List.lookup y X.env.cells = some c := fun {y c} e => by
    rcases cloFrom_mem (mem_of_lookup e) with hm | ⟨h1, h2⟩
    · exact nomatch hm
    · obtain ⟨c1, hc⟩ := hfr h1
      rw [hc] at h2
      rw [hc, h2]
      rfl
  have look : ∀ {y : Str}, List.lookup y scope.names = some .free → ∃ c, List.lookup y (cloFrom X.env.cells scope.names []) = some c := fun hl => mem_lookup (cloFrom_has (mem_of_lookup hl))
  have cellK : ∀ {c : Addr} {v : Option Value}, H c = none → s.heap.IsCell c v → h₁.IsCell c v := fun {c v} n ⟨o, ho, hd⟩ => by
    obtain ⟨sl, q⟩ := un.any ho n (fun z => nomatch z)
    exact ⟨_, kp c _ q, hd⟩
  have noA : ∀ b : Addr, ¬ b ∈ ([] : List Addr) := fun b z => nomatch z
  refine ⟨⟨e0.mod, L.kind, rfl, rfl, Nat.le_refl _, fun y z c e1 e2 => I.ok.inj y z c (cm e1) (cm e2), fun y hy => ?_, (fun _ _ z => nomatch z), fun _ => hd, Around.frames_deeper e0.frames, .inr ⟨rfl, rfl⟩, fun b z => absurd z (noA b), e0.bs, e0.bsz, fun b _ _ => noA b, fun b z => absurd z (noA b), e0.funs, e0.frf⟩, rfl, e0.bare, Un.kept kp, ⟨_, hns, fun i y v e1 e2 e3 => ?_⟩, fun y c e => ?_, HOk.fresh e0.hok (Nat.le_refl _), fun y c e => ?_, fun p hp => ?_, HOk.kept e0.hok kp, I.len⟩
  · rcases hy with hy | hy
    · exact absurd rfl (L.own (y, .cell) (mem_of_lookup hy)).1
    · exact look hy
  · rcases e3 with k | k | k
    · exact absurd ((L.own (y, .local) (mem_of_lookup k)).2 rfl) (hna i y e1)
    · exact absurd rfl (L.own (y, .cell) (mem_of_lookup k)).1
    · obtain ⟨m, hn, hl⟩ := I.loc
      have hvis : Vis X.env.scope y := (L.free (y, .free) (mem_of_lookup k) rfl).elim (fun z => .inr (.inl z)) fun z => .inr (.inr z)
      obtain ⟨w', r, q⟩ := hl i y v e1 e2 hvis
      obtain ⟨c2, h2⟩ := look k
      refine ⟨w', r, .inr ⟨.inr k, c2, h2, ?_⟩⟩
      rcases q with ⟨k', _⟩ | ⟨_, c3, e', z⟩
      · have k' : List.lookup y X.env.scope.names = some .local := k'
        rcases L.free (y, .free) (mem_of_lookup k) rfl with k2 | k2 <;>
        · rw [k'] at k2
          cases k2
      · rw [cm h2] at e'
        cases e'
        exact cellK (I.freeC y _ (cm h2)) z
  · obtain ⟨v, hv⟩ := I.cell y c (cm e)
    exact ⟨v, cellK (I.freeC y c (cm e)) hv⟩
  · obtain ⟨v, o, ho, _⟩ := I.cell y c (cm e)
    exact un.free c o ho (I.freeC y c (cm e)) (noA c)
  · exact nomatch hp
/-- the lambda's object -/
@[reducible] def lamO (X : Cx) (params : Arguments) (body : Expr) (scope : Scope) (t : Addr) (doc pm : Value) (c' : Addr) (ctv : Value) : Obj := W.kdv_obj "<lambda>" (X.env.qual ++ "<lambda>") params (.expr body) scope (cloFrom X.env.cells scope.names []) (.ref t) doc pm c' ctv
theorem lam_tailD {X : Cx} {pins : List (Addr × Obj)} {σ : L2.St} {H : Hp} {s : Shared} {T : List (Addr × Str)} {c P t : Addr} {params : Arguments} {body : Expr} {scope : Scope} {pos : Pos} {E Q : Value → Shared → Prop} (I : Inv X pins σ H s) (TB : TabB X.base X.mg c P) (hcode : X.env.code = .ref c) (hm : (P, X.env.qual ++ Str.ofString "<lambda>") ∈ T)
    (hu : ∀ p ∈ T, p.1 = P → p.2 = X.env.qual ++ Str.ofString "<lambda>") (hT : Tabs T H) (hfree : ∀ y ∈ scope.names, y.2 = .free → ∃ c, List.lookup y.1 X.env.cells = some c)
    (h : ∀ f c' doc pm ctv H1 s', Inv X pins σ H1 s' → ExtN H H1 → Tabs T H1 → s'.heap.get? f = some (lamO X params body scope t doc pm c' ctv) → H1 f = none → ¬ f ∈ frs X.stack → H1 c' = some (CodeO c' (X.env.qual ++ Str.ofString "<lambda>")) → Q (.ref f) s') :
    wpAny (model X.prog X.w) X.A (makeTail "<lambda>" (X.env.qual ++ "<lambda>") params (.expr body) scope X.env (.ref t) .none none pos pos.line) Q E s := by
  obtain ⟨ps, hP, ht, ha⟩ := hT _ hm
  have bP := Heap.BuiltinsAt.keeps TB.bm I.bk
  have hP' : s.heap.get? P = some (W.tabObj ps) := I.hok P (.tbl ps) hP
  have nofr : ∀ f, s.heap.objs.size ≤ f → ¬ f ∈ frs X.stack := fun f hf z => by
    rcases List.mem_cons.mp (I.stkSub f z) with e | e
    · have h1 := I.lt
      rw [← e] at h1
      exact Nat.lt_irrefl f (Nat.lt_of_lt_of_le h1 hf)
    · exact I.nofs hf e
  cases hc : codeAmong pos ps.toList with
  | none =>
    refine W.kdv_makeTail (closure_ok hfree) I.ok.glob (I.mod.glob.keeps I.bk) hcode (TB.code.keeps I.bk) hP' ht hc TB.gP bP fun c' ctv doc h' tk hx hge hlt hrec htb => ?_
    obtain ⟨c2, oc, vs, t2, e2, hoc, hd, hv⟩ := hrec
    cases e2
    have hsz := Nat.le_trans hge (Nat.le_of_lt hlt)
    have nC := HOk.fresh I.hok hge
    have I1 := inv_table (more := #[rawInt ↑pos.line, rawInt ↑pos.col, Value.ref c']) (q := X.env.qual ++ Str.ofString "<lambda>") (t' := tk) (h' := h'.push (lamO X params body scope t doc ((X.mg (Str.ofString "__name__")).getD .none) c' ctv)) I hP (fun b o hb e => Heap.get?_push_of_some _ (hx b o hb e)) (Heap.get?_push_of_some _ htb) hge ⟨oc, vs, t2, Heap.get?_push_of_some _ hoc, hd, hv⟩
    have hE : ExtN H (upd (upd H P (.tbl (ps ++ #[rawInt ↑pos.line, rawInt ↑pos.col, Value.ref c']))) c' (CodeO c' (X.env.qual ++ Str.ofString "<lambda>"))) := fun b o e n => by
      rw [upd_ne (ne_of_none e nC), upd_ne (fun z => n ps (by
        rw [z] at e
        exact Option.some.inj (e.symm.trans hP)))]
      exact e
    have n2 : P ≠ c' := ne_of_none hP nC
    refine h h'.objs.size c' doc _ ctv _ _ I1 hE (fun p hp => ?_) (Heap.get?_push_size h' rfl) ?_ (nofr _ hsz) upd_same
    · by_cases hb : p.1 = P
      · rw [hu p hp hb, hb]
        refine ⟨ps ++ #[rawInt ↑pos.line, rawInt ↑pos.col, Value.ref c'], by rw [upd_ne n2]; exact upd_same, by rw [Array.toList_append]; exact TriplesOk_snoc _ _ _ _ ht, fun p' cv hcv => ?_⟩
        rw [Array.toList_append] at hcv
        rcases among_app ps.toList ht hcv with z | z
        · obtain ⟨c0, e1, e2⟩ := ha p' cv z
          exact ⟨c0, e1, hE c0 _ e2 codeO_ne⟩
        · exact ⟨c', z, upd_same⟩
      · obtain ⟨ps', a1, a2, a3⟩ := hT p hp
        refine ⟨ps', by rw [upd_ne (ne_of_none a1 nC), upd_ne hb]; exact a1, a2, fun p' cv hcv => ?_⟩
        obtain ⟨c0, e1, e2⟩ := a3 p' cv hcv
        exact ⟨c0, e1, hE c0 _ e2 codeO_ne⟩
    · rw [upd_ne (Nat.ne_of_gt hlt), upd_ne (Nat.ne_of_gt (Nat.lt_of_lt_of_le (Heap.lt_size hP') hsz))]
      exact HOk.fresh I.hok hsz
  | some cv =>
    obtain ⟨c', e, hco⟩ := ha pos cv hc
    subst e
    refine W.kdv_makeTailHit (closure_ok hfree) I.ok.glob (I.mod.glob.keeps I.bk) hcode (TB.code.keeps I.bk) hP' ht hc bP fun ctv doc h' tk hx hsz => ?_
    have I1 := I.kept (t' := tk) (h' := h'.push (lamO X params body scope t doc ((X.mg (Str.ofString "__name__")).getD .none) c' ctv)) fun b o e => Heap.get?_push_of_some _ (hx b o e)
    exact h h'.objs.size c' doc _ ctv H _ I1 (ExtN.refl H) hT (Heap.get?_push_size h' rfl) (HOk.fresh I.hok hsz) (nofr _ hsz) hco
theorem lam_makeD {X : Cx} {pins : List (Addr × Obj)} {σ : L2.St} {H : Hp} {s : Shared} {T : List (Addr × Str)} {c P : Addr} {params : Arguments} {body : Expr} {scope : Scope} {pos : Pos} {Q : Value → Shared → Prop} {j : Nat} {p1 : Pos} {n : Int} (I : Inv X pins σ H s) (TB : TabB X.base X.mg c P) (hcode : X.env.code = .ref c) (hm : (P, X.env.qual ++ Str.ofString "<lambda>") ∈ T)
    (hu : ∀ p ∈ T, p.1 = P → p.2 = X.env.qual ++ Str.ofString "<lambda>") (hT : Tabs T H) (hdf : params.defaults = [.Constant (.int n) j p1]) (hkd : params.kw_defaults = []) (hfree : ∀ y ∈ scope.names, y.2 = .free → ∃ c, List.lookup y.1 X.env.cells = some c)
    (h : ∀ f c' t doc pm ctv H1 s', Inv X pins σ H1 s' → ExtN H H1 → Tabs T H1 → H1 t = some (.tup [.int n]) → s'.heap.get? f = some (lamO X params body scope t doc pm c' ctv) → H1 f = none → ¬ f ∈ frs X.stack → H1 c' = some (CodeO c' (X.env.qual ++ Str.ofString "<lambda>")) → Q (.ref f) s') :
    wpAny (model X.prog X.w) X.A (eval (.Lambda params body scope pos) X.env) Q X.xe s := by
  refine W.kdv_lam (by rw [hdf]; rfl) hkd ?_
  rw [hdf]
  refine W.kdv_all1 (thn ((pe_int (X := X) (i := n) (j := j) (pos := p1)).run pins s σ H (fun v H1 => v = .int n ∧ H1 = H) I ⟨rfl, rfl⟩) fun u s1 z => ?_)
  obtain ⟨v, H1, I1, ru, rfl, rfl⟩ := z
  refine W.kdv_all0 ?_
  rw [makeFunction_eq]
  simp only [List.zip_nil_right, List.filterMap_nil, List.isEmpty_nil, if_true, List.isEmpty_cons]
  rw [if_neg (by decide)]
  refine wpAny_bind (wpAny_newTextTuple ?_)
  simp only [pure_bind]
  have nT := HOk.fresh I1.hok (Nat.le_refl s1.heap.objs.size)
  have I2 : Inv X pins σ (upd H1 s1.heap.objs.size (.tup [.int n])) { heap := s1.heap.push { cls := .type "tuple", data := .seq [u].toArray }, gens := s1.gens, drawn := s1.drawn, toks := s1.toks, os := s1.os } :=
    I1.laid (fun b o e => Heap.get?_push_of_some _ e) (Nat.le_refl _) ⟨(by show 1 ≤ sizeLine; decide), [u], .cons ru .nil, _, Heap.get?_push_size _ rfl, rfl, 0, rfl⟩
  have ext : ∀ b o, H1 b = some o → (upd H1 s1.heap.objs.size (.tup [.int n])) b = some o := fun b o e => by
    rw [upd_ne (ne_of_none e nT)]
    exact e
  exact lam_tailD I2 TB hcode hm hu (hT.ext ext) hfree fun f c' doc pm ctv H3 s' I3 x3 t3 hf nf fr hc => h f c' s1.heap.objs.size doc pm ctv H3 s' I3 ((ExtN.of ext).trans x3) t3 (x3 _ _ upd_same (fun ps z => by cases z)) hf nf fr hc
theorem pe_actD {X : Cx} {pins : List (Addr × Obj)} {σ : L2.St} {H : Hp} {s : Shared} {CXg : CXT} {Eg : XK} {Ng : List Str} {qg : Str} {sg : Scope} {g f c' t : Addr} {cdg pm ctv doc : Value} {params : Arguments} {body : Expr} {scope : Scope} {k i : Nat} {a b : Str} {pn : List (Addr × Obj)} {xe : Value → Shared → Prop} {Wx : WX} {E : XK} {tb : TE} {p1 p2 : Pos} {n : Int}
    (I : Inv X pins σ H s) (L : LamSD X.env.scope scope b) (hna : ∀ (i : Nat) (x : Str), X.N[i]? = some x → x ≠ b) (hf : s.heap.get? f = some (lamO X params body scope t doc pm c' ctv)) (hfn : H f = none) (hfr : ¬ f ∈ frs X.stack) (ht : H t = some (.tup [.int n]))
    (hbind : ∀ u, ∃ kk, bindArgs (W.kdv_fn "<lambda>" (X.env.qual ++ "<lambda>") params (.expr body) scope (cloFrom X.env.cells scope.names []) (.ref t) doc pm (.ref c') ctv) { } = seqItems? (.ref t) >>= kk ∧ kk (some #[u]) = pure [(b, u)])
    (tk : Takes ((cxOf CXg X.prog X.w X.K X.mg X.base Ng qg sg g cdg X.A X.stack s H Eg).tr pn xe) Wx) (hW : ∀ cls d σ' H', E cls d H' → Wx cls d σ' H') (hr : Room (k + 1) (X.A.deeper (PyProof.Rows.envOfC qg sg s.heap.objs.size g cdg)))
    (hbody : ∀ A outer s H, Room k (A.deeper (lamEnv X scope s.heap.objs.size f c')) → PE (lamCx X A outer s H E scope f c') body tb) (hN : Ng[i]? = some a) (hv : Vis sg a) (hd : (a == Str.ofString "__debug__") = false := by rfl) (hcd : (a == Str.ofString "__classdict__") = false := by rfl) :
    PE ((cxOf CXg X.prog X.w X.K X.mg X.base Ng qg sg g cdg X.A X.stack s H Eg).tr pn xe) ((Expr.Name a p1).Call [] [] p2) fun σZ HZ Q => σZ[i]? = some (some (.ref f)) ∧ HZ c' = some (CodeO c' (X.env.qual ++ Str.ofString "<lambda>")) ∧ tb σ HZ Q := by
  refine ⟨fun pinsZ sZ σZ HZ Q IZ h => ?_⟩
  obtain ⟨hs, hc, htb⟩ := h
  refine wpAny_Call_Name_kw (thn ((pe_var hN hv hd hcd).run pinsZ sZ σZ HZ (fun v H1 => v = .ref f ∧ H1 = HZ) IZ ⟨_, hs, rfl, rfl⟩) fun u s1 x => ?_)
  obtain ⟨v, H1, I1, r1, rfl, rfl⟩ := x
  obtain rfl : u = Value.ref f := r1
  have of1 := I1.base.keep f _ hf hfn hfr (fun z => nomatch z)
  refine PySem.W.callWith_F0 ⟨_, _, _, _, of1⟩ ?_
  have un := I1.base
  obtain ⟨⟨oc, vs, tt, hoc, hdc, hvc⟩, _, _⟩ := I1.hok c' _ hc
  have htz := un.tups t _ ht
  obtain ⟨_, its, rits, ot, hot, hot2, nt, hot3⟩ := I1.hok t _ htz
  obtain ⟨w1, rfl, rw1⟩ : ∃ w1, its = [w1] ∧ RelV (.int n) w1 := by
    cases rits with
    | cons r q =>
      cases q
      exact ⟨_, rfl, r⟩
  obtain ⟨kk, e1, e2⟩ := hbind w1
  have rc : codeAny (model X.prog X.w) (X.A.deeper (PyProof.Rows.envOfC qg sg s.heap.objs.size g cdg)) (Code.call (.ref f) { }) (CR (L2.CX X.prog X.w) (PyProof.Rows.envOfC qg sg s.heap.objs.size g cdg :: X.stack) X.prog X.w H1 s1 Q E) s1 := by
    refine PySem.W.kla_callFunE hr.depth of1 rfl L.co L.gen rfl ⟨c', oc, vs, tt, rfl, hoc, hdc, hvc⟩ ?_
    rw [e1]
    refine wpAny_bind (wpAny_seqItems hot hot3 ?_)
    show wpAny _ _ (kk (some #[w1])) _ _ _
    rw [e2]
    refine wpAny_pure (wpAny_newFunctionEnv (fun y hy => (L.own y hy).1) (fun y hy => ?_) (fun h₁ hns hsb => ⟨Heap.NoLimit.fresh I1.nolimit _ hsb, ?_⟩) L.kind)
    · rw [List.mem_singleton.mp hy]
      exact L.par
    · have kp : ∀ b o, s1.heap.get? b = some o → h₁.get? b = some o := fun b o e => hsb.extBut b o (Nat.ne_of_lt (Heap.lt_size e)) (Heap.get?_push_of_some _ e)
      have J := lam_startD (A := X.A.deeper (PyProof.Rows.envOfC qg sg s.heap.objs.size g cdg)) (outer := PyProof.Rows.envOfC qg sg s.heap.objs.size g cdg :: X.stack) (E := E) (f := f) (c' := c') (tk := s1.toks + [(b, w1)].length) I L hna I1.env0 hr.hd un hns kp
      refine PySem.W.kla_codeExpr (wpAny_mono ((hbody _ _ s1 H1 (hr.deeper (lamEnv X scope s1.heap.objs.size f c'))).run [] _ σ H1 Q J htb) (fun v s' hq => ?_) fun e s' hq => hq)
      obtain ⟨w', H', J', rv, q⟩ := hq
      exact ⟨w', H', J'.os, J'.bare, J'.base, J'.hok, rv, q⟩
  refine wpAny_call (codeAny_mono rc fun r s' hq => ?_)
  cases r with
  | error e => exact passes_call tk hW pinsZ σZ H1 s1 e s' I1 hq
  | ok fl =>
    cases fl with
    | ret u => exact I1.after hq
    | next => exact hq.elim
    | brk => exact hq.elim
    | cont => exact hq.elim
theorem pe_lamcallD {X : Cx} {T : List (Addr × Str)} {TT : (XK → Hp → VK → Prop) → Hp → VK → Prop} {x a b : Str} {g c P : Addr} {k : Nat} {pg : Arguments} {bg : List Stmt} {sg : Scope} {dV kV doc pm cdv ct oc : Value} {an od : Option Addr} {osl : Array (Option Value)} {Ng : List Str} {params : Arguments} {body : Expr} {scope : Scope} {t : XK → TE} {p lpos pos : Pos} {j : Nat} {p1 : Pos} {n : Int}
    (hg : Gl X x) (hm : X.mg x = some (.ref g)) (hk : PySem.W.keepIn X.K (.ref g) = true) (lk : List.lookup g X.K = some { cls := oc, dict := od, data := .func (PySem.W.fnOf x x pg bg sg dV kV doc pm an cdv ct), slots := osl }) (hcg : PySem.W.codeIn X.K cdv x = true) (hb : Binds X.K (PySem.W.fnOf x x pg bg sg dV kV doc pm an cdv ct) [a] []) (Sg : FnScope Ng [a] sg) (hNg : Ng[0]? = some a) (hva : Vis sg a)
    (hG : GivesTo X Ng x sg g cdv bg a (X.env.qual ++ Str.ofString "<lambda>") TT) (TB : TabB X.base X.mg c P) (hcode : X.env.code = .ref c) (hmT : (P, X.env.qual ++ Str.ofString "<lambda>") ∈ T) (hu : ∀ p ∈ T, p.1 = P → p.2 = X.env.qual ++ Str.ofString "<lambda>") (hr : Room (k + 2) X.A) (L : LamSD X.env.scope scope b) (hna : ∀ (i : Nat) (x : Str), X.N[i]? = some x → x ≠ b)
    (hdf : params.defaults = [.Constant (.int n) j p1]) (hkd : params.kw_defaults = []) (hbind : ∀ q cl t doc pm c' ctv u, ∃ kk, bindArgs (PySem.W.kdv_fn "<lambda>" q params (.expr body) scope cl (.ref t) doc pm (.ref c') ctv) { } = seqItems? (.ref t) >>= kk ∧ kk (some #[u]) = pure [(b, u)])
    (hbody : ∀ A outer s H E f c', Room k (A.deeper (lamEnv X scope s.heap.objs.size f c')) → PE (lamCx X A outer s H E scope f c') body (t E)) (hdb : (x == Str.ofString "__debug__") = false := by rfl) (hd : (a == Str.ofString "__debug__") = false := by rfl) (hcd : (a == Str.ofString "__classdict__") = false := by rfl) :
    PE X ((Expr.Name x p).Call [.Lambda params body scope lpos] [] pos) (tLam T TT t) := by
  refine ⟨fun pins s σ H Q I h => ?_⟩
  obtain ⟨hT, h⟩ := h
  refine wpAny_Call_Name_kw (ld_glob I hg hm (PySem.W.callWith_K I.ok.mod.kin hk (Calls.spliced_cons (lam_makeD I TB hcode hmT hu hT hdf hkd (fun y hy e => I.ok.has y.1 (L.free y hy e)) fun f c' tt doc' pm' ctv H1 s' I1 eN T1 ht1 hf hfn hfr hco => Calls.spliced_nil ⟨I1.kIn, ?_⟩)) rfl rfl) hdb)
  have rc := run_ofS lk hcg Sg hr I1.env0 (hb s' [Value.ref f] I1.kIn rfl) (vs := [.ref f]) (.cons (show RelV (.ref f) (Value.ref f) from rfl) .nil) rfl (CX := C8.CX0) (Q := Q) (E := C8.E0) fun hr' => by
    obtain ⟨t', ht', hq'⟩ := hG f c' s' H1 Q (fun E H' Q' => t E σ H' Q') (fun Wx pn xe E p1 p2 tk hW => pe_actD I1 L hna hf hfn hfr ht1 (hbind _ _ _ _ _ _ _) tk hW hr' (fun A outer s H hr2 => hbody A outer s H E f c' hr2) hNg hva hd hcd) hco (h H1 eN T1)
    exact ⟨t', PSs.nox ht', hq'⟩
  refine wpAny_call (codeAny_mono rc fun r s2 hq => ?_)
  cases r with
  | error e => exact hq.elim
  | ok fl =>
    cases fl with
    | ret u => exact I1.after hq
    | next => exact hq.elim
    | brk => exact hq.elim
    | cont => exact hq.elim
end Ov
namespace Ov
open PySem PySem.Spec PyProof.Rows L2
/-! ### list.count of flat items; isinstance of whatever error was caught -/
section
variable {X : Cx}
theorem count_eqU {x : V} : ∀ {xs : List V} {us : List Value}, Vals xs us → xs.all flatV = true → us.countP (eqU x) = xs.countP fun y => eqV y x
  | _, _, .nil, _ => rfl
  | y :: xs, u :: us, .cons r t, f => by
    rw [List.all_cons, Bool.and_eq_true] at f
    rw [List.countP_cons, List.countP_cons, eqU_of r f.1, count_eqU t f.2]
def rCntV (K : PySem.W.Frag) : V → List V → Hp → VK → Prop := fun x xs H Q => ∃ (p : Addr) (ys : List V) (y : V), x = .ref p ∧ xs = [y] ∧ SqL K H p ys ∧ flatV y = true ∧ ys.all flatV = true ∧ Q (.int (ys.countP (fun z => eqV z y) : Nat)) H
theorem mt_count : MtR X "list.count" (rCntV X.K) := by
  intro pins s σ H x xs v us Q I rx rxs h
  obtain ⟨p, ys, y, rfl, rfl, hs, fy, fys, q⟩ := h
  cases rx
  obtain ⟨u, rfl, ru⟩ := rxs.one
  obtain ⟨its, rv, ⟨⟨cls, dd, data, sl⟩, n, ho, hc, hdn, hd⟩, hlen⟩ := I.list hs
  simp only at hc hd
  subst hc hd
  refine call_meets PySem.F.slot_list_count ⟨_, ho, rfl⟩ PySem.F.entry_list_count (PySem.F.args_list_count_2 _ _)
    (SeqAt.list_countAt p its.toArray n dd sl u (eqU y)) ⟨ho, fun z hz => mem_eqAt ru fy rv fys z (by simpa using hz), ?_⟩
  have ec : its.toArray.toList.countP (eqU y) = ys.countP fun z => eqV z y := count_eqU rv fys
  refine ⟨.int (ys.countP (fun z => eqV z y) : Nat), H, I.tok _, ⟨s.toks, ?_⟩, q⟩
  show Value.int ((its.toArray.toList.countP (eqU y) : Nat) : Int) s.toks = Value.int ((ys.countP (fun z => eqV z y) : Nat) : Int) s.toks
  rw [ec]
theorem pe_never {e : Expr} : PE X e (fun _ _ _ => False) := ⟨fun _ _ _ _ _ _ h => h.elim⟩
def rIsC (K : PySem.W.Frag) (D a : Addr) (cls : Value) (d : Option Addr) : List V → Hp → VK → Prop := fun xs H Q => cls = .ref D ∧ d = none ∧ rIsE K D a xs H Q
theorem call_isC {a D : Addr} {oe : Obj} {cls : Value} {d : Option Addr} {pn : List (Addr × Obj)} (C : ExcC X.K D) (hz : Zc cls d oe) (hf : ∃ vs, oe.data = .fields vs) : CallR (X.suite a ((a, oe) :: pn)) (.builtin "isinstance") (rIsC X.K D a cls d) := by
  intro pins s σ H xs us Q I r h
  obtain ⟨rfl, rfl, h⟩ := h
  exact call_isE C hz hf pins s σ H xs us Q I r h
theorem takes_len {W W' : WX} (t : Takes X W) (h : ∀ c d (σ : L2.St) H, σ.length = X.N.length → W' c d σ H → W c d σ H) : Takes X W' := fun u s' ⟨a, B, sI, pins, σ, H, cls, d, e, I, nb, up, sky, na, os, ag, w⟩ =>
  t u s' ⟨a, B, sI, pins, σ, H, cls, d, e, I, nb, up, sky, na, os, ag, h _ _ _ _ I.len w⟩
end
/-- the wish of `_law_kind` for an error of the class C, ret being what it tells -/
def TKind (K : PySem.W.Frag) (ret : Str) : (XK → Hp → VK → Prop) → Hp → VK → Prop := fun tl H Q =>
  tl (fun cls d H' => cls = .ref (He.ga K ret) ∧ d = none ∧ ∀ H'', Same H' H'' → Q (.str ret) H'') H fun _ H' => Q (.str "") H'
end Ov
namespace Ov
open PySem PySem.Spec PyProof.Rows L2 LamX
/-! ### tables of code are kept -/
theorem tabs_keep {T : List (Addr × Str)} {H H' : Hp} (t : Tabs T H) (k : ∀ b o, H b = some o → ((∃ ps, o = .tbl ps) ∨ ∃ c q, o = CodeO c q) → H' b = some o) : Tabs T H' := fun p hp => by
  obtain ⟨ps, h1, h2, h3⟩ := t p hp
  refine ⟨ps, k _ _ h1 (.inl ⟨ps, rfl⟩), h2, fun pos cv hc => ?_⟩
  obtain ⟨c, e1, e2⟩ := h3 pos cv hc
  exact ⟨c, e1, k _ _ e2 (.inr ⟨_, _, rfl⟩)⟩
theorem not_lst {xs : List V} {o : HO} (z : (∃ ps, o = .tbl ps) ∨ ∃ c q, o = CodeO c q) (e : o = .lst xs) : False := by
  subst e
  rcases z with ⟨ps, z⟩ | ⟨c, q, z⟩
  · cases z
  · unfold CodeO at z
    cases z
theorem tabs_same {T : List (Addr × Str)} {H H' : Hp} (t : Tabs T H) (s : Same H H') : Tabs T H' := tabs_keep t fun b o e _ => s b o e
theorem tabs_but {T : List (Addr × Str)} {H H' : Hp} {h c : Addr} (t : Tabs T H) (b : But h c H H') (d : Dr H h c) : Tabs T H' := tabs_keep t fun a o e z => by
  obtain ⟨m, k, xs, g1, g2, _⟩ := d
  refine b a o (fun q => ?_) (fun q => ?_) e
  · subst q
    exact not_lst z (Option.some.inj (e.symm.trans g1))
  · subst q
    exact not_lst z (Option.some.inj (e.symm.trans g2))
theorem dr_extN {H H' : Hp} {h c : Addr} (d : Dr H h c) (x : ExtN H H') : Dr H' h c := by
  obtain ⟨m, k, xs, g1, g2, l⟩ := d
  exact ⟨m, k, xs, x _ _ g1 (fun _ z => by cases z), x _ _ g2 (fun _ z => by cases z), l⟩
theorem keep_extN {H H' : Hp} (x : ExtN H H') : Keep H H' := fun a xs e => x _ _ e (fun _ z => by cases z)
def lamSDB (sc scope : Scope) (a : Str) : Bool :=
  decide (scope.kind = .function) && !scope.isCoroutine && !scope.isGenerator && (scope.names.all fun y => !decide (y.2 = .cell) && (!decide (y.2 = .local) || decide (y.1 = a)) && (!decide (y.2 = .free) || decide (sc.names.lookup y.1 = some .cell) || decide (sc.names.lookup y.1 = some .free))) && decide (scope.names.lookup a = some .local)
theorem lamSD_by {sc scope : Scope} {a : Str} (h : lamSDB sc scope a = true) : LamSD sc scope a := by
  unfold lamSDB at h
  simp only [Bool.and_eq_true, Bool.or_eq_true, Bool.not_eq_true', decide_eq_true_eq, decide_eq_false_iff_not, List.all_eq_true] at h
  obtain ⟨⟨⟨⟨h1, h2⟩, h3⟩, h4⟩, h5⟩ := h
  refine ⟨h1, h2, h3, fun y hy => ⟨(h4 y hy).1.1, fun e => ?_⟩, h5, fun y hy e => ?_⟩
  · rcases (h4 y hy).1.2 with z | z
    · exact absurd e z
    · exact z
  · rcases (h4 y hy).2 with (z | z) | z
    · exact absurd e z
    · exact .inl z
    · exact .inr z
theorem hna_by {N : List Str} {b : Str} (h : (N.all fun x => !decide (x = b)) = true) : ∀ (i : Nat) (x : Str), N[i]? = some x → x ≠ b := fun i x e => by
  have z := List.all_eq_true.mp h x (List.mem_of_getElem? e)
  simpa using z
/-! ### how long a run's lists are -/
theorem evR_phi {pr : List (Int × W)} (hok : PrOk pr) {z : Int} (h0 : 0 ≤ z) (h1 : z < 1000) : (evR pr z).st.said.length ≤ 9000 ∧ (evR pr z).st.row.length ≤ 9000 := by
  obtain ⟨p0, hp0⟩ : ∃ p, pr[0]? = some p := ⟨_, List.getElem?_eq_getElem hok.l1⟩
  have hbd := hok.f p0 (List.mem_of_getElem? hp0)
  have gd := evB_good (n := pr.length) (call := evC pr 12 0) (a := .num z) (fun f' u' s' h1 h2 => evC_good hok 12 0 f' u' s' h1 h2) ⟨h0, h1⟩ 7 p0.2 ⟨[], 0, [0], [(0, .num z)], []⟩ hbd.2.2.1
  have hph : (⟨[], 0, [0], [(0, .num z)], []⟩ : RS).phi + p0.2.size ≤ 9000 := by
    have := hbd.2.2.2
    show 0 + 1 + 1 + 0 + 44 * (200 - 0) + p0.2.size ≤ 9000
    omega
  unfold evR
  rw [hp0]
  show ((evB (evC pr 12 0) (.num z) 7 p0.2 ⟨[], 0, [0], [(0, .num z)], []⟩).bind fun v s => .ok v { s with told := s.told ++ [(0, v)] }).st.said.length ≤ 9000 ∧ ((evB (evC pr 12 0) (.num z) 7 p0.2 ⟨[], 0, [0], [(0, .num z)], []⟩).bind fun v s => .ok v { s with told := s.told ++ [(0, v)] }).st.row.length ≤ 9000
  generalize evB (evC pr 12 0) (.num z) 7 p0.2 _ = rs at gd ⊢
  cases rs with
  | bad e s2 =>
    have hs2 : s2.phi ≤ 9000 := Nat.le_trans gd hph
    unfold RS.phi at hs2
    exact ⟨show s2.said.length ≤ 9000 by omega, show s2.row.length ≤ 9000 by omega⟩
  | ok v s2 =>
    have hs2 : s2.phi ≤ 9000 := Nat.le_trans gd.2 hph
    unfold RS.phi at hs2
    exact ⟨show s2.said.length ≤ 9000 by omega, show s2.row.length ≤ 9000 by omega⟩
theorem endD_flat : ∀ r : Res, [V.str (endD r).1, (endD r).2].all flatV = true
  | .ok (.num _) _ => rfl
  | .ok (.way _) _ => rfl
  | .bad _ _ => rfl
theorem nV_flat (l : List Nat) : (nV l).all flatV = true := by
  unfold nV
  rw [List.all_map, List.all_eq_true]
  intro x _
  rfl
def spLawRunU : Sp := fun vs H Q E => ∃ pr, spLawRun pr vs H Q E
def spLawT (K : PySem.W.Frag) (T : List (Addr × Str)) : Sp := fun vs H Q _ => ∃ (a : Addr) (ns : List Int), vs = [.ref a] ∧ SqL K H a (ns.map V.int) ∧ ns.length ≤ 63 ∧ Tabs T H ∧ ∀ H', Q (.bl true) H'
end Ov
/-! ### what halls refuse -/
namespace Ov
open PySem PySem.Spec PyProof.Rows L2
def OutC (K : PySem.W.Frag) (n : Str) (H : Hp) (E : XK) : Prop := ∀ H', Same H H' → E (.ref (He.ga K n)) none H'
theorem OutC.same {K : PySem.W.Frag} {n : Str} {H H1 : Hp} {E : XK} (h : OutC K n H E) (s : Same H H1) : OutC K n H1 E := fun H' s' => h H' (s.trans s')
def Small9 (z : Int) : Prop := z.natAbs < 10 ^ 9
theorem Small9.log {z : Int} (h2 : Small9 z) : z.natAbs.log2 < 1920 := by
  unfold Small9 at h2
  by_cases h0 : z.natAbs = 0
  · rw [h0]
    decide
  exact (Nat.log2_lt h0).mpr (Nat.lt_trans h2 (by decide))
theorem Small9.len {z : Int} (h : Small9 z) : (PySem.Str.ofString (toString z)).length ≤ 10 := by
  have e := PySem.int_text_length_le10 (k := 9) (by decide) h
  rw [PySem.ofString_length]
  omega
def spCheckRoomX (K : PySem.W.Frag) : Sp := fun vs H _ E => ∃ z : Int, vs = [.int z] ∧ (z < 1 ∨ 64 < z) ∧ Small9 z ∧ OutC K "BadRoom" H E
def spCheckFunctionX (K : PySem.W.Frag) : Sp := fun vs H _ E => ∃ (f : Int) (n : Nat), vs = [.int f, .int (n : Int)] ∧ (f < 0 ∨ (n : Int) ≤ f) ∧ Small9 f ∧ OutC K "BadFunction" H E
def spHallX (K : PySem.W.Frag) : Sp := fun vs H _ E => ∃ (H0 : Hp) (x : HA) (wys : List (List Nat)) (L : List Lay) (lc : List (Option Cnt)) (mv : Int) (far : Nat) (f : Int), vs = [.ref x.a, .int f] ∧ HallIn K H0 H x wys L lc mv far ∧ (f < 0 ∨ (wys.length : Int) ≤ f) ∧ Small9 f ∧ OutC K "BadFunction" H E
def spCheckRoomB (K : PySem.W.Frag) : Sp := fun vs H Q E => ∃ z : Int, vs = [.int z] ∧ Small9 z ∧ (1 ≤ z → z ≤ 64 → Q .non H) ∧ (z < 1 ∨ 64 < z → OutC K "BadRoom" H E)
def spHallInitX (K : PySem.W.Frag) : Sp := fun vs H _ E => ∃ (a : V) (v t : V) (pr : List (Int × W)) (ps : List (List Nat)) (st : List Int) (dn : Nat → List Nat) (far z : Int), vs = [a, v, t, .int z] ∧ preT H v t pr ps st ∧ Dn pr.length ps st dn ∧ Far pr ps dn far ∧ (z < far ∨ 64 < z) ∧ Small9 z ∧ OutC K "BadRoom" H E
end Ov
/-! ### the law's own hall (k05, k14): a dict of the program, the tree, what is laid, the cells, how many were brought -/
namespace Ov
open PySem PySem.Spec PyProof.Rows L2
def hsK (pv tv : V) (fl ca : Addr) (n : Int) : List (Key × V) := [(.inr "program", pv), (.inr "tree", tv), (.inr "laid", .ref fl), (.inr "cells", .ref ca), (.inr "many", .int n)]
theorem hsK_many {pv tv : V} {fl ca : Addr} {n m : Int} : putK (hsK pv tv fl ca n) (.inr "many") (.int m) = hsK pv tv fl ca m := by rfl
/-- the law's hall at a heap; H0 tells what isn't its own -/
structure HsIn (H0 H : Hp) (a fl ca : Addr) (pv tv : V) (pr : List (Int × W)) (ps : List (List Nat)) (dn : Nat → List Nat) (us : List V) (n : Int) : Prop where
  d : H a = some (.dK (hsK pv tv fl ca n))
  laid : ∃ vs, H fl = some (.lst vs) ∧ Fill pr.length ps (fun i j x => ∃ t dl, x = .ref t ∧ H t = some (.tup [.int (bgn pr ps dn i + psz pr ((ps[i]?.getD []).take j)), .ref dl]) ∧ H dl = some (.lst (nV (dn i ++ [i]))) ∧ H0 dl = none ∧ dl ≠ ca) ps.length 0 vs
  cs : H ca = some (.lst us)
  fa : H0 a = none
  ff : H0 fl = none ∧ fl ≠ ca
  fc : H0 ca = none
section
variable {H0 H H' : Hp} {a fl ca : Addr} {pv tv : V} {pr : List (Int × W)} {ps : List (List Nat)} {dn : Nat → List Nat} {us : List V} {n : Int}
theorem HsIn.keepN (h : HsIn H0 H a fl ca pv tv pr ps dn us n) (k : ∀ b o, H0 b = none → H b = some o → (∀ ps, o ≠ .tbl ps) → H' b = some o) (kt : Keep H H') : HsIn H0 H' a fl ca pv tv pr ps dn us n := by
  obtain ⟨h1, ⟨vs, h2, h3⟩, h4, f1, f2, f3⟩ := h
  exact ⟨k _ _ f1 h1 (fun _ z => by cases z), ⟨vs, k _ _ f2.1 h2 (fun _ z => by cases z), Fill.mono h3 fun i j x ⟨t, dl, e1, e2, e3, e4, e5⟩ => ⟨t, dl, e1, kt _ _ e2, k _ _ e4 e3 (fun _ z => by cases z), e4, e5⟩⟩, k _ _ f3 h4 (fun _ z => by cases z), f1, f2, f3⟩
theorem HsIn.same (h : HsIn H0 H a fl ca pv tv pr ps dn us n) (s : Same H H') : HsIn H0 H' a fl ca pv tv pr ps dn us n := h.keepN (fun b o _ e _ => s _ _ e) (Keep.same s)
/-- what stays of it when another's two places change -/
theorem HsIn.but {p q : Addr} (h : HsIn H0 H a fl ca pv tv pr ps dn us n) (hp : H0 p ≠ none) (hq : H0 q ≠ none) (b : But p q H H') (kt : Keep H H') : HsIn H0 H' a fl ca pv tv pr ps dn us n := h.keepN (fun c o n e _ => b c o (fun z => hp (by rw [← z]; exact n)) (fun z => hq (by rw [← z]; exact n)) e) kt
theorem HsIn.mark {p : Addr} {o : HO} (h : HsIn H0 H a fl ca pv tv pr ps dn us n) (hp : H p = none) : HsIn (upd H0 p o) H a fl ca pv tv pr ps dn us n := by
  obtain ⟨h1, ⟨vs, h2, h3⟩, h4, f1, f2, f3⟩ := h
  have ne : ∀ {b : Addr} {u : HO}, H b = some u → (upd H0 p o) b = H0 b := fun e => upd_ne (ne_of_none e hp)
  exact ⟨h1, ⟨vs, h2, Fill.mono h3 fun i j x ⟨t, dl, e1, e2, e3, e4, e5⟩ => ⟨t, dl, e1, e2, e3, by rw [ne e3]; exact e4, e5⟩⟩, h4, by rw [ne h1]; exact f1, ⟨by rw [ne h2]; exact f2.1, f2.2⟩, by rw [ne h4]; exact f3⟩
theorem upd_none {p b : Addr} {o : HO} (h : (upd H0 p o) b = none) : H0 b = none := by
  by_cases e : b = p
  · rw [e, upd_same] at h
    cases h
  · rw [upd_ne e] at h
    exact h
theorem HsIn.unmark {p : Addr} {o : HO} (h : HsIn (upd H0 p o) H a fl ca pv tv pr ps dn us n) : HsIn H0 H a fl ca pv tv pr ps dn us n := by
  obtain ⟨h1, ⟨vs, h2, h3⟩, h4, f1, f2, f3⟩ := h
  exact ⟨h1, ⟨vs, h2, Fill.mono h3 fun i j x ⟨t, dl, e1, e2, e3, e4, e5⟩ => ⟨t, dl, e1, e2, e3, upd_none e4, e5⟩⟩, h4, upd_none f1, ⟨upd_none f2.1, f2.2⟩, upd_none f3⟩
theorem HsIn.ne (h : HsIn H0 H a fl ca pv tv pr ps dn us n) : a ≠ ca := ne_of h.d h.cs (by intro z; cases z)
/-- the cells are written -/
theorem HsIn.setc (h : HsIn H0 H a fl ca pv tv pr ps dn us n) (ws : List V) : HsIn H0 (upd H ca (.lst ws)) a fl ca pv tv pr ps dn ws n ∧ But a ca H (upd H ca (.lst ws)) := by
  obtain ⟨h1, ⟨vs, h2, h3⟩, h4, f1, f2, f3⟩ := h
  have kt := Keep.updL (ys := ws) h4
  exact ⟨⟨by rw [upd_ne (ne_of h1 h4 (by intro z; cases z))]; exact h1, ⟨vs, by rw [upd_ne f2.2]; exact h2, Fill.mono h3 fun i j x ⟨t, dl, e1, e2, e3, e4, e5⟩ => ⟨t, dl, e1, kt _ _ e2, by rw [upd_ne e5]; exact e3, e4, e5⟩⟩, upd_same, f1, f2, f3⟩, fun b o _ n2 e => by rw [upd_ne n2]; exact e⟩
/-- how many were brought is written -/
theorem HsIn.setm (h : HsIn H0 H a fl ca pv tv pr ps dn us n) (m : Int) : HsIn H0 (upd H a (.dK (hsK pv tv fl ca m))) a fl ca pv tv pr ps dn us m ∧ But a ca H (upd H a (.dK (hsK pv tv fl ca m))) := by
  obtain ⟨h1, ⟨vs, h2, h3⟩, h4, f1, f2, f3⟩ := h
  have kt := Keep.updD (o := .dK (hsK pv tv fl ca m)) h1
  have ne : ∀ {b : Addr} {l : List V}, H b = some (.lst l) → b ≠ a := fun e => ne_of e h1 (by intro z; cases z)
  exact ⟨⟨upd_same, ⟨vs, by rw [upd_ne (ne h2)]; exact h2, Fill.mono h3 fun i j x ⟨t, dl, e1, e2, e3, e4, e5⟩ => ⟨t, dl, e1, kt _ _ e2, by rw [upd_ne (ne e3)]; exact e3, e4, e5⟩⟩, by rw [upd_ne (ne h4)]; exact h4, f1, f2, f3⟩, fun b o n1 _ e => by rw [upd_ne n1]; exact e⟩
theorem HsIn.keep (h : HsIn H0 H a fl ca pv tv pr ps dn us n) (b : But a ca H H') : Keep H H' := fun c xs e => b c _ (ne_of e h.d (by intro z; cases z)) (ne_of e h.cs (by intro z; cases z)) e
/-- the entry of a function -/
theorem HsIn.entry (h : HsIn H0 H a fl ca pv tv pr ps dn us n) {i j f : Nat} {p : List Nat} (e1 : ps[i]? = some p) (e2 : p[j]? = some f) : ∃ vs t dl, H fl = some (.lst vs) ∧ vs[f]? = some (.ref t) ∧ H t = some (.tup [.int (bgn pr ps dn i + psz pr (p.take j)), .ref dl]) ∧ H dl = some (.lst (nV (dn i ++ [i]))) ∧ H0 dl = none ∧ dl ≠ ca := by
  obtain ⟨vs, h2, h3⟩ := h.laid
  obtain ⟨x, hx, t, dl, rfl, z1, z2, z3, z4⟩ := h3.all.2 i p j f e1 e2
  rw [e1] at z1
  exact ⟨vs, t, dl, h2, hx, z1, z2, z3, z4⟩
end
def spLawHall : Sp := fun vs H Q _ => ∃ v t pr ps st dn, ∃ R : Nat, vs = [v, t, .int (R : Int)] ∧ preT H v t pr ps st ∧ Dn pr.length ps st dn ∧ R ≤ 64 ∧
  ∀ H' a fl ca, Same H H' → HsIn H H' a fl ca v t pr ps dn (List.replicate R .non) 0 → Q (.ref a) H'
/-! ### looks cell by cell -/
theorem has_brg {ly : List (Option Cnt)} {l m : Lay} (a : Apart l m) : Has (brg ly m) l = Has ly l := by
  unfold Has
  rw [Bool.eq_iff_iff, List.all_eq_true, List.all_eq_true]
  have e : ∀ d ∈ l, (brg ly m)[d.1]? = ly[d.1]? := fun d hd => brg_out m ly d.1 fun c hc z => a d hd c hc z.symm
  exact ⟨fun h d hd => by rw [← e d hd]; exact h d hd, fun h d hd => by rw [e d hd]; exact h d hd⟩
theorem has_brgs {L : List Lay} {q : Nat} : ∀ (ms : List Nat) (ly : List (Option Cnt)), (∀ r ∈ ms, Apart (lyr L q) (lyr L r)) → Has (brgs ly L ms) (lyr L q) = Has ly (lyr L q)
  | [], _, _ => rfl
  | r :: ms, ly, a => by
    show Has (brgs (brg ly (lyr L r)) L ms) (lyr L q) = _
    rw [has_brgs ms _ fun r hr => a r (List.mem_cons_of_mem _ hr), has_brg (a r List.mem_cons_self)]
theorem mis_take {ly : List (Option Cnt)} {L : List Lay} {w : List Nat} {i q : Nat} (hq : w[i]? = some q) : mis ly L (w.take (i + 1)) = mis ly L (w.take i) ++ (if Has ly (lyr L q) = true then [] else [q]) := by
  unfold mis
  rw [List.take_add_one, hq, List.filter_append]
  congr 1
  cases e : Has ly (lyr L q) <;> simp [e]
theorem mis_apart {w : List Nat} {L : List Lay} (pw : w.Pairwise fun q r => q ≠ r ∧ Apart (lyr L q) (lyr L r)) {ly : List (Option Cnt)} {i q : Nat} (hq : w[i]? = some q) : ∀ r ∈ mis ly L (w.take i), Apart (lyr L q) (lyr L r) := fun r hr => by
  have hm := (List.mem_filter.mp hr).1
  obtain ⟨j, hj⟩ := List.mem_iff_getElem?.mp hm
  have hjl := (List.getElem?_eq_some_iff.mp hj).1
  rw [List.length_take] at hjl
  rw [List.getElem?_take_of_lt (by omega)] at hj
  obtain ⟨li, ei⟩ := List.getElem?_eq_some_iff.mp hq
  obtain ⟨lj, ej⟩ := List.getElem?_eq_some_iff.mp hj
  have z := List.pairwise_iff_getElem.mp pw j i lj li (by omega)
  rw [ei, ej] at z
  exact z.2.symm
/-- what of a layout doesn't lie there -/
def gone (ly : List (Option Cnt)) (l : Lay) : List Int := (l.filter fun e => !decide (ly[e.1]? = some (some e.2))).map fun e => (e.1 : Int)
theorem gone_nil {ly : List (Option Cnt)} {l : Lay} : (gone ly l).isEmpty = Has ly l := by
  unfold gone
  rw [Bool.eq_iff_iff, List.isEmpty_iff, List.map_eq_nil_iff, List.filter_eq_nil_iff, has_iff]
  constructor
  · intro h e he
    have z := h e he
    simpa using z
  · intro h e he
    rw [h e he]
    simp
theorem gone_snoc {ly : List (Option Cnt)} {l : Lay} {e : Nat × Cnt} : gone ly (l ++ [e]) = gone ly l ++ (if ly[e.1]? = some (some e.2) then [] else [(e.1 : Int)]) := by
  unfold gone
  rw [List.filter_append, List.map_append]
  congr 1
  by_cases z : ly[e.1]? = some (some e.2)
  · rw [if_pos z]; simp [z]
  · rw [if_neg z]; simp [z]
theorem gone_len (ly : List (Option Cnt)) (l : Lay) : (gone ly l).length ≤ l.length := by
  unfold gone
  rw [List.length_map]
  exact List.length_filter_le _ _
theorem has_app {ly : List (Option Cnt)} {l m : Lay} : Has ly (l ++ m) = (Has ly l && Has ly m) := List.all_append
/-- the cells of one function -/
def layF (first : Nat) (f n : Nat) : Lay := (List.range n).map fun k => (first + k, (f, k))
theorem has_layF {ly : List (Option Cnt)} {a f n : Nat} : Has ly (layF a f n) = decide ((ly.drop a).take n = (List.range n).map fun k => some (f, k)) := by
  rw [Bool.eq_iff_iff, has_iff, decide_eq_true_iff]
  have hg : ∀ k, k < n → ((ly.drop a).take n)[k]? = ly[a + k]? := fun k hk => by
    rw [List.getElem?_take_of_lt hk, List.getElem?_drop]
  constructor
  · intro h
    have hl : ∀ k, k < n → ly[a + k]? = some (some (f, k)) := fun k hk => h (a + k, (f, k)) (List.mem_map.mpr ⟨k, List.mem_range.mpr hk, rfl⟩)
    refine List.ext_getElem? fun k => ?_
    by_cases hk : k < n
    · rw [hg k hk, hl k hk, List.getElem?_map, List.getElem?_range hk]
      rfl
    · rw [List.getElem?_eq_none (by rw [List.length_take]; omega), List.getElem?_eq_none (by rw [List.length_map, List.length_range]; omega)]
  · intro h e he
    obtain ⟨k, hk, rfl⟩ := List.mem_map.mp he
    have hk := List.mem_range.mp hk
    rw [← hg k hk, h, List.getElem?_map, List.getElem?_range hk]
    rfl
theorem layP_layF {pr : List (Int × W)} {cs : List Int} {p : List Nat} {f : Nat} : layP pr cs (p ++ [f]) = layP pr cs p ++ layF (cs[f]?.getD 0).toNat f (fsz pr f).toNat := layP_snoc
/-- cells as data -/
theorem cells_dp {K : PySem.W.Frag} {H : Hp} : ∀ {us : List V} {lc : List (Option Cnt)}, Paired (CellAt H) us lc → DpAll K H us (lc.map cellD)
  | _, _, .nil => .nil
  | _, _, .cons h r => .cons (cell_dp h) (cells_dp r)
theorem cells_depth : ∀ lc : List (Option Cnt), PyData.depthAll (lc.map cellD) ≤ 1
  | [] => by simp [PyData.depthAll]
  | none :: r => by
    have := cells_depth r
    simp [PyData.depthAll, cellD, PyData.depth]; omega
  | some c :: r => by
    have := cells_depth r
    simp [PyData.depthAll, cellD, cntD, PyData.depth]; omega
theorem cells_lay : ∀ lc : List (Option Cnt), PyData.canLayAll0 (lc.map cellD) = true
  | [] => by simp [PyData.canLayAll0]
  | none :: r => by simp [PyData.canLayAll0, cellD, PyData.canLay0, cells_lay r]
  | some c :: r => by simp [PyData.canLayAll0, cellD, cntD, PyData.canLay0, cells_lay r]
theorem cells_shaped (lc : List (Option Cnt)) : SeqAt.shaped (.list (lc.map cellD)) = true := by
  show (PyData.canLay0 (.list (lc.map cellD)) && decide (PyData.depth (.list (lc.map cellD)) ≤ 64)) = true
  rw [Bool.and_eq_true]
  refine ⟨by simp only [PyData.canLay0]; exact cells_lay lc, decide_eq_true ?_⟩
  have := cells_depth lc
  simp only [PyData.depth]
  omega
theorem cells_eqvAll : ∀ (lc : List (Option Cnt)) (ds : List Cnt), PyData.eqvAll (lc.map cellD) ((ds.map some).map cellD) = decide (lc = ds.map some)
  | [], [] => by simp [PyData.eqvAll]
  | [], _ :: _ => by simp [PyData.eqvAll]
  | _ :: _, [] => by simp [PyData.eqvAll]
  | c :: lc, d :: ds => by
    have h := cells_eqvAll lc ds
    have h1 := cell_eqv c d
    show (PyData.eqv (cellD c) (cellD (some d)) && PyData.eqvAll (lc.map cellD) ((ds.map some).map cellD)) = _
    rw [h, h1, Bool.eq_iff_iff, Bool.and_eq_true, decide_eq_true_iff, decide_eq_true_iff, decide_eq_true_iff, List.map_cons, List.cons.injEq]
theorem cells_eqv (lc : List (Option Cnt)) (ds : List Cnt) : PyData.eqv (.list (lc.map cellD)) (.list ((ds.map some).map cellD)) = decide (lc = ds.map some) := by
  have h := cells_eqvAll lc ds
  simp only [PyData.eqv]
  exact h
theorem paired_drop {α β : Type} {R : α → β → Prop} : ∀ {l : List α} {m : List β}, Paired R l m → ∀ k, Paired R (l.drop k) (m.drop k)
  | _, _, h, 0 => h
  | _, _, .nil, _ + 1 => .nil
  | _, _, .cons _ r, k + 1 => paired_drop r k
theorem paired_take {α β : Type} {R : α → β → Prop} : ∀ {l : List α} {m : List β}, Paired R l m → ∀ k, Paired R (l.take k) (m.take k)
  | _, _, _, 0 => by rw [List.take_zero, List.take_zero]; exact .nil
  | _, _, .nil, _ + 1 => .nil
  | _, _, .cons h r, k + 1 => .cons h (paired_take r k)
theorem cut_mid (xs : List V) (a n : Nat) (h : a + n ≤ xs.length) : cutV xs (some (a : Int)) (some ((a : Int) + (n : Int))) = (xs.drop a).take n := by
  unfold cutV
  rw [show (a : Int) + (n : Int) = ((a + n : Nat) : Int) by omega, HT.sIx_nat, HT.sIx_nat, Nat.min_eq_left (by omega), Nat.min_eq_left (by omega), show a + n - a = n by omega]
/-- the law's look; x: the hall's places, lc what lies in its cells -/
structure LawIn (H0 H : Hp) (a fl ca : Addr) (pv tv : V) (pr : List (Int × W)) (ps : List (List Nat)) (st : List Int) (dn : Nat → List Nat) (cs : List Int) (lc : List (Option Cnt)) (n : Int) (far : Nat) : Prop where
  hs : ∃ us, HsIn H0 H a fl ca pv tv pr ps dn us n ∧ Paired (CellAt H) us lc
  pre : preT H pv tv pr ps st
  dw : Dn pr.length ps st dn
  cells : Cells pr ps dn cs
  ok : HlOk (waysF pr.length ps dn) (laysF pr cs ps) far
  le : far ≤ lc.length ∧ lc.length ≤ 64
section
variable {H0 H H' : Hp} {a fl ca : Addr} {pv tv : V} {pr : List (Int × W)} {ps : List (List Nat)} {st : List Int} {dn : Nat → List Nat} {cs : List Int} {lc : List (Option Cnt)} {n : Int} {far : Nat}
theorem LawIn.keepN (h : LawIn H0 H a fl ca pv tv pr ps st dn cs lc n far) (k : ∀ b o, H0 b = none → H b = some o → (∀ ps, o ≠ .tbl ps) → H' b = some o) (kt : Keep H H') : LawIn H0 H' a fl ca pv tv pr ps st dn cs lc n far := by
  obtain ⟨us, h1, h2⟩ := h.hs
  exact ⟨⟨us, h1.keepN k kt, L2.Paired.mapP h2 fun _ _ z => z.keep kt⟩, h.pre.keep kt, h.dw, h.cells, h.ok, h.le⟩
theorem LawIn.same (h : LawIn H0 H a fl ca pv tv pr ps st dn cs lc n far) (s : Same H H') : LawIn H0 H' a fl ca pv tv pr ps st dn cs lc n far := h.keepN (fun b o _ e _ => s _ _ e) (Keep.same s)
theorem LawIn.but {p q : Addr} (h : LawIn H0 H a fl ca pv tv pr ps st dn cs lc n far) (hp : H0 p ≠ none) (hq : H0 q ≠ none) (b : But p q H H') (kt : Keep H H') : LawIn H0 H' a fl ca pv tv pr ps st dn cs lc n far := h.keepN (fun c o n e _ => b c o (fun z => hp (by rw [← z]; exact n)) (fun z => hq (by rw [← z]; exact n)) e) kt
theorem LawIn.mark {p : Addr} {o : HO} (h : LawIn H0 H a fl ca pv tv pr ps st dn cs lc n far) (hp : H p = none) : LawIn (upd H0 p o) H a fl ca pv tv pr ps st dn cs lc n far := by
  obtain ⟨us, h1, h2⟩ := h.hs
  exact ⟨⟨us, h1.mark hp, h2⟩, h.pre, h.dw, h.cells, h.ok, h.le⟩
theorem LawIn.unmark {p : Addr} {o : HO} (h : LawIn (upd H0 p o) H a fl ca pv tv pr ps st dn cs lc n far) : LawIn H0 H a fl ca pv tv pr ps st dn cs lc n far := by
  obtain ⟨us, h1, h2⟩ := h.hs
  exact ⟨⟨us, h1.unmark, h2⟩, h.pre, h.dw, h.cells, h.ok, h.le⟩
theorem LawIn.keep (h : LawIn H0 H a fl ca pv tv pr ps st dn cs lc n far) (b : But a ca H H') : Keep H H' := by
  obtain ⟨us, h1, h2⟩ := h.hs
  exact h1.keep b
end
def spIsIn : Sp := fun vs H Q _ => ∃ H0 a fl ca pv tv pr ps st dn cs lc n far, ∃ f : Nat, vs = [.ref a, .int (f : Int)] ∧ LawIn H0 H a fl ca pv tv pr ps st dn cs lc n far ∧ f < pr.length ∧ ∀ H', Same H H' → Q (.bl (thr lc (laysF pr cs ps) (wayF ps dn f))) H'
def spLawLook : Sp := fun vs H Q _ => ∃ H0 a fl ca pv tv pr ps st dn cs lc n far, ∃ f : Nat, vs = [.ref a, .int (f : Int)] ∧ LawIn H0 H a fl ca pv tv pr ps st dn cs lc n far ∧ f < pr.length ∧
  ∀ H' r, But a ca H H' → H r = none → H' r = some (.lst (nV (mis lc (laysF pr cs ps) (wayF ps dn f)))) → LawIn H0 H' a fl ca pv tv pr ps st dn cs (brgs lc (laysF pr cs ps) (mis lc (laysF pr cs ps) (wayF ps dn f))) (n + (siz (laysF pr cs ps) (mis lc (laysF pr cs ps) (wayF ps dn f)) : Nat)) far → Q (.ref r) H'
end Ov
namespace Ov
open PySem PySem.Spec PyProof.Rows L2
theorem Paired.app {α β : Type} {R : α → β → Prop} : ∀ {a : List α} {b : List β} {c : List α} {d : List β}, Paired R a b → Paired R c d → Paired R (a ++ c) (b ++ d)
  | _, _, _, _, .nil, h => h
  | _, _, _, _, .cons x r, h => .cons x (Paired.app r h)
end Ov
/-! ### an object made in a lambda, where its __init__ raises -/
namespace Ov
open PySem PySem.Spec PyProof.Rows L2
section
variable {X : Cx} {CX : CXT} {k : Nat} {f C : Addr} {fd : FuncData} {ps : List Str} {sp : Sp} {E : L2.St → XK} {x : Str} {p pos : Pos} {e : Expr} {es : List Expr} {t : TA}
theorem run_makeS {pins : List (Addr × Obj)} {σ : L2.St} {H : Hp} {s : Shared} {Q : VK} {us : List Value} {vs : List V} (M : Mk X.K C f) (F : FnOk X.prog X.w X.K X.mg X.base CX k f fd ps sp) (hr : Room (k + 1) X.A) (hb : Binds X.K fd ps [])
    (hx : PassesAt CX X σ (E σ)) (I : Inv X pins σ H s) (r : Vals vs us)
    (h : ∀ x dx, H x = none → H dx = none → dx ≠ x → sp (.ref x :: vs) (upd (upd H dx (.own x)) x (.ins C dx [])) (fun v H2 => v = .non ∧ Q (.ref x) H2) (E σ)) :
    wpAny (model X.prog X.w) X.A (call (.ref C) us) (EP X pins σ Q) X.xe s := by
  have hq := h (s.heap.objs.size + 1) s.heap.objs.size (I.hok.fresh (Nat.le_succ _)) (I.hok.fresh (Nat.le_refl _)) (Nat.ne_of_lt (Nat.lt_succ_self _))
  have I2 := Inv.made (C := C) I
  have r2 : Vals (V.ref (s.heap.objs.size + 1) :: vs) (Value.ref (s.heap.objs.size + 1) :: us) := .cons rfl r
  have hl : (Value.ref (s.heap.objs.size + 1) :: us).length = ps.length := by
    have e := r2.length
    rw [F.len _ _ _ _ hq] at e
    exact e.symm
  have b := hb _ (Value.ref (s.heap.objs.size + 1) :: us) I2.kIn (by rw [List.append_nil]; exact hl)
  rw [List.append_nil] at b
  refine wpAny_call (make_map (f := f) I.kIn M.makes M.init (beq_iff_eq.mp M.fn) (codeAny_mono (F.run _ X.stack _ _ ⟨Value.ref (s.heap.objs.size + 1) :: us, []⟩ (Value.ref (s.heap.objs.size + 1) :: us) _ _ (E σ) (hr.make C us [])
    (I2.env0.make C us []) b r2 hq) fun r s' hq' => ?_))
  cases r with
  | error e => exact hx pins _ _ e s' I2 hq'
  | ok fl =>
    cases fl with
    | ret u =>
      obtain ⟨v, H', I3, rv, ev, q3⟩ := I2.after hq'
      subst ev
      exact ⟨rv, ⟨V.ref (s.heap.objs.size + 1), H', I3, rfl, q3⟩⟩
    | next => exact False.elim hq'
    | brk => exact False.elim hq'
    | cont => exact False.elim hq'
theorem pe_makeS (M : Mk X.K C f) (F : FnOk X.prog X.w X.K X.mg X.base CX k f fd ps sp) (hr : Room (k + 1) X.A) (hg : Gl X x) (hm : X.mg x = some (.ref C)) (hb : Binds X.K fd ps []) (hx : ∀ σ, PassesAt CX X σ (E σ))
    (ha : L2.PA X (e :: es) t) (hdb : (x == ("__debug__" : Str)) = false := by decide) (he : starEach (e :: es) X.env = (false, eval e X.env) :: starEach es X.env := by rfl) (hpl : (backTo pos (starEach es X.env)).any (·.1) = false := by rfl) :
    PE X (.Call (.Name x p) (e :: es) [] pos) (fun σ H Q => t σ H fun vs H1 => ∀ x dx, H1 x = none → H1 dx = none → dx ≠ x →
      sp (.ref x :: vs) (upd (upd H1 dx (.own x)) x (.ins C dx [])) (fun v H2 => v = .non ∧ Q (.ref x) H2) (E σ)) := by
  refine ⟨fun pins s σ H Q I h => ?_⟩
  refine wpAny_Call_Name_kw (ld_glob I hg hm ?_ hdb)
  refine PySem.W.callWith_K (h₀ := X.base) I.ok.mod.kin M.kp (thn (ha.run pos pins s σ H _ I h) fun us s1 ⟨vs, H1, I1, r, q⟩ => ⟨I1.kIn, ?_⟩) he hpl
  exact run_makeS M F hr hb (hx σ) I1 r q
end
/-! ### what stays of a hall when another's places change -/
section
variable {K : PySem.W.Frag} {H0 H H' : Hp} {x : HA} {wys : List (List Nat)} {L : List Lay} {lc : List (Option Cnt)} {mv : Int} {far : Nat}
theorem HallAt.keepN (h : HallAt K H0 H x wys L lc mv) (k : ∀ b o, H0 b = none → H b = some o → (∀ ps, o ≠ .tbl ps) → H' b = some o) (kt : Keep H H') : HallAt K H0 H' x wys L lc mv := by
  obtain ⟨h1, ⟨ws, h2, h3⟩, ⟨ls, h4, h5⟩, ⟨vs, h6, h7⟩, f1, f2, f3, f4⟩ := h
  have kl : ∀ b xs, H0 b = none → H b = some (.lst xs) → H' b = some (.lst xs) := fun b xs n e => k b _ n e (fun _ z => by cases z)
  exact ⟨k _ _ f1 h1 (fun _ z => by cases z), ⟨ws, kl _ _ f2.1 h2, L2.Paired.mapP h3 fun b w z => ⟨kl _ _ z.2.1 z.1, z.2⟩⟩, ⟨ls, kl _ _ f3.1 h4, L2.Paired.mapP h5 fun b l z => by
    obtain ⟨⟨us, z1, z2⟩, z3⟩ := z
    exact ⟨⟨us, kl _ _ z3.1 z1, L2.Paired.mapP z2 fun _ _ y => y.keep kt⟩, z3⟩⟩, ⟨vs, kl _ _ f4 h6, L2.Paired.mapP h7 fun _ _ y => y.keep kt⟩, f1, f2, f3, f4⟩
theorem HallIn.keepN (i : HallIn K H0 H x wys L lc mv far) (k : ∀ b o, H0 b = none → H b = some o → (∀ ps, o ≠ .tbl ps) → H' b = some o) (kt : Keep H H') : HallIn K H0 H' x wys L lc mv far := ⟨i.at_.keepN k kt, i.ok, i.le⟩
theorem HallAt.mark {p : Addr} {o : HO} (h : HallAt K H0 H x wys L lc mv) (hp : H p = none) : HallAt K (upd H0 p o) H x wys L lc mv := by
  obtain ⟨h1, ⟨ws, h2, h3⟩, ⟨ls, h4, h5⟩, ⟨vs, h6, h7⟩, f1, f2, f3, f4⟩ := h
  have ne : ∀ {b : Addr} {u : HO}, H b = some u → H0 b = none → (upd H0 p o) b = none := fun e n => by rw [upd_ne (ne_of_none e hp)]; exact n
  exact ⟨h1, ⟨ws, h2, L2.Paired.mapP h3 fun b w z => ⟨z.1, ne z.1 z.2.1, z.2.2⟩⟩, ⟨ls, h4, L2.Paired.mapP h5 fun b l z => by
    obtain ⟨⟨us, z1, z2⟩, z3⟩ := z
    exact ⟨⟨us, z1, z2⟩, ne z1 z3.1, z3.2⟩⟩, ⟨vs, h6, h7⟩, ne h1 f1, ⟨ne h2 f2.1, f2.2⟩, ⟨ne h4 f3.1, f3.2⟩, ne h6 f4⟩
end
/-! ### places that change: all else stays -/
/-- lists, instances and dicts apart, all stays -/
def Hard (o : HO) : Prop := (∀ xs, o ≠ .lst xs) ∧ (∀ C dx fs, o ≠ .ins C dx fs) ∧ ∀ kvs, o ≠ .dK kvs
def Kp (H H' : Hp) : Prop := ∀ b o, H b = some o → Hard o → H' b = some o
def Soft (H : Hp) (p : Addr) : Prop := ∃ o, H p = some o ∧ ((∃ xs, o = .lst xs) ∨ (∃ C dx fs, o = .ins C dx fs) ∨ ∃ kvs, o = .dK kvs)
theorem Soft.ne {H : Hp} {p : Addr} (h : Soft H p) : H p ≠ none := by
  obtain ⟨o, e, _⟩ := h
  rw [e]
  intro z
  cases z
theorem Soft.not {H : Hp} {p : Addr} {o : HO} (h : Soft H p) (e : H p = some o) (n : Hard o) : False := by
  obtain ⟨o', e', k⟩ := h
  obtain rfl := Option.some.inj (e.symm.trans e')
  rcases k with ⟨xs, rfl⟩ | ⟨C, dx, fs, rfl⟩ | ⟨kvs, rfl⟩
  · exact n.1 _ rfl
  · exact n.2.1 _ _ _ rfl
  · exact n.2.2 _ rfl
theorem Kp.but {p q : Addr} {H H' : Hp} (b : But p q H H') (hp : Soft H p) (hq : Soft H q) : Kp H H' := fun x o e n => b x o (fun z => hp.not (by rw [← z]; exact e) n) (fun z => hq.not (by rw [← z]; exact e) n) e
theorem Kp.trans {H H1 H' : Hp} (a : Kp H H1) (b : Kp H1 H') : Kp H H' := fun x o e n => b x o (a x o e n) n
theorem Kp.same {H H' : Hp} (s : Same H H') : Kp H H' := fun x o e _ => s x o e
theorem hard_tup (xs : List V) : Hard (.tup xs) := by
  refine ⟨fun _ z => ?_, fun _ _ _ z => ?_, fun _ z => ?_⟩ <;> cases z
theorem Kp.keep {H H' : Hp} (k : Kp H H') : Keep H H' := fun a xs e => k a _ e (hard_tup xs)
theorem Kp.tabs {T : List (Addr × Str)} {H H' : Hp} (k : Kp H H') (t : LamX.Tabs T H) : LamX.Tabs T H' := tabs_keep t fun b o e z => by
  refine k b o e ⟨fun xs y => not_lst z y, fun C dx fs y => ?_, fun kvs y => ?_⟩
  all_goals
    subst y
    rcases z with ⟨ps, z⟩ | ⟨c, q, z⟩
    · cases z
    · unfold LamX.CodeO at z
      cases z
theorem Dr.soft {H : Hp} {h c : Addr} (d : Dr H h c) : Soft H h ∧ Soft H c := by
  obtain ⟨m, k, xs, h1, h2, _⟩ := d
  exact ⟨⟨_, h1, .inl ⟨_, rfl⟩⟩, ⟨_, h2, .inl ⟨_, rfl⟩⟩⟩
theorem Dr.keepT {p q h c : Addr} {H H' : Hp} (d : Dr H h c) (b : But p q H H') (n1 : h ≠ p) (n2 : h ≠ q) (n3 : c ≠ p) (n4 : c ≠ q) : Dr H' h c := by
  obtain ⟨m, k, xs, h1, h2, l⟩ := d
  exact ⟨m, k, xs, b _ _ n1 n2 h1, b _ _ n3 n4 h2, l⟩
theorem Keep.extN {H H' : Hp} (x : LamX.ExtN H H') : Keep H H' := keep_extN x
/-! ### a side: a hall, and the law's own -/
structure Sd where
  x : HA
  a : Addr
  fl : Addr
  ca : Addr
  pv : V
  tv : V
  pr : List (Int × W)
  ps : List (List Nat)
  st : List Int
  dn : Nat → List Nat
  cs : List Int
  far : Nat
def Sd.wys (d : Sd) : List (List Nat) := waysF d.pr.length d.ps d.dn
def Sd.L (d : Sd) : List Lay := laysF d.pr d.cs d.ps
def Sd.own (d : Sd) : List Addr := [d.x.a, d.x.ly, d.a, d.ca]
/-- M: all places that change -/
def SdAt (K : PySem.W.Frag) (H : Hp) (M : List Addr) (d : Sd) (lc : List (Option Cnt)) (mv : Int) : Prop := ∃ Hx Hs : Hp, HallIn K Hx H d.x d.wys d.L lc mv d.far ∧ LawIn Hs H d.a d.fl d.ca d.pv d.tv d.pr d.ps d.st d.dn d.cs lc mv d.far ∧
  (∀ p ∈ M, p ≠ d.x.a → p ≠ d.x.ly → Hx p ≠ none) ∧ ∀ p ∈ M, p ≠ d.a → p ≠ d.ca → Hs p ≠ none
section
variable {K : PySem.W.Frag} {H H' : Hp} {M : List Addr} {d : Sd} {lc lc' : List (Option Cnt)} {mv mv' : Int} {p q : Addr}
theorem SdAt.keepN (h : SdAt K H M d lc mv) (k : ∀ b o, H b = some o → (∀ ps, o ≠ .tbl ps) → H' b = some o) : SdAt K H' M d lc mv := by
  obtain ⟨Hx, Hs, h1, h2, m1, m2⟩ := h
  have kt : Keep H H' := fun a xs e => k a _ e (fun _ z => by cases z)
  exact ⟨Hx, Hs, h1.keepN (fun b o _ e n => k b o e n) kt, h2.keepN (fun b o _ e n => k b o e n) kt, m1, m2⟩
theorem SdAt.same (h : SdAt K H M d lc mv) (s : Same H H') : SdAt K H' M d lc mv := h.keepN fun b o e _ => s b o e
theorem SdAt.extN (h : SdAt K H M d lc mv) (s : LamX.ExtN H H') : SdAt K H' M d lc mv := h.keepN fun b o e n => s b o e n
theorem SdAt.but (h : SdAt K H M d lc mv) (hp : p ∈ M) (hq : q ∈ M) (np : p ∉ d.own) (nq : q ∉ d.own) (b : But p q H H') (k : Kp H H') : SdAt K H' M d lc mv := by
  obtain ⟨Hx, Hs, h1, h2, m1, m2⟩ := h
  have ne : ∀ {z : Addr}, z ∉ d.own → z ≠ d.x.a ∧ z ≠ d.x.ly ∧ z ≠ d.a ∧ z ≠ d.ca := fun {z} n => by
    unfold Sd.own at n
    simp only [List.mem_cons, List.not_mem_nil, or_false, not_or] at n
    exact n
  obtain ⟨p1, p2, p3, p4⟩ := ne np
  obtain ⟨q1, q2, q3, q4⟩ := ne nq
  exact ⟨Hx, Hs, h1.keepN (fun c o n e _ => b c o (fun z => m1 p hp p1 p2 (by rw [← z]; exact n)) (fun z => m1 q hq q1 q2 (by rw [← z]; exact n)) e) k.keep, h2.but (m2 p hp p3 p4) (m2 q hq q3 q4) b k.keep, m1, m2⟩
theorem SdAt.mark {p : Addr} (h : SdAt K H M d lc mv) (hp : H p = none) : SdAt K H (p :: M) d lc mv := by
  obtain ⟨Hx, Hs, h1, h2, m1, m2⟩ := h
  refine ⟨upd Hx p (.lst []), upd Hs p (.lst []), ⟨h1.at_.mark hp, h1.ok, h1.le⟩, h2.mark hp, fun r hr n1 n2 => ?_, fun r hr n1 n2 => ?_⟩
  · by_cases e : r = p
    · rw [e, upd_same]; intro z; cases z
    · rw [upd_ne e]
      rcases List.mem_cons.mp hr with hr | hr
      · exact absurd hr e
      · exact m1 r hr n1 n2
  · by_cases e : r = p
    · rw [e, upd_same]; intro z; cases z
    · rw [upd_ne e]
      rcases List.mem_cons.mp hr with hr | hr
      · exact absurd hr e
      · exact m2 r hr n1 n2
theorem SdAt.sub {N : List Addr} (h : SdAt K H M d lc mv) (s : ∀ p ∈ N, p ∈ M) : SdAt K H N d lc mv := by
  obtain ⟨Hx, Hs, h1, h2, m1, m2⟩ := h
  exact ⟨Hx, Hs, h1, h2, fun p hp => m1 p (s p hp), fun p hp => m2 p (s p hp)⟩
theorem SdAt.soft (h : SdAt K H M d lc mv) : ∀ p ∈ d.own, Soft H p := by
  obtain ⟨Hx, Hs, h1, ⟨⟨us, h2, _⟩, _⟩, m1, m2⟩ := h
  obtain ⟨vs, h6, _⟩ := h1.at_.ly
  intro p hp
  unfold Sd.own at hp
  simp only [List.mem_cons, List.not_mem_nil, or_false] at hp
  rcases hp with rfl | rfl | rfl | rfl
  · exact ⟨_, h1.at_.ob, .inr (.inl ⟨_, _, _, rfl⟩)⟩
  · exact ⟨_, h6, .inl ⟨_, rfl⟩⟩
  · exact ⟨_, h2.d, .inr (.inr ⟨_, rfl⟩)⟩
  · exact ⟨_, h2.cs, .inl ⟨_, rfl⟩⟩
/-- all but the places of l stays -/
def ButW (l : List Addr) (H H' : Hp) : Prop := ∀ b o, b ∉ l → H b = some o → H' b = some o
theorem ButW.of {l : List Addr} (hp : p ∈ l) (hq : q ∈ l) (b : But p q H H') : ButW l H H' := fun c o n e => b c o (fun z => n (by rw [z]; exact hp)) (fun z => n (by rw [z]; exact hq)) e
theorem ButW.trans {l : List Addr} {H1 : Hp} (a : ButW l H H1) (b : ButW l H1 H') : ButW l H H' := fun c o n e => b c o n (a c o n e)
theorem ButW.same {l : List Addr} (s : Same H H') : ButW l H H' := fun c o _ e => s c o e
theorem SdAt.butL {l : List Addr} (h : SdAt K H M d lc mv) (hm : ∀ p ∈ l, p ∈ M) (hn : ∀ p ∈ l, p ∉ d.own) (b : ButW l H H') (k : Kp H H') : SdAt K H' M d lc mv := by
  obtain ⟨Hx, Hs, h1, h2, m1, m2⟩ := h
  have ne : ∀ {z : Addr}, z ∈ l → z ≠ d.x.a ∧ z ≠ d.x.ly ∧ z ≠ d.a ∧ z ≠ d.ca := fun {z} m => by
    have n := hn z m
    unfold Sd.own at n
    simp only [List.mem_cons, List.not_mem_nil, or_false, not_or] at n
    exact n
  exact ⟨Hx, Hs, h1.keepN (fun c o n e _ => b c o (fun z => m1 c (hm c z) (ne z).1 (ne z).2.1 n) e) k.keep, h2.keepN (fun c o n e _ => b c o (fun z => m2 c (hm c z) (ne z).2.2.1 (ne z).2.2.2 n) e) k.keep, m1, m2⟩
end
theorem HallAt.fresh {K : PySem.W.Frag} {H0 H H' : Hp} {x : HA} {wys : List (List Nat)} {L : List Lay} {lc lc' : List (Option Cnt)} {mv mv' : Int} {r : Addr} {o : HO} (h : HallAt K H0 H x wys L lc mv) (h' : HallAt K H0 H' x wys L lc' mv') (b : ButHl x H H') (hr : H r = none) : HallAt K (upd H0 r o) H' x wys L lc' mv' := by
  obtain ⟨g1, ⟨ws0, g2, g3⟩, ⟨ls0, g4, g5⟩, ⟨vs0, g6, g7⟩, _, _, _, _⟩ := h
  obtain ⟨h1, ⟨ws, h2, h3⟩, ⟨ls, h4, h5⟩, ⟨vs, h6, h7⟩, f1, f2, f3, f4⟩ := h'
  have ne : ∀ {b : Addr} {u : HO}, H b = some u → H0 b = none → (upd H0 r o) b = none := fun e n => by rw [upd_ne (ne_of_none e hr)]; exact n
  have ew : ws0 = ws := by
    have z := b _ _ (ne_of g2 g1 (by intro z; cases z)) f2.2 g2
    have y := HO.lst.inj (Option.some.inj (z.symm.trans h2))
    exact (List.map_inj_right (fun a b e => V.ref.inj e)).mp y
  have el : ls0 = ls := by
    have z := b _ _ (ne_of g4 g1 (by intro z; cases z)) f3.2 g4
    have y := HO.lst.inj (Option.some.inj (z.symm.trans h4))
    exact (List.map_inj_right (fun a b e => V.ref.inj e)).mp y
  subst ew el
  have old : ∀ b ∈ ws0, ∃ u, H b = some u := fun b hb => by
    obtain ⟨w, z, _⟩ := PairedMem.left g3 b hb
    exact ⟨_, z⟩
  have old2 : ∀ b ∈ ls0, ∃ u, H b = some u := fun b hb => by
    obtain ⟨w, ⟨us, z, _⟩, _⟩ := PairedMem.left g5 b hb
    exact ⟨_, z⟩
  refine ⟨h1, ⟨ws0, h2, PairedMem.map h3 fun b w hb z => ?_⟩, ⟨ls0, h4, PairedMem.map h5 fun b l hb z => ?_⟩, ⟨vs, h6, h7⟩, ne g1 f1, ⟨ne g2 f2.1, f2.2⟩, ⟨ne g4 f3.1, f3.2⟩, ne g6 f4⟩
  · obtain ⟨u, hu⟩ := old b hb
    exact ⟨z.1, ne hu z.2.1, z.2.2⟩
  · obtain ⟨u, hu⟩ := old2 b hb
    exact ⟨z.1, ne hu z.2.1, z.2.2⟩
/-- the places that change -/
def plc (h c S : Addr) (ds : List (Addr × Sd)) : List Addr := h :: c :: S :: ds.flatMap fun p => p.2.own
structure SidesAt (K : PySem.W.Frag) (T : List (Addr × Str)) (H : Hp) (h c S : Addr) (ds : List (Addr × Sd)) : Prop where
  dr : Dr H h c
  tabs : LamX.Tabs T H
  eS : H S = some (.lst (ds.map fun p => V.ref p.1))
  nd : (plc h c S ds).Nodup
  sd : ∀ p ∈ ds, H p.1 = some (.tup [.ref p.2.x.a, .ref p.2.a]) ∧ ∃ lc mv, SdAt K H (plc h c S ds) p.2 lc mv
section
variable {K : PySem.W.Frag} {T : List (Addr × Str)} {H H' : Hp} {h c S : Addr} {ds : List (Addr × Sd)} {p : Addr × Sd}
theorem plc_own (hp : p ∈ ds) : ∀ a ∈ p.2.own, a ∈ plc h c S ds := fun a ha => by
  unfold plc
  exact List.mem_cons_of_mem _ (List.mem_cons_of_mem _ (List.mem_cons_of_mem _ (List.mem_flatMap.mpr ⟨p, hp, ha⟩)))
theorem own_nd (n : (plc h c S ds).Nodup) (hp : p ∈ ds) : p.2.own.Nodup := by
  unfold plc at n
  have n3 := (List.nodup_cons.mp (List.nodup_cons.mp (List.nodup_cons.mp n).2).2).2
  unfold List.Nodup at n3 ⊢
  rw [List.pairwise_flatMap] at n3
  exact n3.1 p hp
theorem plc_ne (n : (plc h c S ds).Nodup) (hp : p ∈ ds) : (h ∉ p.2.own ∧ c ∉ p.2.own ∧ S ∉ p.2.own) ∧ h ≠ S ∧ c ≠ S := by
  unfold plc at n
  have n1 := List.nodup_cons.mp n
  have n2 := List.nodup_cons.mp n1.2
  have n3 := List.nodup_cons.mp n2.2
  have m : ∀ a ∈ p.2.own, a ∈ ds.flatMap fun p => p.2.own := fun a ha => List.mem_flatMap.mpr ⟨p, hp, ha⟩
  exact ⟨⟨fun z => n1.1 (List.mem_cons_of_mem _ (List.mem_cons_of_mem _ (m _ z))), fun z => n2.1 (List.mem_cons_of_mem _ (m _ z)), fun z => n3.1 (m _ z)⟩, fun z => n1.1 (by rw [z]; exact List.mem_cons_of_mem _ List.mem_cons_self), fun z => n2.1 (by rw [z]; exact List.mem_cons_self)⟩
theorem SidesAt.keepN (i : SidesAt K T H h c S ds) (k : ∀ b o, H b = some o → (∀ ps, o ≠ .tbl ps) → H' b = some o) (t : LamX.Tabs T H') : SidesAt K T H' h c S ds := by
  obtain ⟨⟨m, kk, xs, g1, g2, g3⟩, _, h3, h4, h5⟩ := i
  exact ⟨⟨m, kk, xs, k _ _ g1 (fun _ z => by cases z), k _ _ g2 (fun _ z => by cases z), g3⟩, t, k _ _ h3 (fun _ z => by cases z), h4, fun p hp => by
    obtain ⟨z1, lc, mv, z2⟩ := h5 p hp
    exact ⟨k _ _ z1 (fun _ z => by cases z), lc, mv, z2.keepN k⟩⟩
theorem SidesAt.same (i : SidesAt K T H h c S ds) (s : Same H H') : SidesAt K T H' h c S ds := i.keepN (fun b o e _ => s b o e) (tabs_same i.tabs s)
theorem SidesAt.extN (i : SidesAt K T H h c S ds) (s : LamX.ExtN H H') (t : LamX.Tabs T H') : SidesAt K T H' h c S ds := i.keepN (fun b o e n => s b o e n) t
theorem SidesAt.nS (i : SidesAt K T H h c S ds) : h ≠ S ∧ c ≠ S := by
  have n := i.nd
  unfold plc at n
  have n1 := List.nodup_cons.mp n
  have n2 := List.nodup_cons.mp n1.2
  exact ⟨fun z => n1.1 (by rw [z]; exact List.mem_cons_of_mem _ List.mem_cons_self), fun z => n2.1 (by rw [z]; exact List.mem_cons_self)⟩
theorem SidesAt.but (i : SidesAt K T H h c S ds) (b : But h c H H') (d : Dr H' h c) : SidesAt K T H' h c S ds := by
  have kp := Kp.but b i.dr.soft.1 i.dr.soft.2
  refine ⟨d, kp.tabs i.tabs, b _ _ i.nS.1.symm i.nS.2.symm i.eS, i.nd, fun p hp => ?_⟩
  obtain ⟨z1, lc, mv, z2⟩ := i.sd p hp
  have n := plc_ne i.nd hp
  exact ⟨kp.keep _ _ z1, lc, mv, z2.but (by unfold plc; exact List.mem_cons_self) (by unfold plc; exact List.mem_cons_of_mem _ List.mem_cons_self) n.1.1 n.1.2.1 b kp⟩
/-- one side changes -/
theorem SidesAt.put (i : SidesAt K T H h c S ds) (hp : p ∈ ds) (b : ButW p.2.own H H') (k : Kp H H') {lc : List (Option Cnt)} {mv : Int} (s : SdAt K H' (plc h c S ds) p.2 lc mv) (one : ∀ q ∈ ds, q ≠ p → ∀ a ∈ p.2.own, a ∉ q.2.own) : SidesAt K T H' h c S ds := by
  have n := plc_ne i.nd hp
  obtain ⟨m, kk, xs, g1, g2, g3⟩ := i.dr
  refine ⟨⟨m, kk, xs, b _ _ n.1.1 g1, b _ _ n.1.2.1 g2, g3⟩, k.tabs i.tabs, b _ _ n.1.2.2 i.eS, i.nd, fun q hq => ?_⟩
  obtain ⟨z1, lc', mv', z2⟩ := i.sd q hq
  refine ⟨k.keep _ _ z1, ?_⟩
  by_cases e : q = p
  · subst e
    exact ⟨_, _, s⟩
  · exact ⟨lc', mv', z2.butL (plc_own hp) (one q hq e) b k⟩
theorem plc_one (n : (plc h c S ds).Nodup) (hp : p ∈ ds) : ∀ q ∈ ds, q ≠ p → ∀ a ∈ p.2.own, a ∉ q.2.own := fun q hq ne a ha hb => by
  unfold plc at n
  have n3 := (List.nodup_cons.mp (List.nodup_cons.mp (List.nodup_cons.mp n).2).2).2
  unfold List.Nodup at n3
  rw [List.pairwise_flatMap] at n3
  have pw := n3.2
  obtain ⟨j, hj⟩ := List.mem_iff_getElem?.mp hp
  obtain ⟨k, hk⟩ := List.mem_iff_getElem?.mp hq
  obtain ⟨lj, ej⟩ := List.getElem?_eq_some_iff.mp hj
  obtain ⟨lk, ek⟩ := List.getElem?_eq_some_iff.mp hk
  rcases Nat.lt_trichotomy j k with lt | eq | gt
  · have z := List.pairwise_iff_getElem.mp pw j k lj lk lt
    rw [ej, ek] at z
    exact z a ha a hb rfl
  · subst eq
    exact ne (Option.some.inj (hk.symm.trans hj))
  · have z := List.pairwise_iff_getElem.mp pw k j lk lj gt
    rw [ej, ek] at z
    exact z a hb a ha rfl
end
theorem cell_al {H : Hp} {d : Nat} : ∀ {v u : V} {c : Option Cnt}, CellAt H v c → CellAt H u c → Al H (d + 2) v u
  | _, _, none, rfl, rfl => .inl ⟨rfl, rfl⟩
  | _, _, some _, ⟨a, rfl, ha⟩, ⟨b, rfl, hb⟩ => .inr (.inr ⟨a, b, _, _, rfl, rfl, ha, hb, (by show 2 ≤ 9000; decide), Al.flat _ rfl⟩)
theorem cells_al {H : Hp} {d : Nat} : ∀ {us vs : List V} {lc : List (Option Cnt)}, Paired (CellAt H) us lc → Paired (CellAt H) vs lc → Paired (Al H (d + 2)) us vs
  | _, _, _, .nil, .nil => .nil
  | _, _, _, .cons h r, .cons h' r' => .cons (cell_al h h') (cells_al r r')
end Ov
/-! ### what traces cost -/
namespace Ov
open PySem PySem.Spec PyProof.Rows L2
def tstep (wys : List (List Nat)) (L : List Lay) (s : List (Option Cnt) × Nat) (f : Nat) : List (Option Cnt) × Nat := (brgs s.1 L (mis s.1 L (wys[f]?.getD [])), s.2 + siz L (mis s.1 L (wys[f]?.getD [])))
def tsum (wys : List (List Nat)) (L : List Lay) (s : List (Option Cnt) × Nat) (ns : List Nat) : List (Option Cnt) × Nat := ns.foldl (tstep wys L) s
theorem tsum_snoc (wys : List (List Nat)) (L : List Lay) (s : List (Option Cnt) × Nat) (ns : List Nat) (f : Nat) : tsum wys L s (ns ++ [f]) = tstep wys L (tsum wys L s ns) f := by
  unfold tsum
  rw [List.foldl_append]
  rfl
def costT (wys : List (List Nat)) (L : List Lay) (n : Nat) (ns : List Nat) : Nat := (tsum wys L (List.replicate n none, 0) ns).2
/-- two halls that lie alike as far as the tree goes -/
def Agr (far : Nat) (l1 l2 : List (Option Cnt)) : Prop := ∀ c, c < far → l1[c]? = l2[c]?
theorem has_agr {far : Nat} {l1 l2 : List (Option Cnt)} (a : Agr far l1 l2) {l : Lay} (lt : ∀ e ∈ l, e.1 < far) : Has l1 l = Has l2 l := by
  rw [Bool.eq_iff_iff, has_iff, has_iff]
  exact ⟨fun h e he => by rw [← a e.1 (lt e he)]; exact h e he, fun h e he => by rw [a e.1 (lt e he)]; exact h e he⟩
theorem mis_agr {wys : List (List Nat)} {L : List Lay} {far : Nat} (ok : HlOk wys L far) {l1 l2 : List (Option Cnt)} (a : Agr far l1 l2) (w : List Nat) : mis l1 L w = mis l2 L w := by
  unfold mis
  refine List.filter_congr fun q _ => ?_
  rw [has_agr a (ok.lt q)]
theorem brg_agr {far : Nat} : ∀ (l : Lay) {l1 l2 : List (Option Cnt)}, Agr far l1 l2 → far ≤ l1.length → far ≤ l2.length → Agr far (brg l1 l) (brg l2 l)
  | [], _, _, a, _, _ => a
  | e :: l, l1, l2, a, h1, h2 => by
    show Agr far (brg (l1.set e.1 (some e.2)) l) (brg (l2.set e.1 (some e.2)) l)
    refine brg_agr l (fun c hc => ?_) (by rw [List.length_set]; exact h1) (by rw [List.length_set]; exact h2)
    by_cases z : e.1 = c
    · subst z
      rw [List.getElem?_set_self (by omega), List.getElem?_set_self (by omega)]
    · rw [List.getElem?_set_ne z, List.getElem?_set_ne z]
      exact a c hc
theorem brgs_agr {far : Nat} {L : List Lay} : ∀ (ms : List Nat) {l1 l2 : List (Option Cnt)}, Agr far l1 l2 → far ≤ l1.length → far ≤ l2.length → Agr far (brgs l1 L ms) (brgs l2 L ms)
  | [], _, _, a, _, _ => a
  | q :: ms, l1, l2, a, h1, h2 => by
    show Agr far (brgs (brg l1 (lyr L q)) L ms) (brgs (brg l2 (lyr L q)) L ms)
    exact brgs_agr ms (brg_agr _ a h1 h2) (by rw [brg_len]; exact h1) (by rw [brg_len]; exact h2)
theorem tsum_agr {wys : List (List Nat)} {L : List Lay} {far : Nat} (ok : HlOk wys L far) : ∀ (ns : List Nat) {l1 l2 : List (Option Cnt)} {n : Nat}, Agr far l1 l2 → far ≤ l1.length → far ≤ l2.length → (tsum wys L (l1, n) ns).2 = (tsum wys L (l2, n) ns).2
  | [], _, _, _, _, _, _ => rfl
  | f :: ns, l1, l2, n, a, h1, h2 => by
    show (tsum wys L (tstep wys L (l1, n) f) ns).2 = (tsum wys L (tstep wys L (l2, n) f) ns).2
    unfold tstep
    rw [mis_agr ok a]
    exact tsum_agr ok ns (brgs_agr _ a h1 h2) (by rw [brgs_len]; exact h1) (by rw [brgs_len]; exact h2)
theorem rep_agr {far n m : Nat} (hn : far ≤ n) (hm : far ≤ m) : Agr far (List.replicate n none) (List.replicate m none) := fun c hc => by
  rw [List.getElem?_replicate, List.getElem?_replicate, if_pos (by omega), if_pos (by omega)]
theorem costT_any {wys : List (List Nat)} {L : List Lay} {far : Nat} (ok : HlOk wys L far) {n m : Nat} (hn : far ≤ n) (hm : far ≤ m) (ns : List Nat) : costT wys L n ns = costT wys L m ns :=
  tsum_agr ok ns (rep_agr hn hm) (by rw [List.length_replicate]; exact hn) (by rw [List.length_replicate]; exact hm)
/-- whether these are functions that there are -/
theorem sm20 (n : Nat) (h : n ≤ 20000) : n < sizeLine := Nat.lt_of_le_of_lt h (by decide)
def goodT (n : Nat) (ns : List Int) : Bool := !ns.isEmpty && ns.all fun z => decide (0 ≤ z ∧ z ≤ (n : Int) - 1)
def spCheckTrace (K : PySem.W.Frag) : Sp := fun vs H Q E => ∃ (pa b : Addr) (vp : List V) (ns : List Int), vs = [.ref pa, .ref b] ∧ H pa = some (.tup vp) ∧ vp.length ≤ 8 ∧ H b = some (.lst (ns.map V.int)) ∧ ns.length ≤ 20000 ∧ (goodT vp.length ns = true → ∀ H', Same H H' → Q .non H') ∧ (goodT vp.length ns = false → OutC K "BadTrace" H E)
def spCheckTraceG : Sp := fun vs H Q _ => ∃ (pa b : Addr) (vp : List V) (ns : List Int), vs = [.ref pa, .ref b] ∧ H pa = some (.tup vp) ∧ vp.length ≤ 8 ∧ H b = some (.lst (ns.map V.int)) ∧ ns.length ≤ 20000 ∧ goodT vp.length ns = true ∧ ∀ H', Same H H' → Q .non H'
theorem goodT_nat {n : Nat} {ns : List Nat} (h0 : ns ≠ []) (h : ∀ x ∈ ns, x < n) : goodT n (ns.map fun (x : Nat) => (x : Int)) = true := by
  unfold goodT
  rw [Bool.and_eq_true]
  refine ⟨?_, ?_⟩
  · cases ns with
    | nil => exact absurd rfl h0
    | cons a r => rfl
  · rw [List.all_map, List.all_eq_true]
    intro x hx
    have := h x hx
    show decide ((0 : Int) ≤ (x : Int) ∧ (x : Int) ≤ (n : Int) - 1) = true
    exact decide_eq_true (by omega)
theorem goodT_bad {n : Nat} {ns : List Int} {z : Int} (hz : z ∈ ns) (h : z < 0 ∨ (n : Int) ≤ z) : goodT n ns = false := by
  unfold goodT
  rw [Bool.and_eq_false_iff]
  right
  cases e : ns.all fun z => decide (0 ≤ z ∧ z ≤ (n : Int) - 1) with
  | false => rfl
  | true =>
    have := List.all_eq_true.mp e z hz
    have := of_decide_eq_true this
    omega
def spBroughtBy : Sp := fun vs H Q _ => ∃ v t pr ps st dn, ∃ (b : Addr) (ns : List Nat), vs = [v, t, .ref b] ∧ preT H v t pr ps st ∧ Dn pr.length ps st dn ∧ H b = some (.lst (nV ns)) ∧ (∀ x ∈ ns, x < pr.length) ∧ ∀ H' cs far, Same H H' → Cells pr ps dn cs → Far pr ps dn far → HlOk (waysF pr.length ps dn) (laysF pr cs ps) far.toNat → Q (.int (costT (waysF pr.length ps dn) (laysF pr cs ps) 64 ns : Nat)) H'
def spCost : Sp := fun vs H Q _ => ∃ v t pr ps st dn, ∃ (b : Addr) (ns : List Nat), vs = [v, t, .ref b] ∧ preT H v t pr ps st ∧ Dn pr.length ps st dn ∧ H b = some (.lst (nV ns)) ∧ ns ≠ [] ∧ ns.length ≤ 20000 ∧ (∀ x ∈ ns, x < pr.length) ∧ ∀ H' cs far, Same H H' → Cells pr ps dn cs → Far pr ps dn far → HlOk (waysF pr.length ps dn) (laysF pr cs ps) far.toNat → Q (.int (costT (waysF pr.length ps dn) (laysF pr cs ps) 64 ns : Nat)) H'
def spCostX (K : PySem.W.Frag) : Sp := fun vs H _ E => ∃ v t pr ps st, ∃ (b : Addr) (ns : List Int), vs = [v, t, .ref b] ∧ preT H v t pr ps st ∧ H b = some (.lst (ns.map V.int)) ∧ ns.length ≤ 20000 ∧ goodT pr.length ns = false ∧ OutC K "BadTrace" H E
def spCheapestX (K : PySem.W.Frag) : Sp := fun vs H _ E => ∃ v pr, ∃ (z : Int) (b : Addr) (ns : List Int), vs = [v, .int z, .ref b] ∧ PrAt H v pr ∧ PrOk pr ∧ H b = some (.lst (ns.map V.int)) ∧ ns.length ≤ 20000 ∧ Small9 z ∧ (5 < pr.length ∨ (z < 1 ∨ 64 < z) ∨ goodT pr.length ns = false) ∧
  (5 < pr.length → OutC K "TooMany" H E) ∧ (pr.length ≤ 5 → (z < 1 ∨ 64 < z) → OutC K "BadRoom" H E) ∧ (pr.length ≤ 5 → 1 ≤ z → z ≤ 64 → goodT pr.length ns = false → OutC K "BadTrace" H E)
theorem cutI (bs : List Int) (a b : Nat) (h : a ≤ b) : cutV (bs.map V.int) (some (a : Int)) (some (b : Int)) = ((bs.drop a).take (b - a)).map V.int := by
  unfold cutV
  rw [HT.sIx_nat, HT.sIx_nat, List.length_map, List.map_take, List.map_drop]
  by_cases h1 : a ≤ bs.length
  · rw [Nat.min_eq_left h1]
    by_cases h2 : b ≤ bs.length
    · rw [Nat.min_eq_left h2]
    · rw [Nat.min_eq_right (by omega), List.take_of_length_le (by rw [List.length_drop, List.length_map]; omega), List.take_of_length_le (by rw [List.length_drop, List.length_map]; omega)]
  · rw [Nat.min_eq_right (by omega), List.drop_of_length_le (by rw [List.length_map]; omega), List.drop_of_length_le (by rw [List.length_map]; omega), List.take_nil, List.take_nil]
section
open LamX
theorem gives_or {X : Cx} {Ng : List Str} {x : Str} {sg : Scope} {g : Addr} {cdg : Value} {bg : List Stmt} {a : Str} {q : Str} {TA TB : (XK → Hp → VK → Prop) → Hp → VK → Prop} (ha : GivesTo X Ng x sg g cdg bg a q TA) (hb : GivesTo X Ng x sg g cdg bg a q TB) : GivesTo X Ng x sg g cdg bg a q (fun tl H Q => TA tl H Q ∨ TB tl H Q) := fun f c' s H Q tl act hc h => by
  rcases h with h | h
  · exact ha f c' s H Q tl act hc h
  · exact hb f c' s H Q tl act hc h
end
end Ov
namespace Ov
open PySem PySem.Spec PyProof.Rows L2
/-- there is a farthest end -/
theorem far_ex {pr : List (Int × W)} (ok : PrOk pr) {ps : List (List Nat)} {st : List Int} {dn : Nat → List Nat} (ht : TrOk pr.length ps st) : ∃ m, Far pr ps dn m := by
  have h0 := ht.p.pos (by have := ok.l1; omega)
  have key : ∀ (n : Nat), n ≤ ps.length → 0 < n → ∃ m, (∃ i p, i < n ∧ ps[i]? = some p ∧ m = bgn pr ps dn i + psz pr p) ∧ ∀ i p, i < n → ps[i]? = some p → bgn pr ps dn i + psz pr p ≤ m := by
    intro n
    induction n with
    | zero => intro _ h; omega
    | succ n ih =>
      intro hn _
      obtain ⟨p, hp⟩ : ∃ p, ps[n]? = some p := ⟨_, List.getElem?_eq_getElem (by omega)⟩
      by_cases h : n = 0
      · subst h
        exact ⟨_, ⟨0, p, by omega, hp, rfl⟩, fun i q hi hq => by
          obtain rfl : i = 0 := by omega
          obtain rfl := Option.some.inj (hp.symm.trans hq)
          exact Int.le_refl _⟩
      · obtain ⟨m, ⟨i, q, hi, hq, e⟩, hm⟩ := ih (by omega) (by omega)
        by_cases c : bgn pr ps dn n + psz pr p ≤ m
        · refine ⟨m, ⟨i, q, by omega, hq, e⟩, fun j r hj hr => ?_⟩
          by_cases ej : j = n
          · subst ej
            obtain rfl := Option.some.inj (hp.symm.trans hr)
            exact c
          · exact hm j r (by omega) hr
        · refine ⟨_, ⟨n, p, by omega, hp, rfl⟩, fun j r hj hr => ?_⟩
          by_cases ej : j = n
          · subst ej
            obtain rfl := Option.some.inj (hp.symm.trans hr)
            exact Int.le_refl _
          · have := hm j r (by omega) hr
            omega
  obtain ⟨m, ⟨i, p, _, hp, e⟩, h⟩ := key ps.length (Nat.le_refl _) h0
  exact ⟨m, ⟨i, p, hp, e⟩, fun j q hq => h j q (List.getElem?_eq_some_iff.mp hq).1 hq⟩
end Ov
namespace Ov
open PySem PySem.Spec PyProof.Rows L2
/-- there are cells -/
theorem cells_ex {pr : List (Int × W)} {ps : List (List Nat)} (hp : PInv pr.length ps) {dn : Nat → List Nat} : ∃ cs, Cells pr ps dn cs := by
  have key : ∀ f, ∃ z : Int, f < pr.length → ∀ i p j, ps[i]? = some p → p[j]? = some f → z = bgn pr ps dn i + psz pr (p.take j) := fun f => by
    by_cases h : f < pr.length
    · obtain ⟨i, p, j, e1, e2⟩ := hp.stands h
      refine ⟨bgn pr ps dn i + psz pr (p.take j), fun _ i' p' j' d1 d2 => ?_⟩
      obtain ⟨rfl, rfl⟩ := hp.uniq e1 e2 d1 d2
      obtain rfl := Option.some.inj (e1.symm.trans d1)
      rfl
    · exact ⟨0, fun z => absurd z h⟩
  refine ⟨(List.range pr.length).map fun f => (key f).choose, by rw [List.length_map, List.length_range], fun i p j f d1 d2 => ?_⟩
  have hf := hp.lt (List.mem_of_getElem? d1) (List.mem_of_getElem? d2)
  rw [List.getElem?_map, List.getElem?_range hf]
  exact congrArg some ((key f).choose_spec hf i p j d1 d2)
end Ov
/-! ### a tuple times an int, one too (then it is the tuple itself) -/
namespace Ov
open PySem PySem.Spec PyProof.Rows L2
theorem tuple_mul1 (l : Addr) (items : Array Value) (n : Nat) (dd : Option Addr) (sl : Array (Option Value)) (u : Tok) :
    Meets (Builtin.«tuple.__mul__» ⟨[.ref l, .int 1 u], []⟩) (fun _ R s => s.heap.get? l = some { cls := .type "tuple", dict := dd, data := .seq items n, slots := sl } ∧
      R (.ok (.ret (Value.ref l))) s) :=
  .of_wp fun prog w A R s h => by
    obtain ⟨hp, g, d, tk, os⟩ := s
    obtain ⟨hl, h⟩ := h
    have f1 := AutoSeq1.idx_int
    have c1 : (items.isEmpty || (1 : Int) == 1) = true := by rw [Bool.or_eq_true]; exact .inr rfl
    wp_walk using wpAny_loadPart' hl
    repeat (first
      | (refine wpAny_ite_false (decide_eq_false (by decide)) ?_; wp_walk using wpAny_loadPart' hl)
      | (refine wpAny_ite_true (decide_eq_true (by rw [c1])) ?_; wp_walk using wpAny_loadPart' hl))
    exact ⟨_, rfl, h⟩
def rRepTA (K : PySem.W.Frag) : R2 := fun x y H Q => L2.rRepT K x y H Q ∨ ∃ l xs, x = .ref l ∧ y = .int 1 ∧ SqT K H l xs ∧ Q (.ref l) H
theorem op_repTA {X : Cx} : OpR X (binaryOp .Mult) (rRepTA X.K) := by
  intro pins s σ H x y v u Q I rx ry h
  rcases h with h | ⟨l, xs, rfl, rfl, hT, q⟩
  · exact op_repT pins s σ H x y v u Q I rx ry h
  cases rx
  obtain ⟨t, rfl⟩ := ry
  obtain ⟨its, r, ⟨⟨cls, dd, data, sl⟩, ho, hc, n, hd⟩, hs⟩ := I.tuple hT
  simp only at hc hd
  subst hc hd
  refine wpAny_binaryOp_repeat_ref (T := "tuple") (U := "int") (by decide) ⟨_, ho, rfl⟩ (fun s' => typeIs_int s' 1 t) noFill_tuple_mul F.fills_int_mul F.slot_int_rmul repeat_tuple F.slot_int_index.lookup
    (call_meets F.slot_int_rmul (typeIs_int s 1 t) F.entry_int_rmul (F.args_int_rmul_2 _ _) (int_rmul_tuple 1 t l its.toArray n dd sl)
      ⟨ho, rfl, ⟨_, ho, rfl⟩, call_meets F.slot_tuple_mul ⟨_, ho, rfl⟩ F.entry_tuple_mul (F.args_tuple_mul_2 _ _) (tuple_mul1 l its.toArray n dd sl t) ⟨ho, ?_⟩⟩)
  exact ⟨.ref l, H, I, rfl, q⟩
theorem repTA_by {K : PySem.W.Frag} {m1 : Addr} {n : Nat} {H : Hp} {Q : VK} (e : SqT K H m1 [.int (-1)]) (h1 : 1 ≤ n) (h : n ≤ 1000) (q : ∀ H' p, Same H H' → H' p = some (.tup ((List.replicate n (-1 : Int)).map V.int)) → Q (.ref p) H') (he : H m1 = some (.tup [.int (-1)])) : rRepTA K (.ref m1) (.int (n : Int)) H Q := by
  by_cases c : n = 1
  · subst c
    exact .inr ⟨m1, _, rfl, rfl, e, q H m1 (fun _ _ z => z) he⟩
  · refine .inl ⟨m1, (n : Int), _, rfl, rfl, e, (fun z => nomatch z), by omega, by omega, (by decide), fun p hp => q _ p (fun b o z => by rw [upd_ne (fun y => by rw [y, hp] at z; cases z)]; exact z) ?_⟩
    rw [upd_same, Int.toNat_natCast, List.flatten_replicate_singleton, List.map_replicate]
end Ov
/-! ### a tuple times an int, none too -/
namespace Ov
open PySem PySem.Spec PyProof.Rows L2
theorem tuple_mul0 (l : Addr) (items : Array Value) (n : Nat) (dd : Option Addr) (sl : Array (Option Value)) (u : Tok) (hi : items.isEmpty = false) :
    Meets (Builtin.«tuple.__mul__» ⟨[.ref l, .int 0 u], []⟩) (fun _ R s => s.heap.get? l = some { cls := .type "tuple", dict := dd, data := .seq items n, slots := sl } ∧
      R (.ok (.ret (Value.ref s.heap.objs.size))) { s with heap := s.heap.push { cls := Value.type "tuple", data := Data.seq #[] }, toks := s.toks }) :=
  .of_wp fun prog w A R s h => by
    obtain ⟨hp, g, d, tk, os⟩ := s
    obtain ⟨hl, h⟩ := h
    have f1 := AutoSeq1.idx_int
    have c1 : (items.isEmpty || (0 : Int) == 1) = false := by rw [hi]; rfl
    wp_walk using wpAny_loadPart' hl
    repeat (first
      | (refine wpAny_ite_false (decide_eq_false (by decide)) ?_; wp_walk using wpAny_loadPart' hl)
      | (refine wpAny_ite_false (decide_eq_false (by rw [c1]; exact Bool.false_ne_true)) ?_; wp_walk using wpAny_loadPart' hl)
      | (refine wpAny_ite_true (decide_eq_true (by rfl)) ?_; wp_walk using wpAny_loadPart' hl))
    exact ⟨_, rfl, h⟩
def rRepTZ (K : PySem.W.Frag) : R2 := fun x y H Q => rRepTA K x y H Q ∨ ∃ l xs, x = .ref l ∧ y = .int 0 ∧ SqT K H l xs ∧ xs ≠ [] ∧ ∀ p, H p = none → Q (.ref p) (upd H p (.tup []))
theorem op_repTZ {X : Cx} : OpR X (binaryOp .Mult) (rRepTZ X.K) := by
  intro pins s σ H x y v u Q I rx ry h
  rcases h with h | ⟨l, xs, rfl, rfl, hT, hne, q⟩
  · exact op_repTA pins s σ H x y v u Q I rx ry h
  cases rx
  obtain ⟨t, rfl⟩ := ry
  obtain ⟨its, r, ⟨⟨cls, dd, data, sl⟩, ho, hc, n, hd⟩, hs⟩ := I.tuple hT
  simp only at hc hd
  subst hc hd
  have hi : its.toArray.isEmpty = false := by
    cases its with
    | nil =>
      cases r
      exact absurd rfl hne
    | cons a b => rfl
  refine wpAny_binaryOp_repeat_ref (T := "tuple") (U := "int") (by decide) ⟨_, ho, rfl⟩ (fun s' => typeIs_int s' 0 t) noFill_tuple_mul F.fills_int_mul F.slot_int_rmul repeat_tuple F.slot_int_index.lookup
    (call_meets F.slot_int_rmul (typeIs_int s 0 t) F.entry_int_rmul (F.args_int_rmul_2 _ _) (int_rmul_tuple 0 t l its.toArray n dd sl)
      ⟨ho, rfl, ⟨_, ho, rfl⟩, call_meets F.slot_tuple_mul ⟨_, ho, rfl⟩ F.entry_tuple_mul (F.args_tuple_mul_2 _ _) (tuple_mul0 l its.toArray n dd sl t hi) ⟨ho, ?_⟩⟩)
  exact ⟨.ref s.heap.objs.size, _, I.laid (t' := s.toks) (o := .tup []) (fun b ob e => Heap.get?_push_of_some _ e) (Nat.le_refl _) ⟨sml 0, [], .nil, IsTup.new _ _⟩, rfl, q _ (I.hok.fresh (Nat.le_refl _))⟩
end Ov
/-! ### set(xs) of a list of ints, as a set that can be walked -/
namespace Ov
open PySem PySem.Spec PyProof.Rows L2
abbrev newSet (w : World) : Obj := { cls := .type "set", dict := none, data := .set #[] 0 (.fresh 0 0 (!w.params.followText "set-order")) }
abbrev hSet (w : World) (h : Heap) : Heap := h.push (newSet w)
section
variable {P : Program} {w : World} {A : Around} {E : Value → Shared → Prop} {s : Shared}
theorem hSet_at (h : Heap) : (hSet w h).get? h.objs.size = some (newSet w) := Heap.get?_push_size _ rfl
theorem hSet_old {h : Heap} {b : Addr} {o : Obj} (e : h.get? b = some o) : (hSet w h).get? b = some o := Heap.get?_push_of_some _ e
/-- what set.__init__ leaves -/
def SetDone (w : World) (s : Shared) (ns : List Int) (E : Value → Shared → Prop) : Result → Shared → Prop :=
  wants (fun r z => r = .none ∧ ∃ (h' : Heap) (tk c : Nat), z = { s with heap := h', toks := tk } ∧ SetR w h' s.heap.objs.size (fun j => decide (j ∈ ns)) c ∧ c ≤ ns.length ∧ ∀ b o, s.heap.get? b = some o → h'.get? b = some o) E
set_option maxHeartbeats 3200000 in
theorem set_init_list {l : Addr} {items : Array Value} {ns : List Int} (hh : A.handled = none) (hl : s.heap.IsList l items) (hit : IntsAre items.toList ns) (hb : ns.length + 1 < scanBound) :
    codeAny (model P w) A (.call (.builtin "set.__init__") ⟨[.ref s.heap.objs.size, .ref l], []⟩) (SetDone w s ns E) { s with heap := hSet w s.heap } := by
  have len : items.size = ns.length := by
    rw [← Array.length_toList]
    exact IntsAre.length hit
  have tyS : Shared.TypeIs { s with heap := hSet w s.heap } (.ref s.heap.objs.size) "set" := ⟨_, hSet_at s.heap, rfl⟩
  refine codeAny_call_builtin F.called_set.init.plain F.entry_set_init (check_set_init_1 tyS ?_)
  rcases hl with ⟨⟨lc, ld, lt, ls⟩, lo, lcl, nl, ldt⟩
  simp only at lcl ldt
  subst lcl ldt
  have lo2 := hSet_old (w := w) lo
  have isL : (hSet w s.heap).IsList l items := ⟨_, lo2, rfl, nl, rfl⟩
  have k1 := F.sub_list_set
  have k2 := F.sub_list_frozenset
  have k3 : (Value.type "list" == Value.type "dict") = false := by decide
  unfold Builtin.«set.__init__» noKeywords Builtin.Frozenset.updateFrom
  generalize hPI : pyIter = PI
  wp_walk
  subst hPI
  refine wpAny_pyIter_list isL (wpAny_bind (wpAny_runValue ?_))
  have ll : l < s.heap.objs.size := Heap.lt_size lo
  have sz : (hSet w s.heap).objs.size = s.heap.objs.size + 1 := Heap.size_push ..
  have hne : l ≠ (hSet w s.heap).objs.size := by
    rw [sz]
    exact Nat.ne_of_lt (Nat.lt_succ_of_lt ll)
  refine set_update_ints ((Walks.list ?hh _ l hne items).toS) s.heap.objs.size (fun z => ?_) ns len hb (fun i v hv => ?_) (items.size - 0) 0 _ (by omega) (Nat.zero_le _) ⟨⟨_, Heap.get?_push_size _ rfl, rfl, rfl⟩, isL.push _⟩ ⟨0, Nat.le_refl 0, setR_new_at (Heap.get?_push_of_some _ (hSet_at s.heap))⟩ ?_
  case hh => simp [hh]
  · rcases List.mem_cons.mp z with z | z
    · rw [sz] at z
      exact Nat.ne_of_lt (Nat.lt_succ_self _) z
    · exact Nat.ne_of_gt ll (List.mem_singleton.mp z)
  · have hi : i < ns.length := by
      rw [← len]
      exact (Array.getElem?_eq_some_iff.mp hv).1
    obtain ⟨t, e⟩ := PyProof.Rows.IntsAre.int_at hit i v (by rw [Array.getElem?_toList]; exact hv)
    refine ⟨ns[i], t, List.getElem?_eq_getElem hi, ?_⟩
    rw [e, List.getD_eq_getElem?_getD, List.getElem?_eq_getElem hi] <;> rfl
  · rintro ⟨h', g', d', tk', os'⟩ c' mv le R
    obtain rfl : g' = s.gens := mv.gens
    obtain rfl : d' = s.drawn := mv.drawn
    obtain rfl : os' = s.os := mv.os
    show wpAny _ _ _ _ _ _
    refine wpAny_pure ?_
    show wpAny _ _ (ret Value.none) _ _ _
    refine wpAny_pure ⟨rfl, h', tk', c', rfl, R, by omega, fun b o e => ?_⟩
    have lb : b < s.heap.objs.size := Heap.lt_size e
    refine mv.heap b o (fun z => ?_) (Heap.get?_push_of_some _ (hSet_old e))
    rcases List.mem_cons.mp z with z | z
    · exact Nat.ne_of_lt lb z
    · have z2 := List.mem_singleton.mp z
      rw [sz] at z2
      exact Nat.ne_of_lt (Nat.lt_succ_of_lt lb) z2
set_option maxHeartbeats 3200000 in
theorem call_set_listI {l : Addr} {items : Array Value} (ns : List Int) {Q : Value → Shared → Prop} (hh : A.handled = none) (hl : s.heap.IsList l items) (hit : IntsAre items.toList ns) (hb : ns.length + 1 < scanBound)
    (h : ∀ (h' : Heap) (tk c : Nat), SetR w h' s.heap.objs.size (fun j => decide (j ∈ ns)) c → c ≤ ns.length → (∀ b o, s.heap.get? b = some o → h'.get? b = some o) → Q (.ref s.heap.objs.size) { s with heap := h', toks := tk }) :
    wpAny (model P w) A (call (.type "set") [.ref l]) Q E s := by
  rcases F.called_set.mro with ⟨c, tl, hmro⟩
  have q1 := F.called_set.made
  have q2 := F.called_set.sub
  have q3 := F.called_set.notType
  have q4 := F.called_set.canCreate
  have q5 := F.typeCall_set_1 (.ref l)
  refine wpAny_call (codeAny_of_tree (show wpAny _ _ (callAny (.type "set") _) _ _ _ from ?_))
  refine wpAny_pure ⟨Code.quiet_builtin _ (by decide +kernel), codeAny_builtin F.entry_type_call ?_⟩
  rw [Around.under_plain (weight_type_call_type "set" [.ref l] []) rfl]
  repeat (any_goals (first | assumption | wp_step))
  refine codeAny_mono (code_set_led1 (.ref l) (E := E) (Q₁ := fun obj z => obj = .ref s.heap.objs.size ∧ z = { s with heap := hSet w s.heap }) ⟨rfl, rfl⟩) fun r z hr => ?_
  match r, hr with
  | .error e, hr => exact hr
  | .ok (.ret obj), hr =>
    obtain ⟨rfl, rfl⟩ := hr
    have tyS : Shared.TypeIs { s with heap := hSet w s.heap } (.ref s.heap.objs.size) "set" := ⟨_, hSet_at s.heap, rfl⟩
    have q6 := F.called_set.init.lookup
    have q7 := F.called_set.init.bind (.ref s.heap.objs.size)
    repeat (any_goals (first | assumption | wp_step))
    refine codeAny_mono (set_init_list (E := E) (by simp [hh]) hl hit hb) fun r2 z2 hr2 => ?_
    match r2, hr2 with
    | .error e, hr2 => exact hr2
    | .ok (.ret v), hr2 =>
      obtain ⟨rfl, h', tk, c', rfl, g1, g2, g3⟩ := hr2
      repeat (any_goals (first | assumption | wp_step))
      exact h _ _ _ g1 g2 g3
    | .ok .next, hr2 => exact hr2.elim
    | .ok .brk, hr2 => exact hr2.elim
    | .ok .cont, hr2 => exact hr2.elim
  | .ok .next, hr => exact hr.elim
  | .ok .brk, hr => exact hr.elim
  | .ok .cont, hr => exact hr.elim
end
/-- set(xs), xs a list of ints -/
def rSetL (K : PySem.W.Frag) (w : World) : List V → Hp → VK → Prop := fun xs H Q => ∃ (l : Addr) (ns : List Int), xs = [V.ref l] ∧ SqL K H l (ns.map V.int) ∧ ns.length ≤ 4000 ∧ ∀ (p : Addr) (us : List Int), H p = none → us.Nodup → (∀ j, j ∈ us ↔ j ∈ ns) → Q (.ref p) (upd H p (SetO w p (fun j => decide (j ∈ ns)) us.length))
theorem cr_setL {X : Cx} (hc : X.calm = true) : CallR X (.type "set") (rSetL X.K X.w) := by
  intro pins s σ H xs us Q I r h
  obtain ⟨l, ns, rfl, hl, hz, q⟩ := h
  rw [Vals.ref1 r]
  obtain ⟨its, rv, pl, _⟩ := I.list hl
  refine call_set_listI ns (I.ok.hd hc) pl.isList (by simpa using rv.ints) (by unfold scanBound; omega) fun h' tk c R le k => ?_
  obtain ⟨o, es, ep, tb, _, _, _, _, nd, hm, _, _, hn, _⟩ := id R
  have ec : (es.toList.map keyOf).length = c := by
    rw [List.length_map, Array.length_toList]
    exact hn
  have z := q s.heap.objs.size (es.toList.map keyOf) (I.hok.fresh (Nat.le_refl _)) nd fun j => (hm j).symm.trans decide_eq_true_iff
  rw [ec] at z
  exact ⟨.ref s.heap.objs.size, _, I.laid (t' := tk) k (Nat.le_refl _) (setO_new R), rfl, z⟩
end Ov
/-! ### sets of small ints: a new table laid for them -/
namespace Ov
open PySem PySem.Spec PyProof.Rows L2
section
/-- which of these stands at j -/
def posOf (hs : List Int) (j : Nat) : Option Nat := hs.findIdx? fun h => h == (j : Int)
theorem posOf_snoc {hs : List Int} {h : Int} {j : Nat} : posOf (hs ++ [h]) j = (posOf hs j).or (if h = (j : Int) then some hs.length else none) := by
  unfold posOf
  rw [List.findIdx?_append]
  congr 1
  by_cases e : h = (j : Int)
  · rw [if_pos e]
    simp [List.findIdx?_cons, e]
  · rw [if_neg e]
    simp [List.findIdx?_cons, e]
theorem posOf_none {hs : List Int} {j : Nat} (h : ∀ x ∈ hs, x ≠ (j : Int)) : posOf hs j = none := by
  unfold posOf
  rw [List.findIdx?_eq_none_iff]
  intro x hx
  rw [beq_eq_false_iff_ne]
  exact h x hx
theorem bits_small {h : Int} (h0 : 0 ≤ h) (h8 : h < 8) : SetTable.bits h = h.toNat := by
  unfold SetTable.bits
  rw [Int.emod_eq_of_lt h0 (by omega)]
theorem free_here {mask : Nat} {owner : Array (Option Nat)} {f i p : Nat} (ho : owner[i]? = some none) : SetTable.layClean.free mask owner (f + 1) i p = some i := by
  unfold SetTable.layClean.free
  have hr : ∃ n, SetTable.runEnd mask i + 1 - i = n + 1 := ⟨SetTable.runEnd mask i - i, by
    unfold SetTable.runEnd
    split <;> omega⟩
  obtain ⟨n, hn⟩ := hr
  rw [hn]
  have e : (List.range (n + 1)).find? (fun k => (owner.getD (i + k) (some 0)).isNone) = some 0 := List.find?_range_eq_some.mpr ⟨by
    rw [Nat.add_zero]
    have : owner.getD i (some 0) = none := by
      rw [Array.getD_eq_getD_getElem?, ho]
      rfl
    rw [this]
    rfl, List.mem_range.mpr (by omega), fun j h => by omega⟩
  rw [e]
  rfl
def layStep (mask : Nat) (acc : Option (Array (Option Nat) × Nat)) (h : Int) : Option (Array (Option Nat) × Nat) := do
  let (owner, k) ← acc
  let j ← SetTable.layClean.free mask owner (SetTable.turns mask) (SetTable.bits h % (mask + 1)) (SetTable.bits h)
  pure (owner.setIfInBounds j (some k), k + 1)
theorem layClean_eq (mask : Nat) (hs : List Int) : SetTable.layClean mask hs.toArray = (hs.foldl (layStep mask) (some (Array.replicate (mask + 1) none, 0))).map (·.1) := by
  unfold SetTable.layClean
  rw [List.foldl_toArray]
  rfl
theorem lay_fold {mask : Nat} (hm : 7 ≤ mask) : ∀ (ls pre : List Int) (owner : Array (Option Nat)), (∀ h ∈ pre ++ ls, 0 ≤ h ∧ h < 8) → (pre ++ ls).Nodup → owner.size = mask + 1 → (∀ j, j ≤ mask → owner[j]? = some (posOf pre j)) →
    ∃ o2 : Array (Option Nat), ls.foldl (layStep mask) (some (owner, pre.length)) = some (o2, (pre ++ ls).length) ∧ o2.size = mask + 1 ∧ ∀ j, j ≤ mask → o2[j]? = some (posOf (pre ++ ls) j)
  | [], pre, owner, _, _, hsz, ho => ⟨owner, by rw [List.append_nil]; rfl, hsz, by rw [List.append_nil]; exact ho⟩
  | h :: ls, pre, owner, hb, nd, hsz, ho => by
    have hh := hb h (by simp)
    have hb' : SetTable.bits h % (mask + 1) = h.toNat := by
      rw [bits_small hh.1 hh.2, Nat.mod_eq_of_lt (by omega)]
    have hn : ∀ x ∈ pre, x ≠ ((h.toNat : Nat) : Int) := fun x hx e => by
      rw [List.nodup_append] at nd
      exact nd.2.2 x hx h List.mem_cons_self (by omega)
    have hfree : owner[h.toNat]? = some none := by rw [ho _ (by omega), posOf_none hn]
    have st : layStep mask (some (owner, pre.length)) h = some (owner.setIfInBounds h.toNat (some pre.length), pre.length + 1) := by
      unfold layStep
      simp only [Option.bind_eq_bind, Option.bind_some]
      rw [hb', show SetTable.turns mask = (mask + 14) + 1 from rfl, free_here hfree]
      rfl
    rw [List.foldl_cons, st]
    have e1 : pre ++ h :: ls = (pre ++ [h]) ++ ls := by rw [List.append_assoc]; rfl
    have e2 : pre.length + 1 = (pre ++ [h]).length := by rw [List.length_append, List.length_singleton]
    rw [e1] at hb nd ⊢
    rw [e2]
    refine lay_fold hm ls (pre ++ [h]) _ hb nd (by rw [Array.size_setIfInBounds]; exact hsz) fun j hj => ?_
    rw [posOf_snoc]
    by_cases c : h.toNat = j
    · subst c
      rw [Array.getElem?_setIfInBounds_self_of_lt (by omega), posOf_none hn, if_pos (by omega)]
      rfl
    · rw [Array.getElem?_setIfInBounds_ne c, ho j hj, if_neg (by omega), Option.or_none]
theorem fm_congr {α β : Type} {f g : α → Option β} : ∀ {l : List α}, (∀ a ∈ l, f a = g a) → l.filterMap f = l.filterMap g
  | [], _ => rfl
  | a :: l, h => by
    have ih := fm_congr (l := l) fun b hb => h b (List.mem_cons_of_mem _ hb)
    rw [List.filterMap_cons, List.filterMap_cons, h a List.mem_cons_self, ih]
theorem range_get {α : Type} (l : List α) : (List.range l.length).filterMap (fun k => l[k]?) = l := by
  have key : ∀ k, k ≤ l.length → (List.range k).filterMap (fun k => l[k]?) = l.take k := by
    intro k
    induction k with
    | zero => intro _; simp
    | succ k ih =>
      intro hk
      rw [List.range_succ, List.filterMap_append, ih (by omega), List.take_add_one]
      congr 1
  rw [key _ (Nat.le_refl _), List.take_length]
theorem hash_small {k : Int} (h0 : 0 ≤ k) (h8 : k < 8) : hashInt k = k := by
  rcases (by omega : k = 0 ∨ k = 1 ∨ k = 2 ∨ k = 3 ∨ k = 4 ∨ k = 5 ∨ k = 6 ∨ k = 7) with rfl | rfl | rfl | rfl | rfl | rfl | rfl | rfl <;> decide +kernel
/-- an entry of a small int -/
def SmE (e : Int × Value) : Prop := GoodE e ∧ 0 ≤ keyOf e ∧ keyOf e < 8
theorem SmE.hash {e : Int × Value} (h : SmE e) : e.1 = keyOf e := by
  obtain ⟨⟨k, tk, h1, h2⟩, h3, h4⟩ := h
  unfold keyOf at h3 h4 ⊢
  rw [h1] at h3 h4 ⊢
  rw [h2]
  exact hash_small h3 h4
theorem posOf_some {hs : List Int} {j k : Nat} (nd : hs.Nodup) : posOf hs j = some k ↔ hs[k]? = some (j : Int) := by
  unfold posOf
  rw [List.findIdx?_eq_some_iff_getElem]
  constructor
  · rintro ⟨h, h1, _⟩
    rw [List.getElem?_eq_getElem h]
    rw [beq_iff_eq.mp h1]
  · intro h
    obtain ⟨hl, e⟩ := List.getElem?_eq_some_iff.mp h
    refine ⟨hl, beq_iff_eq.mpr e, fun i hi z => ?_⟩
    have e2 := beq_iff_eq.mp z
    have := (List.pairwise_iff_getElem.mp nd) i k (by omega) hl hi
    exact this (e2.trans e.symm)
theorem laid_ok {mask finger moves : Nat} {led plain : Bool} {es : Array (Int × Value)} (hm : 7 ≤ mask) (g : ∀ e ∈ es.toList, SmE e) (nd : (es.toList.map keyOf).Nodup) :
    ∃ t order, SetTable.laid mask finger moves led plain (es.map (·.1)) = some (t, order) ∧ ((order.filterMap (es[·]?)).toList).Perm es.toList ∧ Ris t.place.toList ∧ t.led = led ∧ t.place.size = es.size ∧ t.dummies = #[] ∧ t.mask = mask := by
  have ehs : (es.map (·.1)).toList = es.toList.map keyOf := by
    rw [Array.toList_map]
    exact List.map_congr_left fun e he => (g e he).hash
  have hsz : (es.toList.map keyOf).length = es.size := by rw [List.length_map, Array.length_toList]
  obtain ⟨o, h1, h2, h3⟩ := lay_fold hm (es.toList.map keyOf) [] (Array.replicate (mask + 1) none) (fun h hh => by
    obtain ⟨e, he, rfl⟩ := List.mem_map.mp hh
    exact (g e he).2) nd (by rw [Array.size_replicate]) (fun j hj => by rw [Array.getElem?_replicate, if_pos (by omega)]; rfl)
  have hc : SetTable.layClean mask (es.map (·.1)) = some o := by
    have := layClean_eq mask (es.map (·.1)).toList
    rw [Array.toArray_toList] at this
    rw [this, ehs]
    rw [List.length_nil] at h1
    rw [h1]
    rfl
  have hg : ∀ j ∈ List.range (mask + 1), ((o.getD j none).map fun k => (j, k)) = (posOf (es.toList.map keyOf) j).map fun k => (j, k) := fun j hj => by
    rw [Array.getD_eq_getD_getElem?, h3 j (by have := List.mem_range.mp hj; omega)]
    rfl
  have hp : ((List.range (mask + 1)).filterMap (posOf (es.toList.map keyOf))).Perm (List.range es.size) := by
    refine (List.perm_ext_iff_of_nodup ?_ List.nodup_range).mpr fun k => ?_
    · refine List.Pairwise.filterMap _ ?_ (List.nodup_range (n := mask + 1))
      intro i j ne b hb b' hb' e
      subst e
      have z1 := (posOf_some nd).mp hb
      have z2 := (posOf_some nd).mp hb'
      have := Option.some.inj (z1.symm.trans z2)
      exact ne (by omega)
    · rw [List.mem_filterMap, List.mem_range]
      constructor
      · rintro ⟨j, _, hj⟩
        have z := (List.getElem?_eq_some_iff.mp ((posOf_some nd).mp hj)).1
        rw [hsz] at z
        exact z
      · intro hk
        have hkl : k < (es.toList.map keyOf).length := by rw [hsz]; exact hk
        have b : 0 ≤ (es.toList.map keyOf)[k] ∧ (es.toList.map keyOf)[k] < 8 := by
          obtain ⟨e, he, e2⟩ := List.mem_map.mp (List.getElem_mem hkl)
          rw [← e2]
          exact (g e he).2
        refine ⟨(es.toList.map keyOf)[k].toNat, List.mem_range.mpr (by omega), (posOf_some nd).mpr ?_⟩
        rw [List.getElem?_eq_getElem hkl]
        exact congrArg some (by omega)
  have hlive : (List.range (mask + 1)).filterMap (fun j => (o.getD j none).map fun k => (j, k)) = (List.range (mask + 1)).filterMap fun j => (posOf (es.toList.map keyOf) j).map fun k => (j, k) := fm_congr hg
  have h2nd : ((List.range (mask + 1)).filterMap fun j => (posOf (es.toList.map keyOf) j).map fun k => (j, k)).map (·.2) = (List.range (mask + 1)).filterMap (posOf (es.toList.map keyOf)) := by
    rw [List.map_filterMap]
    refine fm_congr fun j _ => ?_
    rw [Option.map_map]
    cases posOf (es.toList.map keyOf) j <;> rfl
  have hlen : ((List.range (mask + 1)).filterMap fun j => (posOf (es.toList.map keyOf) j).map fun k => (j, k)).length = es.size := by
    have := congrArg List.length h2nd
    rw [List.length_map] at this
    rw [this, hp.length_eq, List.length_range]
  refine ⟨{ mask := mask, place := (((List.range (mask + 1)).filterMap fun j => (o.getD j none).map fun k => (j, k)).map (·.1)).toArray, dummies := #[], finger := finger, led := led, moves := moves, plain := plain }, (((List.range (mask + 1)).filterMap fun j => (o.getD j none).map fun k => (j, k)).map (·.2)).toArray, ?_, ?_, ?_, rfl, ?_, rfl, rfl⟩
  · unfold SetTable.laid
    rw [hc]
    rfl
  · rw [Array.toList_filterMap, hlive, h2nd]
    refine (hp.filterMap _).trans ?_
    have := range_get es.toList
    rw [Array.length_toList] at this
    have e : (List.range es.size).filterMap (fun x => es[x]?) = es.toList := by
      rw [← this]
      conv => rhs; rw [this]
      conv => rhs; rw [← this]
      refine fm_congr fun k _ => ?_
      rw [Array.getElem?_toList]
    rw [e]
  · exact (ris_live (fun j => o.getD j none) (List.range (mask + 1)) List.pairwise_lt_range).1
  · show (List.toArray _).size = _
    rw [List.size_toArray, List.length_map, hlive, hlen]
end
end Ov
/-! ### sets of small ints: one put into another -/
namespace Ov
open PySem PySem.Spec PyProof.Rows L2
section
variable {P : Program} {w : World} {A : Around} {E : Value → Shared → Prop} {s : Shared}
theorem smE_of {es : List (Int × Value)} {S : Int → Bool} (g : ∀ e ∈ es, GoodE e) (hm : ∀ k, S k = true ↔ k ∈ es.map keyOf) (b : ∀ k, S k = true → 0 ≤ k ∧ k < 8) : ∀ e ∈ es, SmE e := fun e he => ⟨g e he, b _ ((hm _).mpr (List.mem_map.mpr ⟨e, he, rfl⟩))⟩
theorem sizeAbove_ge (n : Nat) (h : n ≤ 32) : 7 ≤ SetTable.sizeAbove n - 1 ∧ n ≤ SetTable.sizeAbove n - 1 ∧ SetTable.sizeAbove n ≤ sizeLine := by
  have : ∀ m, m ≤ 32 → 7 ≤ SetTable.sizeAbove m - 1 ∧ m ≤ SetTable.sizeAbove m - 1 ∧ SetTable.sizeAbove m ≤ 64 := by decide +kernel
  obtain ⟨h1, h2, h3⟩ := this n h
  exact ⟨h1, h2, Nat.le_trans h3 (by decide)⟩
theorem wp_reordered {es : Array (Int × Value)} {laid : Option (SetTable × Array Nat)} {t : SetTable} {order : Array Nat} {Q : Array (Int × Value) × SetTable → Shared → Prop} (e : laid = some (t, order)) (pm : ((order.filterMap (es[·]?)).toList).Perm es.toList) (h : Q (order.filterMap (es[·]?), t) s) :
    wpAny (model P w) A (do
      let some (t, order) := laid | unsupported "internal:set-table-without-room"
      let es' := order.filterMap (es[·]?)
      if es'.size != es.size then unsupported "internal:set-table-lost-an-element"
      pure (es', t)) Q E s := by
  subst e
  have hs : (order.filterMap (es[·]?)).size = es.size := by rw [← Array.length_toList, pm.length_eq, Array.length_toList]
  dsimp only
  rw [if_neg (by rw [hs]; simp)]
  exact wpAny_bind (wpAny_pure (wpAny_pure h))
theorem wp_relay {a : Addr} {o : Obj} {es : Array (Int × Value)} {ep : Nat} {t : SetTable} {wanted : Nat} {Q : Unit → Shared → Prop} (ho : s.heap.get? a = some o) (hd : o.data = .set es ep t) (hf : t.fits es.size = true) (g : ∀ e ∈ es.toList, SmE e) (nd : (es.toList.map keyOf).Nodup) (hw : wanted ≤ 32) (hsz : es.size ≤ wanted)
    (hQ : ∀ es' t', es'.toList.Perm es.toList → Ris t'.place.toList → t'.led = t.led → t'.place.size = es'.size → t'.dummies = #[] → t'.mask = SetTable.sizeAbove wanted - 1 → t'.fits es'.size = true → Q () { s with heap := s.heap.update a (Obj.putSet es' t') }) :
    wpAny (model P w) A (setRelay a wanted) Q E s := by
  obtain ⟨m1, m2, m3⟩ := sizeAbove_ge wanted hw
  unfold setRelay
  refine wpAny_bind (wpAny_setState_of ho hd hf ?_)
  dsimp only
  rw [if_neg (by omega)]
  obtain ⟨t', order, e, pm, hr, hl, hp, hdm, hmk⟩ := laid_ok (mask := SetTable.sizeAbove wanted - 1) (finger := t.finger) (moves := t.movedTo (SetTable.sizeAbove wanted - 1)) (led := t.led) (plain := t.plain) m1 g nd
  have hs : (order.filterMap (es[·]?)).size = es.size := by rw [← Array.length_toList, pm.length_eq, Array.length_toList]
  refine wpAny_bind (wp_reordered e pm ?_)
  refine wpAny_storeSet_of ho hd (hQ _ t' pm hr hl (by rw [hs]; exact hp) hdm hmk ?_) (by rw [hs]; exact Nat.le_trans hsz (Nat.le_trans hw (by decide)))
  unfold SetTable.fits SetTable.fill
  rw [hp, hdm, hmk, hs]
  simp only [beq_self_eq_true, Bool.true_and, decide_eq_true_eq]
  show es.size + 0 ≤ _
  omega
theorem wp_room {a : Addr} {o : Obj} {es : Array (Int × Value)} {ep : Nat} {t : SetTable} {more : Nat} {Q : Unit → Shared → Prop} (ho : s.heap.get? a = some o) (hd : o.data = .set es ep t) (hf : t.fits es.size = true) (g : ∀ e ∈ es.toList, SmE e) (nd : (es.toList.map keyOf).Nodup) (h8 : es.size ≤ 8) (hm8 : more ≤ 8) (hp : t.place.size = es.size)
    (hQ0 : (t.fill + more) * 5 < t.mask * 3 → Q () s)
    (hQ : ∀ es' t', es'.toList.Perm es.toList → Ris t'.place.toList → t'.led = t.led → t'.place.size = es'.size → t'.dummies = #[] → t'.mask = SetTable.sizeAbove ((es.size + more) * 2) - 1 → t'.fits es'.size = true → Q () { s with heap := s.heap.update a (Obj.putSet es' t') }) :
    wpAny (model P w) A (setRoomFor a more) Q E s := by
  unfold setRoomFor
  refine wpAny_bind (wpAny_setState_of ho hd hf ?_)
  dsimp only
  unfold SetTable.roomFor
  by_cases c : (t.fill + more) * 5 ≥ t.mask * 3
  · rw [if_pos c]
    dsimp only
    rw [hp]
    exact wp_relay ho hd hf g nd (by omega) (by omega) hQ
  · rw [if_neg c]
    exact wpAny_pure (hQ0 (by omega))
theorem setR_put {h : Heap} {a : Addr} {o : Obj} {es es' : Array (Int × Value)} {ep : Nat} {t t' : SetTable} {S : Int → Bool} (ho : h.get? a = some o) (hex : o.ExactSet) (hd : o.data = .set es ep t) (g : ∀ e ∈ es'.toList, GoodE e) (nd : (es'.toList.map keyOf).Nodup) (hm : ∀ k, S k = true ↔ k ∈ es'.toList.map keyOf) (h8 : es'.size ≤ 16) (hf : t'.fits es'.size = true) (hr : Ris t'.place.toList) (hl : w.params.followText "set-order" = true ∨ t'.led = true) : SetR w (h.update a (Obj.putSet es' t')) a S es'.size :=
  ⟨_, es', _, t', store_at ho hd, hex, rfl, g, nd, hm, Nat.lt_of_le_of_lt h8 (by decide), hf, rfl, hr, hl⟩
/-- a new set takes all that stands in another -/
theorem wp_mergeFresh {a o : Addr} {ob : Obj} {ep : Nat} {tF : SetTable} {S : Int → Bool} {n : Nat} {each : Sem Unit} {Q : Unit → Shared → Prop} (hne : a ≠ o) (hoa : s.heap.get? a = some ob) (hex : ob.ExactSet) (hda : ob.data = .set #[] ep tF) (hT : tF.mask = 7 ∧ tF.place = #[] ∧ tF.dummies = #[]) (hl : w.params.followText "set-order" = true ∨ tF.led = true)
    (R : SetR w s.heap o S n) (b : ∀ k, S k = true → 0 ≤ k ∧ k < 8) (hn8 : n ≤ 8) (hQ : ∀ h', Heap.SameBut a s.heap h' → SetR w h' a S n → (n = 0 → h' = s.heap) → Q () { s with heap := h' }) :
    wpAny (model P w) A (setMerge a o each) Q E s := by
  obtain ⟨oo, es, epo, to, hoo, hexo, hdo, g, nd, hm, hb, hf, hn, hr, hlo⟩ := R
  obtain ⟨tm, tp, td⟩ := hT
  have gs := smE_of g hm b
  have hfF : tF.fits (#[] : Array (Int × Value)).size = true := by
    unfold SetTable.fits SetTable.fill
    rw [tp, td, tm]
    rfl
  unfold setMerge
  rw [if_neg (by rw [beq_iff_eq]; exact hne)]
  refine wpAny_bind (wpAny_setState_of hoo hdo hf ?_)
  dsimp only
  by_cases he : es.isEmpty = true
  · rw [if_pos he]
    have e0 : es = #[] := Array.isEmpty_iff.mp he
    subst e0
    have n0 : n = 0 := hn.symm
    subst n0
    refine wpAny_pure (hQ s.heap (Heap.SameBut.refl a s.heap) ⟨ob, #[], ep, tF, hoa, hex, hda, (fun e z => by simp at z), by simp, hm, by decide, hfF, rfl, by rw [tp]; exact List.Pairwise.nil, hl⟩ fun _ => rfl)
  · rw [if_neg he]
    have hpos : 1 ≤ n := by
      rw [← hn]
      refine Nat.pos_of_ne_zero fun z => he (Array.isEmpty_iff.mpr (Array.eq_empty_of_size_eq_zero z))
    -- what is done when there is room
    have go : ∀ (h1 : Heap) (ob1 : Obj) (ep1 : Nat) (t1 : SetTable), Heap.SameBut a s.heap h1 → h1.get? a = some ob1 → ob1.ExactSet → ob1.data = .set #[] ep1 t1 → t1.place.size = 0 → t1.dummies = #[] → 7 ≤ t1.mask → n ≤ t1.mask → t1.fits (#[] : Array (Int × Value)).size = true → (w.params.followText "set-order" = true ∨ t1.led = true) →
        wpAny (model P w) A (do
          let (_, _, ts) ← setState a
          match ts.road to with
          | .slotForSlot => storeSet a es { to with finger := ts.finger, led := ts.led && to.led, moves := ts.moves, plain := ts.plain && to.plain }
          | .clean =>
            let (es, t) ← (do
              let some (t, order) := SetTable.laid ts.mask ts.finger ts.moves (led := ts.led && to.led) (plain := ts.plain && to.plain) (es.map (·.1)) | unsupported "internal:set-table-without-room"
              let es' := order.filterMap (es[·]?)
              if es'.size != es.size then unsupported "internal:set-table-lost-an-element"
              pure (es', t) : Sem (Array (Int × Value) × SetTable))
            storeSet a es t
          | .oneByOne =>
            for (h, x) in ← setWalkUnseen o [a] (some a) do
              let _ ← holding [x] (setAddHashed a x h)
              each
              if (← setState o).2.1 != epo then unsupported "set.changed-during-merge") Q E { s with heap := h1 } := by
      intro h1 ob1 ep1 t1 sb h1o h1x h1d h1p h1m h1k h1n h1f h1l
      have hled : w.params.followText "set-order" = true ∨ (t1.led && to.led) = true := by
        rcases h1l with z | z
        · exact .inl z
        · rcases hlo with y | y
          · exact .inl y
          · exact .inr (by rw [z, y]; rfl)
      refine wpAny_bind (wpAny_setState_of h1o h1d h1f ?_)
      dsimp only
      unfold SetTable.road
      rw [if_neg (by unfold SetTable.fill; rw [h1p, h1m]; simp)]
      by_cases c : (t1.mask == to.mask && to.dummies.isEmpty) = true
      · rw [if_pos c]
        dsimp only
        refine wpAny_storeSet_of h1o h1d (hQ _ (sb.trans (Heap.SameBut.update _ a _)) ?_ (fun z => by omega)) (fits_of_scanBound hb)
        rw [← hn]
        exact setR_put h1o h1x h1d g nd hm (by omega) hf hr hled
      · rw [if_neg c]
        dsimp only
        obtain ⟨t', order, e, pm, hr', hl', hp', hdm, hmk⟩ := laid_ok (mask := t1.mask) (finger := t1.finger) (moves := t1.moves) (led := t1.led && to.led) (plain := t1.plain && to.plain) h1k gs nd
        have hs : (order.filterMap (es[·]?)).size = es.size := by rw [← Array.length_toList, pm.length_eq, Array.length_toList]
        refine wpAny_bind (wp_reordered e pm ?_)
        dsimp only
        have hf' : t'.fits (order.filterMap (es[·]?)).size = true := by
          unfold SetTable.fits SetTable.fill
          rw [hp', hdm, hmk, hs]
          simp only [beq_self_eq_true, Bool.true_and, decide_eq_true_eq]
          show es.size + 0 ≤ _
          omega
        refine wpAny_storeSet_of h1o h1d (hQ _ (sb.trans (Heap.SameBut.update _ a _)) ?_ (fun z => by omega)) (by rw [hs]; exact fits_of_scanBound hb)
        rw [← hn, ← hs]
        exact setR_put h1o h1x h1d (fun e he => g e (pm.mem_iff.mp he)) ((pm.map keyOf).nodup_iff.mpr nd) (fun k => (hm k).trans (pm.map keyOf).mem_iff.symm) (by omega) hf' hr' (by rw [hl']; exact hled)
    refine wpAny_bind (wp_room hoa hda hfF (fun e z => by simp at z) (by simp) (by decide) (by omega) (by rw [tp]; rfl) (fun hlt => ?_) fun es' t' pm hr' hl' hp' hdm hmk hf' => ?_)
    · exact go s.heap ob ep tF (Heap.SameBut.refl a s.heap) hoa hex hda (by rw [tp]; rfl) td (by omega) (by rw [tm] at hlt ⊢; unfold SetTable.fill at hlt; omega) hfF hl
    · have e0 : es' = #[] := by
        have := pm.length_eq
        rw [Array.length_toList] at this
        exact Array.eq_empty_of_size_eq_zero this
      subst e0
      obtain ⟨m1, m2, m3⟩ := sizeAbove_ge ((#[] : Array (Int × Value)).size + es.size) (by show 0 + es.size ≤ 32; omega)
      obtain ⟨k1, k2, k3⟩ := sizeAbove_ge (((#[] : Array (Int × Value)).size + es.size) * 2) (by show (0 + es.size) * 2 ≤ 32; omega)
      have k2' : (0 + es.size) * 2 ≤ SetTable.sizeAbove (((#[] : Array (Int × Value)).size + es.size) * 2) - 1 := k2
      exact go _ _ _ t' (Heap.SameBut.update _ a _) (store_at hoa hda) hex rfl hp' hdm (by rw [hmk]; exact k1) (by rw [hmk]; omega) hf' (by rw [hl']; exact hl)
end
end Ov
/-! ### sets of small ints: one by one -/
namespace Ov
open PySem PySem.Spec PyProof.Rows L2
section
variable {P : Program} {w : World} {A : Around} {E : Value → Shared → Prop} {s : Shared}
theorem wp_setWalk {o : Addr} {ob : Obj} {es : Array (Int × Value)} {ep : Nat} {t : SetTable} {Q : Array (Int × Value) → Shared → Prop} (ho : s.heap.get? o = some ob) (hd : ob.data = .set es ep t) (hf : t.fits es.size = true) (hl : w.params.followText "set-order" = true ∨ t.led = true)
    (hQ : ∀ ys d, ys.toList.Perm es.toList → Q ys { s with drawn := d }) : wpAny (model P w) A (setWalk o) Q E s := by
  unfold setWalk
  refine wpAny_bind (wpAny_setState_of ho hd hf ?_)
  dsimp only
  refine wpAny_bind (wpAny_byText ?_)
  by_cases hb : w.params.followText "set-order" = true
  · rw [if_pos hb]
    refine wpAny_bind (wpAny_askSetting ?_)
    exact wpAny_pure (hQ _ s.drawn (pick_perm _ es))
  · rw [if_neg hb]
    have hled := hl.resolve_left hb
    split
    · refine wpAny_bind (drawOrder_at _ _ _ _ (by rw [Array.length_toList]; exact Nat.le_refl _) fun ys d hp => ?_)
      exact wpAny_pure (hQ _ d (by rw [List.toList_toArray]; exact hp))
    · refine wpAny_bind ?_
      show wpAny _ _ (if (!t.led && decide (es.size > 1)) = true then unsupported "set:maker-not-led" else pure ()) _ _ _
      rw [hled]
      exact wpAny_pure (wpAny_pure (hQ es s.drawn (List.Perm.refl _)))
theorem wp_setsQuiet {ls : List Addr} {Q : Bool → Shared → Prop} (h : ∀ a ∈ ls, ∃ S n, SetR w s.heap a S n) (hQ : Q true s) : wpAny (model P w) A (setsQuiet ls) Q E s := by
  unfold setsQuiet
  refine wpAny_bind (wpAny_forIn_list _ (fun rest r s' => r.1 = none ∧ s' = s ∧ ∀ a ∈ rest, ∃ S n, SetR w s.heap a S n) _ ?_ ?_ _ _ ⟨rfl, rfl, h⟩)
  · rintro a rest r s' ⟨h1, rfl, h3⟩
    obtain ⟨S, n, o, es, ep, t, ho, hex, hd, g, nd, hm, hb, hf, hn, hr, hl⟩ := h3 a List.mem_cons_self
    refine wpAny_bind ?_
    unfold setEntries
    refine wpAny_bind (wpAny_setState_of ho hd hf (wpAny_pure ?_))
    refine wpAny_bind ?_
    show wpAny _ _ (forIn es _ _) _ _ _
    rw [← Array.forIn_toList]
    refine wpAny_forIn_list _ (fun l r s2 => r = (none, ()) ∧ s2 = s' ∧ ∀ e ∈ l, GoodE e) _ ?_ ?_ _ _ ⟨rfl, rfl, g⟩
    · rintro e l r2 s2 ⟨rfl, rfl, hl2⟩
      obtain ⟨k, tk, h1', _⟩ := hl2 e List.mem_cons_self
      obtain ⟨e1, e2⟩ := e
      simp only at h1'
      subst h1'
      exact wpAny_pure ⟨rfl, rfl, fun e he => hl2 e (List.mem_cons_of_mem _ he)⟩
    · rintro r2 s2 ⟨rfl, rfl, _⟩
      exact wpAny_pure ⟨rfl, rfl, fun a ha => h3 a (List.mem_cons_of_mem _ ha)⟩
  · rintro ⟨r1, r2⟩ s' ⟨h1, rfl, _⟩
    simp only at h1
    subst h1
    exact wpAny_pure hQ
theorem wp_walkUnseen {a o : Addr} {S1 S2 : Int → Bool} {n1 n2 : Nat} {ob : Obj} {es : Array (Int × Value)} {ep : Nat} {t : SetTable} {Q : Array (Int × Value) → Shared → Prop} (R1 : SetR w s.heap a S1 n1) (R2 : SetR w s.heap o S2 n2) (ho : s.heap.get? o = some ob) (hd : ob.data = .set es ep t) (hf : t.fits es.size = true) (hl : w.params.followText "set-order" = true ∨ t.led = true)
    (hQ : ∀ ys h' d, ys.toList.Perm es.toList → Heap.SameBut a s.heap h' → SetR w h' a S1 n1 → Q ys { s with heap := h', drawn := d }) : wpAny (model P w) A (setWalkUnseen o [a] (some a)) Q E s := by
  have wk : wpAny (model P w) A (setWalk o) Q E s := wp_setWalk ho hd hf hl fun ys d pm => hQ ys s.heap d pm (Heap.SameBut.refl a s.heap) R1
  unfold setWalkUnseen
  refine wpAny_bind (wpAny_setState_of ho hd hf ?_)
  dsimp only
  refine wpAny_bind (wpAny_byText ?_)
  split
  · exact wk
  refine wpAny_bind (wp_setsQuiet (fun b hb => ?_) ?_)
  · rcases List.mem_cons.mp hb with rfl | hb
    · exact ⟨S2, n2, R2⟩
    · rw [List.mem_singleton.mp hb]
      exact ⟨S1, n1, R1⟩
  simp only [Bool.not_true, Bool.false_eq_true, if_false]
  refine wpAny_bind (wpAny_rule ?_)
  obtain ⟨o1, es1, ep1, t1, ho1, hex1, hd1, g1, nd1, hm1, hb1, hf1, hn1, hr1, hl1⟩ := id R1
  have hnb : ¬ w.params.followText "set-order" = true := fun z => by
    rename_i hc
    rw [z] at hc
    exact hc rfl
  have l0 := hl.resolve_left hnb
  have l1 := hl1.resolve_left hnb
  refine wpAny_bind (wpAny_setState_of ho1 hd1 hf1 ?_)
  dsimp only
  split
  · refine wpAny_bind (wpAny_storeSet_of ho1 hd1 ?_ (fits_of_scanBound hb1))
    refine wpAny_pure (hQ es _ s.drawn (List.Perm.refl _) (Heap.SameBut.update _ a _) ?_)
    rw [← hn1]
    exact ⟨_, es1, _, _, store_at ho1 hd1, hex1, rfl, g1, nd1, hm1, hb1, hf1, rfl, hr1, .inr (by show (t1.led && t.led) = true; rw [l0, l1]; rfl)⟩
  · exact wpAny_pure (hQ es s.heap s.drawn (List.Perm.refl _) (Heap.SameBut.refl a s.heap) R1)
theorem setR_or {h : Heap} {a : Addr} {S S' : Int → Bool} {n : Nat} (R : SetR w h a S n) (e : ∀ k, S' k = S k) : SetR w h a S' n := R.congr e
/-- a set takes all that stands in another, one by one -/
theorem wp_mergeInto {a o : Addr} {S1 S2 : Int → Bool} {n1 n2 : Nat} {each : Sem Unit} {Q : Unit → Shared → Prop} (hne : a ≠ o) (R1 : SetR w s.heap a S1 n1) (R2 : SetR w s.heap o S2 n2) (h1 : 1 ≤ n1) (b1 : ∀ k, S1 k = true → 0 ≤ k ∧ k < 8) (b2 : ∀ k, S2 k = true → 0 ≤ k ∧ k < 8) (n18 : n1 ≤ 8) (n28 : n2 ≤ 8)
    (heach : ∀ (s' : Shared) (Q' : Unit → Shared → Prop), (∀ u, s.heap.get? o = some u → s'.heap.get? o = some u) → Q' () s' → wpAny (model P w) A each Q' E s')
    (hQ : ∀ h' d c, Heap.SameBut a s.heap h' → SetR w h' a (fun k => S1 k || S2 k) c → c ≤ n1 + n2 → Q () { s with heap := h', drawn := d }) :
    wpAny (model P w) A (setMerge a o each) Q E s := by
  obtain ⟨oo, es, epo, to, hoo, hexo, hdo, g, nd, hm, hb, hf, hn, hr, hlo⟩ := id R2
  obtain ⟨o1, es1, ep1, t1, ho1, hex1, hd1, g1, nd1, hm1, hb1, hf1, hn1, hr1, hl1⟩ := id R1
  unfold setMerge
  rw [if_neg (by rw [beq_iff_eq]; exact hne)]
  refine wpAny_bind (wpAny_setState_of hoo hdo hf ?_)
  dsimp only
  by_cases he : es.isEmpty = true
  · rw [if_pos he]
    have e0 : es = #[] := Array.isEmpty_iff.mp he
    subst e0
    refine wpAny_pure (hQ s.heap s.drawn n1 (Heap.SameBut.refl a s.heap) (R1.congr fun k => ?_) (by omega))
    have z : S2 k = false := by
      cases q : S2 k with
      | false => rfl
      | true => exact absurd ((hm k).mp q) (by simp)
    rw [z, Bool.or_false]
  · rw [if_neg he]
    have hp1 : t1.place.size = es1.size := by
      unfold SetTable.fits at hf1
      rw [Bool.and_eq_true, beq_iff_eq] at hf1
      exact hf1.1
    have go : ∀ (h2 : Heap) (o2 : Obj) (es2 : Array (Int × Value)) (ep2 : Nat) (t2 : SetTable), Heap.SameBut a s.heap h2 → SetR w h2 a S1 n1 → h2.get? a = some o2 → o2.data = .set es2 ep2 t2 → t2.fits es2.size = true → es2.size = n1 → t2.place.size = es2.size →
        wpAny (model P w) A (do
          let (_, _, ts) ← setState a
          match ts.road to with
          | .slotForSlot => storeSet a es { to with finger := ts.finger, led := ts.led && to.led, moves := ts.moves, plain := ts.plain && to.plain }
          | .clean =>
            let (es, t) ← (do
              let some (t, order) := SetTable.laid ts.mask ts.finger ts.moves (led := ts.led && to.led) (plain := ts.plain && to.plain) (es.map (·.1)) | unsupported "internal:set-table-without-room"
              let es' := order.filterMap (es[·]?)
              if es'.size != es.size then unsupported "internal:set-table-lost-an-element"
              pure (es', t) : Sem (Array (Int × Value) × SetTable))
            storeSet a es t
          | .oneByOne =>
            for (h, x) in ← setWalkUnseen o [a] (some a) do
              let _ ← holding [x] (setAddHashed a x h)
              each
              if (← setState o).2.1 != epo then unsupported "set.changed-during-merge") Q E { s with heap := h2 } := by
      intro h2 o2 es2 ep2 t2 sb R2a h2o h2d h2f h2n h2p
      refine wpAny_bind (wpAny_setState_of h2o h2d h2f ?_)
      dsimp only
      unfold SetTable.road
      rw [if_pos (by unfold SetTable.fill; rw [h2p, h2n]; simp; omega)]
      dsimp only
      have hoo2 : h2.get? o = some oo := sb.extBut o oo hne.symm hoo
      refine wpAny_bind (wp_walkUnseen (s := { s with heap := h2 }) R2a (R2.at fun u e => sb.extBut o u hne.symm e) hoo2 hdo hf hlo fun ys h3 d3 pm sb3 R3 => ?_)
      have sb13 := sb.trans sb3
      have gy : ∀ e ∈ ys.toList, GoodE e := fun e he => g e (pm.mem_iff.mp he)
      refine wpAny_bind ?_
      show wpAny _ _ (forIn ys _ _) _ _ _
      rw [← Array.forIn_toList]
      refine wpAny_forIn_list _ (fun l _ s' => ∃ (pre : List (Int × Value)) (h4 : Heap) (c : Nat), ys.toList = pre ++ l ∧ s' = { s with heap := h4, drawn := d3 } ∧ Heap.SameBut a s.heap h4 ∧ SetR w h4 a (fun k => S1 k || decide (k ∈ pre.map keyOf)) c ∧ c ≤ n1 + pre.length) _ ?_ ?_ _ _ ⟨[], h3, n1, rfl, rfl, sb13, R3.congr fun k => by simp, Nat.le_refl _⟩
      · rintro e l r s' ⟨pre, h4, c, ey, rfl, sb4, R4, hc⟩
        obtain ⟨k, tk, e2, e1⟩ := gy e (by rw [ey]; simp)
        have hlen : pre.length ≤ 8 := by
          have := congrArg List.length ey
          rw [pm.length_eq, Array.length_toList, List.length_append, List.length_cons] at this
          omega
        have ek : keyOf e = k := by
          unfold keyOf
          rw [e2]
        refine wpAny_bind ?_
        rw [e2, e1]
        refine wpAny_holding (setR_add_hashed (s := { s with heap := h4, drawn := d3 }) (k := k) (tk := tk) R4 (Nat.lt_of_le_of_lt (show c + 1 ≤ 17 by omega) (by decide)) fun h5 sb5 R5 => ?_)
        have sb45 := sb4.trans sb5
        refine wpAny_bind (heach _ _ (fun u hu => sb45.extBut o u hne.symm hu) ?_)
        refine wpAny_bind (wpAny_setState_of (sb45.extBut o oo hne.symm hoo) hdo hf ?_)
        dsimp only
        rw [if_neg (by simp)]
        refine wpAny_pure ⟨pre ++ [e], h5, _, by rw [ey, List.append_assoc]; rfl, rfl, sb45, R5.congr fun j => ?_, ?_⟩
        · rw [List.map_append, List.map_singleton, ek, Bool.or_assoc]
          congr 1
          rw [← Bool.decide_or]
          congr 1
          rw [List.mem_append, List.mem_singleton]
        · rw [List.length_append, List.length_singleton]
          split <;> omega
      · rintro r s' ⟨pre, h4, c, ey, rfl, sb4, R4, hc⟩
        rw [List.append_nil] at ey
        refine wpAny_pure (hQ h4 d3 c sb4 (R4.congr fun k => ?_) ?_)
        · congr 1
          rw [Bool.eq_iff_iff, hm k, decide_eq_true_iff, ← ey, (pm.map keyOf).mem_iff]
        · have := congrArg List.length ey
          rw [pm.length_eq, Array.length_toList] at this
          omega
    refine wpAny_bind (wp_room ho1 hd1 hf1 (smE_of g1 hm1 b1) nd1 (by omega) (by omega) hp1 (fun _ => ?_) fun es' t' pm hr' hl' hp' hdm hmk hf' => ?_)
    · exact go s.heap o1 es1 ep1 t1 (Heap.SameBut.refl a s.heap) R1 ho1 hd1 hf1 hn1 hp1
    · have hs : es'.size = n1 := by rw [← hn1, ← Array.length_toList, pm.length_eq, Array.length_toList]
      refine go _ _ es' _ t' (Heap.SameBut.update _ a _) ?_ (store_at ho1 hd1) rfl hf' hs hp'
      rw [← hs]
      exact setR_put ho1 hex1 hd1 (fun e he => g1 e (pm.mem_iff.mp he)) ((pm.map keyOf).nodup_iff.mpr nd1) (fun k => (hm1 k).trans (pm.map keyOf).mem_iff.symm) (by omega) hf' hr' (by rw [hl']; exact hl1)
end
end Ov
/-! ### a | b of two sets of small ints -/
namespace Ov
open PySem PySem.Spec PyProof.Rows L2
theorem entry_set_or : entryFor table "set.__or__" = some Builtin.«frozenset.__or__» := entryFor_alias (id' := "frozenset.__or__") (by kernel_rfl) rfl (by decide +kernel) (by kernel_rfl)
section
variable {P : Program} {w : World} {A : Around} {E : Value → Shared → Prop} {s : Shared}
theorem setR_type {h : Shared} {a : Addr} {S : Int → Bool} {n : Nat} (R : SetR w h.heap a S n) : h.TypeIs (.ref a) "set" := by
  obtain ⟨o, es, ep, t, ho, hex, _⟩ := R
  exact ⟨o, ho, hex.1⟩
theorem wp_isAnySet {a : Addr} {S : Int → Bool} {n : Nat} {Q : Bool → Shared → Prop} (R : SetR w s.heap a S n) (h : Q true s) : wpAny (model P w) A (Builtin.Frozenset.isAnySet (.ref a)) Q E s := by
  unfold Builtin.Frozenset.isAnySet
  refine wpAny_bind (wpAny_isInstance (b := true) (setR_type R) sub_set_self ?_)
  exact wpAny_pure h
theorem wp_newSet {Q : Value → Shared → Prop} (h : Q (.ref s.heap.objs.size) { s with heap := hSet w s.heap }) : wpAny (model P w) A (PySem.newSet (.type "set")) Q E s := by
  unfold PySem.newSet
  refine wpAny_bind (wpAny_byText ?_)
  dsimp only
  simp only [newObj]
  exact wpAny_bind (wpAny_alloc (wpAny_pure h))
theorem wp_baseOf {a : Addr} {S : Int → Bool} {n : Nat} {Q : Value → Shared → Prop} (R : SetR w s.heap a S n) (h : Q (.type "set") s) : wpAny (model P w) A (Builtin.Frozenset.baseOf a) Q E s := by
  unfold Builtin.Frozenset.baseOf
  refine wpAny_bind (wpAny_isInstance (b := true) (setR_type R) sub_set_self ?_)
  exact wpAny_pure h
theorem fresh_led (w : World) : w.params.followText "set-order" = true ∨ (SetTable.fresh 0 0 (!w.params.followText "set-order")).led = true := by
  show _ ∨ (!w.params.followText "set-order") = true
  cases w.params.followText "set-order"
  · exact .inr rfl
  · exact .inl rfl
theorem wp_copyOf {a : Addr} {S : Int → Bool} {n : Nat} {Q : Value → Shared → Prop} (R : SetR w s.heap a S n) (hs : ∀ k, S k = true → 0 ≤ k ∧ k < 8) (n8 : n ≤ 8)
    (hQ : ∀ h', Heap.SameBut s.heap.objs.size (hSet w s.heap) h' → SetR w h' s.heap.objs.size S n → (n = 0 → h' = hSet w s.heap) → Q (.ref s.heap.objs.size) { s with heap := h' }) : wpAny (model P w) A (Builtin.Frozenset.copyOf a) Q E s := by
  unfold Builtin.Frozenset.copyOf
  refine wpAny_bind (wp_baseOf R (wpAny_bind (wp_newSet ?_)))
  unfold Builtin.Frozenset.addrOf
  refine wpAny_bind (wpAny_pure ?_)
  have hne : s.heap.objs.size ≠ a := Nat.ne_of_gt R.lt
  refine wpAny_bind (wp_mergeFresh (s := { s with heap := hSet w s.heap }) hne (hSet_at s.heap) ⟨rfl, rfl, rfl⟩ rfl ⟨rfl, rfl, rfl⟩ (fresh_led w) (R.at fun o e => hSet_old e) hs n8 fun h' sb R' e => ?_)
  exact wpAny_pure (hQ h' sb R' e)
theorem wp_setEpoch {a : Addr} {o : Obj} {es : Array (Int × Value)} {ep : Nat} {t : SetTable} {Q : Nat → Shared → Prop} (ho : s.heap.get? a = some o) (hd : o.data = .set es ep t) (hf : t.fits es.size = true) (h : Q ep s) : wpAny (model P w) A (setEpoch a) Q E s := by
  unfold setEpoch
  exact wpAny_bind (wpAny_setState_of ho hd hf (wpAny_pure h))
theorem wp_merge {nm : String} {a o : Addr} {S1 S2 : Int → Bool} {n1 n2 : Nat} {Q : Unit → Shared → Prop} (hne : a ≠ o) (R1 : SetR w s.heap a S1 n1) (R2 : SetR w s.heap o S2 n2) (b1 : ∀ k, S1 k = true → 0 ≤ k ∧ k < 8) (b2 : ∀ k, S2 k = true → 0 ≤ k ∧ k < 8) (n18 : n1 ≤ 8) (n28 : n2 ≤ 8) (h0 : n1 = 0 → s.heap.get? a = some (newSet w))
    (hQ : ∀ h' d c, Heap.SameBut a s.heap h' → SetR w h' a (fun k => S1 k || S2 k) c → c ≤ n1 + n2 → Q () { s with heap := h', drawn := d }) :
    wpAny (model P w) A (Builtin.Frozenset.merge nm a o) Q E s := by
  obtain ⟨oo, es, epo, to, hoo, hexo, hdo, g, nd, hm, hb, hf, hn, hr, hlo⟩ := id R2
  unfold Builtin.Frozenset.merge
  refine wpAny_bind (wp_setEpoch hoo hdo hf ?_)
  by_cases c : n1 = 0
  · have hS1 : ∀ k, S1 k = false := fun k => by
      obtain ⟨o1, es1, ep1, t1, ho1, hex1, hd1, g1, nd1, hm1, hb1, hf1, hn1, hr1, hl1⟩ := id R1
      cases q : S1 k with
      | false => rfl
      | true =>
        have z := (hm1 k).mp q
        rw [c] at hn1
        rw [Array.eq_empty_of_size_eq_zero hn1] at z
        simp at z
    exact wp_mergeFresh hne (h0 c) ⟨rfl, rfl, rfl⟩ rfl ⟨rfl, rfl, rfl⟩ (fresh_led w) R2 b2 n28 fun h' sb R' _ => hQ h' s.drawn n2 sb (R'.congr fun k => by rw [hS1 k, Bool.false_or]) (by omega)
  · refine wp_mergeInto hne R1 R2 (by omega) b1 b2 n18 n28 (fun s' Q' hk q => ?_) hQ
    unfold Builtin.Frozenset.unchanged
    refine wpAny_bind (wp_setEpoch (hk _ hoo) hdo hf ?_)
    rw [if_neg (by simp)]
    exact wpAny_pure q
theorem wp_or {a b : Addr} {Sa Sb : Int → Bool} {na nb : Nat} {Q : Value → Shared → Prop} (hne : a ≠ b) (Ra : SetR w s.heap a Sa na) (Rb : SetR w s.heap b Sb nb) (ha : ∀ k, Sa k = true → 0 ≤ k ∧ k < 8) (hb : ∀ k, Sb k = true → 0 ≤ k ∧ k < 8) (na8 : na ≤ 8) (nb8 : nb ≤ 8)
    (hQ : ∀ h' d c, (∀ u o, s.heap.get? u = some o → h'.get? u = some o) → SetR w h' s.heap.objs.size (fun k => Sa k || Sb k) c → c ≤ na + nb → Q (.ref s.heap.objs.size) { s with heap := h', drawn := d }) :
    wpAny (model P w) A (call (.builtin "set.__or__") [.ref a, .ref b]) (fun v s' => v ≠ .notImplemented ∧ Q v s') E s := by
  refine wpAny_call_entry F.slot_set_or (setR_type Ra) entry_set_or ?_ (F.args_set_or_2 _ _)
  unfold Builtin.«frozenset.__or__»
  show wpAny _ _ (Builtin.Frozenset.slot1 "__or__" ⟨[.ref a, .ref b], []⟩ >>= _) _ _ _
  refine wpAny_bind ?_
  unfold Builtin.Frozenset.slot1 slotArgs
  simp only [List.isEmpty_nil, Bool.not_true, Bool.false_eq_true, if_false, List.length_singleton, bne_self_eq_false]
  refine wpAny_bind (wpAny_pure (wpAny_pure ?_))
  dsimp only
  refine wpAny_bind ?_
  show wpAny _ _ (Builtin.Frozenset.isAnySet (.ref a) >>= _) _ _ _
  refine wpAny_bind (wp_isAnySet Ra ?_)
  show wpAny _ _ (Builtin.Frozenset.isAnySet (.ref b)) _ _ _
  refine wp_isAnySet Rb ?_
  simp only [Bool.not_true, Bool.false_eq_true, if_false]
  refine wpAny_bind (wpAny_pure ?_)
  show wpAny _ _ ((do
    let result ← Builtin.Frozenset.copyOf a
    if Value.ref b != .ref a then holding [result] (Builtin.Frozenset.updateFrom _ (← Builtin.Frozenset.addrOf result) (.ref b))
    return result) >>= _) _ _ _
  refine wpAny_bind (wpAny_bind (wp_copyOf Ra ha na8 fun h1 sb1 R1 e1 => ?_))
  have hbn : (Value.ref b != Value.ref a) = true := by
    rw [bne_iff_ne]
    exact fun z => hne (Value.ref.inj z).symm
  rw [if_pos hbn]
  refine wpAny_bind (wpAny_pure ?_)
  have kb : ∀ u o, s.heap.get? u = some o → h1.get? u = some o := fun u o e => sb1.extBut u o (Nat.ne_of_lt (Heap.lt_size e)) (hSet_old e)
  have Rb1 := Rb.at (h' := h1) fun o e => kb b o e
  refine wpAny_bind (wpAny_holding ?_)
  unfold Builtin.Frozenset.updateFrom
  refine wpAny_bind (wp_isAnySet (s := { s with heap := h1 }) Rb1 ?_)
  simp only [if_true]
  refine wpAny_bind (wpAny_pure ?_)
  refine wp_merge (s := { s with heap := h1 }) (Nat.ne_of_gt Rb.lt) R1 Rb1 ha hb na8 nb8 (fun z => by
    show h1.get? _ = _
    rw [e1 z]
    exact hSet_at s.heap) fun h2 d c sb2 R2 hc => ?_
  refine wpAny_pure (wpAny_pure ⟨_, rfl, (fun z => nomatch z), hQ h2 d c (fun u o e => sb2.extBut u o (Nat.ne_of_lt (Heap.lt_size e)) (kb u o e)) R2 hc⟩)
end
/-- a | b, both sets of ints below 8 -/
def rOrS (w : World) : R2 := fun x y H Q => ∃ (a b : Addr) (Sa Sb : Int → Bool) (na nb : Nat), x = .ref a ∧ y = .ref b ∧ a ≠ b ∧ H a = some (SetO w a Sa na) ∧ H b = some (SetO w b Sb nb) ∧ (∀ k, Sa k = true → 0 ≤ k ∧ k < 8) ∧ (∀ k, Sb k = true → 0 ≤ k ∧ k < 8) ∧ na ≤ 8 ∧ nb ≤ 8 ∧
  ∀ (p : Addr) (c : Nat), H p = none → c ≤ na + nb → Q (.ref p) (upd H p (SetO w p (fun k => Sa k || Sb k) c))
theorem op_orS {X : Cx} : OpR X (binaryOp .BitOr) (rOrS X.w) := by
  intro pins s σ H x y v u Q I rx ry h
  obtain ⟨a, b, Sa, Sb, na, nb, rfl, rfl, hne, ea, eb, ba, bb, a8, b8, q⟩ := h
  cases rx
  cases ry
  have Ra := setO_get I ea
  have Rb := setO_get I eb
  refine wpAny_binaryOp_same (T := "set") (id := "set.__or__") (setR_type Ra) (setR_type Rb) F.fills_set_or F.slot_set_or (wp_or hne Ra Rb ba bb a8 b8 fun h' d c k R hc => ?_)
  have hn : H s.heap.objs.size = none := I.hok.fresh (Nat.le_refl _)
  have J : Inv X pins σ (upd H s.heap.objs.size (SetO X.w s.heap.objs.size (fun k => Sa k || Sb k) c)) { s with heap := h', gens := s.gens, drawn := d, toks := s.toks } :=
    I.call (ch := []) (Un.laid k (Nat.le_refl _) hn) (I.hok.laid k (Nat.le_refl _) (setO_new R)) I.bare (fun _ z => nomatch z)
  exact ⟨.ref s.heap.objs.size, _, J, rfl, q _ c hn hc⟩
end Ov
/-! ### tuple(zip(a, b)) of two lists of one length -/
namespace Ov
open PySem PySem.Spec PyProof.Rows L2
theorem zip_nolen : typeLookup (.type "zip") "__len__" = pure none := by rw [typeLookup_type, builtinLookup_eq_fast]; kernel_rfl
theorem zip_nohint : typeLookup (.type "zip") "__length_hint__" = pure none := by rw [typeLookup_type, builtinLookup_eq_fast]; kernel_rfl
section
variable {X : Cx} {pins : List (Addr × Obj)} {σ : L2.St}
/-- a zip after i turns, the pairs given out so far still there; S is the list that takes them -/
structure ZW (X : Cx) (pins : List (Addr × Obj)) (σ : L2.St) (H1 : Hp) (z TI TO i1 i2 l1 l2 S : Addr) (us vs : List Value) (xs ys : List V) (i : Nat) (ps : List Addr) (H : Hp) (s : Shared) : Prop where
  I : Inv X pins σ H s
  same : ∀ a o, H1 a = some o → H a = some o
  fp : ∀ b ∈ [S, z, TI, TO, i1, i2], FpOk X pins H b
  ti : IsPair s.heap TI (.ref i1) (.ref i2)
  to : ∃ o, s.heap.get? TO = some o
  t1 : s.heap.IsListIter i1 l1 i
  t2 : s.heap.IsListIter i2 l2 i
  hl1 : s.heap.IsList l1 us.toArray
  hl2 : s.heap.IsList l2 vs.toArray
  zz : (IsZip s.heap z TI TO .none ∧ ∃ a b, IsPair s.heap TO a b) ∨ ∃ T f oT, IsZipHeld s.heap z TI TO T f ∧ s.heap.get? T = some oT ∧ T ∉ [S, z, TI, TO, i1, i2]
  st : ∃ c, s.heap.get? S = some { cls := .type "list", dict := none, data := .seq (ps.map Value.ref).toArray c, slots := #[] }
  len : ps.length = i
  pr : ∀ (j : Nat) (x y : V) (p : Addr), xs[j]? = some x → ys[j]? = some y → ps[j]? = some p → H p = some (.tup [x, y])

theorem lt_of_get {h : Heap} {a : Addr} {o : Obj} (e : h.get? a = some o) : h.objs.size ≠ a := Nat.ne_of_gt (Heap.lt_size e)

variable {H1 H : Hp} {s : Shared} {z TI TO i1 i2 l1 l2 S : Addr} {us vs : List Value} {xs ys : List V} {i : Nat} {ps : List Addr} {A : Around} {E : Value → Shared → Prop} {R : Result → Shared → Prop}

theorem ZW.z_get (Z : ZW X pins σ H1 z TI TO i1 i2 l1 l2 S us vs xs ys i ps H s) : ∃ o, s.heap.get? z = some o := by
  rcases Z.zz with ⟨e, _⟩ | ⟨T, f, oT, e, _⟩
  · exact ⟨_, e⟩
  · exact ⟨_, e⟩
theorem ZW.off (Z : ZW X pins σ H1 z TI TO i1 i2 l1 l2 S us vs xs ys i ps H s) : s.heap.objs.size ∉ [S, z, TI, TO, i1, i2] := by
  obtain ⟨_, e1⟩ := Z.st
  obtain ⟨_, e2⟩ := Z.z_get
  obtain ⟨_, e4⟩ := Z.to
  have e5 : s.heap.objs.size ≠ i1 := let ⟨_, e, _⟩ := Z.t1; lt_of_get e
  have e6 : s.heap.objs.size ≠ i2 := let ⟨_, e, _⟩ := Z.t2; lt_of_get e
  simp only [List.mem_cons, List.not_mem_nil, or_false, not_or]
  exact ⟨lt_of_get e1, lt_of_get e2, lt_of_get Z.ti, lt_of_get e4, e5, e6⟩
/-- the next pair, laid and put to the list -/
theorem ZW.step (Z : ZW X pins σ H1 z TI TO i1 i2 l1 l2 S us vs xs ys i ps H s) (D : ZipApart z TI TO i1 i2 l1 l2) (hS : S ∉ [z, TI, TO, i1, i2, l1, l2]) {x y : V} {u v : Value} (hx : xs[i]? = some x) (hy : ys[i]? = some y) (ru : RelV x u) (rv : RelV y v)
    {h' : Heap} {T : Addr} {f : Bool} {oT : Obj} (zz : IsZipHeld h' z TI TO T f ∧ h'.get? T = some oT ∧ T ∉ [S, z, TI, TO, i1, i2]) (t1 : h'.IsListIter i1 l1 (i + 1)) (t2 : h'.IsListIter i2 l2 (i + 1)) (hp : IsPair h' s.heap.objs.size u v)
    (hto : ∃ o, h'.get? TO = some o) (hk : ∀ c o, c ≠ z → c ≠ TO → c ≠ i1 → c ≠ i2 → s.heap.get? c = some o → h'.get? c = some o) :
    ZW X pins σ H1 z TI TO i1 i2 l1 l2 S us vs xs ys (i + 1) (ps ++ [s.heap.objs.size]) (upd H s.heap.objs.size (.tup [x, y])) { s with heap := h'.update S (Obj.mapSeq (·.push (.ref s.heap.objs.size))) } := by
  have off := Z.off
  obtain ⟨I, sm, fp, ti, to, _, _, hl1, hl2, _, ⟨c0, eS⟩, len, pr⟩ := Z
  simp only [List.mem_cons, List.not_mem_nil, or_false, not_or] at hS off
  obtain ⟨Sz, STI, STO, Si1, Si2, Sl1, Sl2⟩ := hS
  obtain ⟨oS, oz, oTI, oTO, oi1, oi2⟩ := off
  have eS' := hk S _ Sz STO Si1 Si2 eS
  have up : ∀ c o, c ≠ S → h'.get? c = some o → (h'.update S (Obj.mapSeq (·.push (.ref s.heap.objs.size)))).get? c = some o := fun c o hc e => (Heap.get?_update_other _ _ (Ne.symm hc)).trans e
  have hn : H s.heap.objs.size = none := I.hok.fresh (Nat.le_refl _)
  obtain ⟨zz1, zz2, zz3⟩ := zz
  refine ⟨?_, fun a o e => ?_, fun b hb => ?_, ?_, ?_, ?_, ?_, ?_, ?_, .inr ⟨T, f, oT, up _ _ (Ne.symm Sz) zz1, up _ _ ?_ zz2, zz3⟩, ?_, ?_, fun j x' y' p ex ey ep => ?_⟩
  · refine I.turnedNew (t' := s.toks) (ch := [S, z, TI, TO, i1, i2]) (fun b o hb e => ?_) fp (Nat.le_refl _) ⟨by show 2 ≤ sizeLine; decide, [u, v], .cons ru (.cons rv .nil), ⟨_, up _ _ oS hp, rfl, _, rfl⟩⟩
    simp only [List.mem_cons, List.not_mem_nil, or_false, not_or] at hb
    exact up _ _ hb.1 (hk b o hb.2.1 hb.2.2.2.1 hb.2.2.2.2.1 hb.2.2.2.2.2 e)
  · rw [upd_ne (ne_of_none (sm _ _ e) hn)]; exact sm _ _ e
  · obtain ⟨g, r⟩ := fp b hb
    refine ⟨?_, r⟩
    rw [upd_ne]
    · exact g
    · intro e
      subst e
      simp only [List.mem_cons, List.not_mem_nil, or_false] at hb
      rcases hb with e | e | e | e | e | e
      · exact oS e
      · exact oz e
      · exact oTI e
      · exact oTO e
      · exact oi1 e
      · exact oi2 e
  · exact up _ _ (Ne.symm STI) (hk _ _ D.TIz D.TITO D.TIi1 D.TIi2 ti)
  · obtain ⟨o, e⟩ := hto
    exact ⟨o, up _ _ (Ne.symm STO) e⟩
  · exact t1.at fun o e => up _ _ (Ne.symm Si1) e
  · exact t2.at fun o e => up _ _ (Ne.symm Si2) e
  · exact hl1.at fun o e => up _ _ (Ne.symm Sl1) (hk _ _ D.l1z D.l1TO D.l1i1 D.l1i2 e)
  · exact hl2.at fun o e => up _ _ (Ne.symm Sl2) (hk _ _ D.l2z D.l2TO D.l2i1 D.l2i2 e)
  · intro e; exact zz3 (by rw [e]; exact List.mem_cons_self)
  · have e : ((ps ++ [s.heap.objs.size]).map Value.ref).toArray = (ps.map Value.ref).toArray.push (.ref s.heap.objs.size) := by simp
    rw [e]
    exact ⟨_, Heap.get?_update_self _ eS' rfl⟩
  · rw [List.length_append, len]; rfl
  · by_cases hj : j < ps.length
    · rw [List.getElem?_append_left hj] at ep
      have := pr j x' y' p ex ey ep
      rw [upd_ne (ne_of_none this hn)]
      exact this
    · have hj2 : j = i := by
        have := (List.getElem?_eq_some_iff.mp ep).1
        simp only [List.length_append, List.length_singleton] at this
        omega
      subst hj2
      rw [List.getElem?_append_right (by omega), len, Nat.sub_self] at ep
      cases ep
      rw [hx] at ex; rw [hy] at ey
      cases ex; cases ey
      exact upd_same ..

/-- the loop that fills the list -/
theorem zip_loop (hh : A.handled = none) (D : ZipApart z TI TO i1 i2 l1 l2) (hS : S ∉ [z, TI, TO, i1, i2, l1, l2]) (vx : Vals xs us) (vy : Vals ys vs) (hl : xs.length = ys.length) (hz : xs.length ≤ sizeLine) (res : Value) :
    ∀ (k i : Nat) (ps : List Addr) (H : Hp) (s : Shared), xs.length - i = k → i ≤ xs.length → ZW X pins σ H1 z TI TO i1 i2 l1 l2 S us vs xs ys i ps H s →
    (∀ (ps' : List Addr) (H' : Hp) (h' : Heap), (ps'.length = xs.length) → Inv X pins σ H' { s with heap := h' } → (∀ a o, H1 a = some o → H' a = some o) → (∃ c, h'.get? S = some { cls := .type "list", dict := none, data := .seq (ps'.map Value.ref).toArray c, slots := #[] }) →
      (∀ (j : Nat) (x y : V) (p : Addr), xs[j]? = some x → ys[j]? = some y → ps'[j]? = some p → H' p = some (.tup [x, y])) → R (.ok (.ret res)) { s with heap := h' }) →
    codeAny (model X.prog X.w) A (.builtin "list.extend.loop" ⟨[.ref S, .ref z, res], []⟩) R s := by
  intro k
  induction k with
  | zero =>
    intro i ps H s hk hi Z hR
    have hin : i = xs.length := by omega
    subst hin
    refine codeAny_builtin F.entry_extend_loop ?_
    rw [Around.under_plainId F.plain_extend_loop _]
    show wpAny _ A.in1 (pyNext (.ref z) >>= _) _ _ s
    obtain ⟨I, sm, fp, ti, to, t1, t2, hl1, hl2, zz, ⟨c0, eS⟩, len, pr⟩ := Z
    have hend : us.toArray[xs.length]? = none ∨ vs.toArray[xs.length]? = none := .inl (by simp [vx.length])
    simp only [List.mem_cons, List.not_mem_nil, or_false, not_or] at hS
    obtain ⟨Sz, STI, STO, Si1, Si2, Sl1, Sl2⟩ := hS
    have fin : ∀ h', (∀ c o, c ≠ z → c ≠ TO → c ≠ i1 → c ≠ i2 → s.heap.get? c = some o → h'.get? c = some o) → R (.ok (.ret res)) { s with heap := h' } := fun h' hk =>
      hR ps H h' len (I.turnedL (t' := s.toks) (ch := [S, z, TI, TO, i1, i2]) (fun b o hb e => by
        simp only [List.mem_cons, List.not_mem_nil, or_false, not_or] at hb
        exact hk b o hb.2.1 hb.2.2.2.1 hb.2.2.2.2.1 hb.2.2.2.2.2 e) fp) sm ⟨c0, hk _ _ Sz STO Si1 Si2 eS⟩ pr
    refine wpAny_bind ?_
    rcases zz with ⟨zi, a, b, zt⟩ | ⟨T, f, oT, zi, zt, zn⟩
    · exact wpAny_pyNext_zip_end hh D zi ti zt t1 t2 hl1 hl2 hend fun h' hk => wpAny_pure (fin h' hk)
    · exact wpAny_pyNext_zip_end_held hh D zi zt ti t1 t2 hl1 hl2 hend fun h' hk => wpAny_pure (fin h' fun c o a _ b d e => hk c o a b d e)
  | succ k ih =>
    intro i ps H s hk hi Z hR
    have hlt : i < xs.length := by omega
    have hx : xs[i]? = some xs[i] := List.getElem?_eq_getElem hlt
    have hlt2 : i < ys.length := by omega
    have hy : ys[i]? = some ys[i] := List.getElem?_eq_getElem hlt2
    obtain ⟨u, hu, ru⟩ := vx.get hx
    obtain ⟨v, hv, rv⟩ := vy.get hy
    refine codeAny_builtin F.entry_extend_loop ?_
    rw [Around.under_plainId F.plain_extend_loop _]
    show wpAny _ A.in1 (pyNext (.ref z) >>= _) _ _ s
    have off := Z.off
    have Z0 := Z
    obtain ⟨I, sm, fp, ti, to, t1, t2, hl1, hl2, zz, ⟨c0, eS⟩, len, pr⟩ := Z
    have hS0 := hS
    simp only [List.mem_cons, List.not_mem_nil, or_false, not_or] at hS
    obtain ⟨Sz, STI, STO, Si1, Si2, Sl1, Sl2⟩ := hS
    have go : ∀ h' (T : Addr) (f : Bool) (oT : Obj), (IsZipHeld h' z TI TO T f ∧ h'.get? T = some oT ∧ T ∉ [S, z, TI, TO, i1, i2]) → h'.IsListIter i1 l1 (i + 1) → h'.IsListIter i2 l2 (i + 1) → IsPair h' s.heap.objs.size u v → (∃ o, h'.get? TO = some o) →
        (∀ c o, c ≠ z → c ≠ TO → c ≠ i1 → c ≠ i2 → s.heap.get? c = some o → h'.get? c = some o) →
        wpAny (model X.prog X.w) A.in1 (updateSeq S (·.push (.ref s.heap.objs.size)) >>= fun _ => again (.builtin "list.extend.loop" ⟨[.ref S, .ref z, res], []⟩)) (fun fin s' => match fin with | .done f => R (.ok f) s' | .again c' => c'.quiet = true ∧ codeAny (model X.prog X.w) A c' R s') (fun e s' => R (.error e) s') { s with heap := h' } := fun h' T f oT hzz a1 a2 hp hto hk2 => by
      have eS' := hk2 S _ Sz STO Si1 Si2 eS
      refine wpAny_bind (wpAny_updateSeq (s := { s with heap := h' }) eS' rfl (wpAny_pure ⟨plainId_quiet F.plain_extend_loop _, ih (i + 1) _ _ _ (by omega) hlt (Z0.step D hS0 hx hy ru rv hzz a1 a2 hp hto hk2) fun ps' H' h2 q1 q2 q3 q4 q5 => hR ps' H' h2 q1 q2 q3 q4 q5⟩) ?_ ?_)
      · simp [len]; omega
      · simp [len]; omega
    have hu2 : us.toArray[i]? = some u := by simpa using hu
    have hv2 : vs.toArray[i]? = some v := by simpa using hv
    refine wpAny_bind ?_
    rcases zz with ⟨zi, a, b, zt⟩ | ⟨T, f, oT, zi, zt, zn⟩
    · exact wpAny_pyNext_zip_item D zi ti zt t1 t2 hl1 hl2 hu2 hv2 fun h' a1 a2 a3 a4 a5 a6 hk2 => go h' s.heap.objs.size false _ ⟨a1, a5, off⟩ a3 a4 a5 ⟨_, a2⟩ hk2
    · have zn2 := zn
      simp only [List.mem_cons, List.not_mem_nil, or_false, not_or] at zn2
      obtain ⟨oTO, eTO⟩ := to
      exact wpAny_pyNext_zip_item_held D zi zt ti t1 t2 hl1 hl2 hu2 hv2 fun h' a1 a3 a4 a5 a6 hk2 => go h' T true oT ⟨a1, hk2 _ _ zn2.2.1 zn2.2.2.2.2.1 zn2.2.2.2.2.2 zt, zn⟩ a3 a4 a5 ⟨oTO, hk2 _ _ D.TOz D.TOi1 D.TOi2 eTO⟩ fun c o q1 _ q3 q4 e => hk2 c o q1 q3 q4 e

/-- all the pairs of two lists, collected -/
theorem collect_zip (hh : A.handled = none) (vx : Vals xs us) (vy : Vals ys vs) (hl : xs.length = ys.length) (hz : xs.length ≤ sizeLine) (D : ZipApart z TI TO i1 i2 l1 l2) (I : Inv X pins σ H1 s) (fp : ∀ b ∈ [z, TI, TO, i1, i2], FpOk X pins H1 b)
    (ez : IsZip s.heap z TI TO .none) (eTI : IsPair s.heap TI (.ref i1) (.ref i2)) (eTO : IsPair s.heap TO .none .none) (t1 : s.heap.IsListIter i1 l1 0) (t2 : s.heap.IsListIter i2 l2 0) (hl1 : s.heap.IsList l1 us.toArray) (hl2 : s.heap.IsList l2 vs.toArray)
    {Q : List Value → Shared → Prop}
    (hQ : ∀ (ps' : List Addr) (H' : Hp) (h' : Heap), ps'.length = xs.length → Inv X pins σ H' { s with heap := h' } → (∀ a o, H1 a = some o → H' a = some o) →
      (∀ (j : Nat) (x y : V) (p : Addr), xs[j]? = some x → ys[j]? = some y → ps'[j]? = some p → H' p = some (.tup [x, y])) → Q (ps'.map Value.ref) { s with heap := h' }) :
    wpAny (model X.prog X.w) A (collect (.ref z)) Q E s := by
  have nz : s.heap.objs.size ≠ z := lt_of_get ez
  have hSf : s.heap.objs.size ∉ [z, TI, TO, i1, i2, l1, l2] := by
    have e1 : s.heap.objs.size ≠ i1 := let ⟨_, e, _⟩ := t1; lt_of_get e
    have e2 : s.heap.objs.size ≠ i2 := let ⟨_, e, _⟩ := t2; lt_of_get e
    have e3 : s.heap.objs.size ≠ l1 := let ⟨_, e, _⟩ := hl1; lt_of_get e
    have e4 : s.heap.objs.size ≠ l2 := let ⟨_, e, _⟩ := hl2; lt_of_get e
    simp only [List.mem_cons, List.not_mem_nil, or_false, not_or]
    exact ⟨nz, lt_of_get eTI, lt_of_get eTO, e1, e2, e3, e4⟩
  have fS := I.fpOk (H' := H1) (b := s.heap.objs.size) (Nat.le_refl _) (I.hok.fresh (Nat.le_refl _))
  unfold collect
  refine wpAny_bind (wpAny_runValue (codeAny_builtin F.entry_proto_collect ?_))
  rw [Around.under_plainId F.plain_proto_collect _]
  show wpAny _ A.in1 (newList [] >>= fun l => again (.builtin "list.__iadd__" ⟨[l, .ref z], []⟩)) _ _ s
  refine wpAny_bind (wpAny_newObj_type ?_)
  refine wpAny_pure ⟨plainId_quiet F.plain_list_iadd _, codeAny_builtin F.entry_list_iadd ?_⟩
  rw [Around.under_plainId F.plain_list_iadd _]
  generalize hg : s.heap.push { cls := .type "list", data := .seq ([] : List Value).toArray } = h0
  have k0 : ∀ b o, s.heap.get? b = some o → h0.get? b = some o := fun b o e => by rw [← hg]; exact Heap.get?_push_of_some _ e
  have eS : h0.get? s.heap.objs.size = some { cls := .type "list", data := .seq ([] : List Value).toArray } := by rw [← hg]; exact Heap.get?_push_size _ rfl
  have hT : ({ s with heap := h0 } : Shared).TypeIs (.ref z) "zip" := ⟨_, k0 _ _ ez, rfl⟩
  show wpAny _ A.in1 (Builtin.List.listExtendWith (.ref s.heap.objs.size) (.ref z) (.ref s.heap.objs.size)) _ _ _
  unfold Builtin.List.listExtendWith
  refine wpAny_bind (wpAny_typeOf hT ?_)
  have c1 : Builtin.List.listSameRef (.ref s.heap.objs.size) (.ref z) = false := by simp [Builtin.List.listSameRef, nz]
  rw [if_neg (by rw [c1]; decide)]
  refine wpAny_bind (wpAny_pyIter_zip (s := { s with heap := h0 }) (k0 _ _ ez) ?_)
  refine wpAny_bind (wpAny_holding ?_)
  unfold Builtin.List.listLengthHint
  refine wpAny_bind (wpAny_specialOf hT zip_nolen ?_)
  show wpAny _ A.in1 (specialOf (Value.ref z) (Str.ofString "__length_hint__") >>= _) _ _ _
  refine wpAny_bind (wpAny_specialOf hT zip_nohint ?_)
  refine wpAny_pure ?_
  show wpAny _ A.in1 (rule "list.extend.makes-room" >>= fun _ => Builtin.List.listTouch (.ref s.heap.objs.size) >>= fun _ =>
    again (.builtin "list.extend.loop" ⟨[.ref s.heap.objs.size, .ref z, .ref s.heap.objs.size], []⟩)) _ _ _
  refine wpAny_bind (wpAny_rule ?_)
  refine wpAny_bind ?_
  show wpAny _ A.in1 (updateSeq s.heap.objs.size (·.push .none) >>= fun _ => updateSeq s.heap.objs.size (·.pop)) _ _ _
  refine wpAny_bind (wpAny_updateSeq (s := { s with heap := h0 }) eS rfl ?_)
  have eS2 := Heap.get?_update_self (Obj.mapSeq (·.push Value.none)) eS rfl
  refine wpAny_updateSeq (s := { s with heap := _ }) eS2 rfl ?_
  have eS3 := Heap.get?_update_self (Obj.mapSeq (·.pop)) eS2 rfl
  have oth : ∀ b o, b ≠ s.heap.objs.size → s.heap.get? b = some o → ((h0.update s.heap.objs.size (Obj.mapSeq (·.push Value.none))).update s.heap.objs.size (Obj.mapSeq (·.pop))).get? b = some o :=
    fun b o hb e => (Heap.get?_update_other _ _ (Ne.symm hb)).trans ((Heap.get?_update_other _ _ (Ne.symm hb)).trans (k0 b o e))
  have lt : ∀ {b : Addr} {o : Obj}, s.heap.get? b = some o → ((h0.update s.heap.objs.size (Obj.mapSeq (·.push Value.none))).update s.heap.objs.size (Obj.mapSeq (·.pop))).get? b = some o := fun e => oth _ _ (Nat.ne_of_lt (Heap.lt_size e)) e
  generalize hg3 : (h0.update s.heap.objs.size (Obj.mapSeq (·.push Value.none))).update s.heap.objs.size (Obj.mapSeq (·.pop)) = h3 at eS3 oth lt
  refine wpAny_pure ⟨plainId_quiet F.plain_extend_loop _, zip_loop (σ := σ) (pins := pins) (H1 := H1) (us := us) (vs := vs) hh D hSf vx vy hl hz _ xs.length 0 [] H1 { s with heap := h3 } rfl (Nat.zero_le _) ⟨?_, fun _ _ e => e, ?_, lt eTI, ⟨_, lt eTO⟩, t1.at fun o e => lt e, t2.at fun o e => lt e, hl1.at fun o e => lt e, hl2.at fun o e => lt e, .inl ⟨lt ez, _, _, lt eTO⟩, ⟨_, eS3⟩, rfl, fun j x y p _ _ e => by simp at e⟩ fun ps' H' h' q1 q2 q3 q4 q5 => ?_⟩
  · exact I.turnedL (t' := s.toks) (ch := []) (fun b o _ e => lt e) (fun _ z => nomatch z)
  · intro b hb
    rcases List.mem_cons.mp hb with e | e
    · rw [e]; exact fS
    · exact fp b e
  · obtain ⟨c, q4⟩ := q4
    show wpAny _ A (load s.heap.objs.size >>= _) _ _ _
    refine wpAny_bind (wpAny_load (s := { s with heap := h' }) q4 ?_)
    refine wpAny_pure ?_
    have := hQ ps' H' h' q1 q2 q3 q5
    simpa using this

theorem call_tuple_zip (hh : A.handled = none) (vx : Vals xs us) (vy : Vals ys vs) (hl : xs.length = ys.length) (hz : xs.length ≤ sizeLine) (D : ZipApart z TI TO i1 i2 l1 l2) (I : Inv X pins σ H1 s) (fp : ∀ b ∈ [z, TI, TO, i1, i2], FpOk X pins H1 b)
    (ez : IsZip s.heap z TI TO .none) (eTI : IsPair s.heap TI (.ref i1) (.ref i2)) (eTO : IsPair s.heap TO .none .none) (t1 : s.heap.IsListIter i1 l1 0) (t2 : s.heap.IsListIter i2 l2 0) (hl1 : s.heap.IsList l1 us.toArray) (hl2 : s.heap.IsList l2 vs.toArray)
    {Q : Value → Shared → Prop}
    (hQ : ∀ (ps' : List Addr) (H' : Hp) (h' : Heap), ps'.length = xs.length → Inv X pins σ H' { s with heap := h' } → (∀ a o, H1 a = some o → H' a = some o) →
      (∀ (j : Nat) (x y : V) (p : Addr), xs[j]? = some x → ys[j]? = some y → ps'[j]? = some p → H' p = some (.tup [x, y])) → Q (.ref h'.objs.size) { s with heap := h'.push { cls := .type "tuple", data := .seq (ps'.map Value.ref).toArray } }) :
    wpAny (model X.prog X.w) A (call (.type "tuple") [.ref z]) Q E s := by
  refine callType_codes (Q₁ := fun obj s₁ => s₁.TypeIs obj "tuple" ∧ Q obj s₁) F.called_tuple (F.typeCall_tuple_1 _) F.entry_object_init (codeAny_of_tree ?_) fun obj s₁ h₁ =>
    ⟨h₁.1, F.args_object_init_2 obj _, object_init_meets F.called_tuple.init.lookup F.called_tuple.made (by decide) X.prog X.w A.in1 _ s₁ ⟨h₁.1, rfl, h₁.2⟩⟩
  show wpAny _ A.in1.in1 (do checkBuiltinCall "tuple.__new__" ⟨[.type "tuple", .ref z], []⟩; again (.builtin "tuple.__new__" ⟨[.type "tuple", .ref z], []⟩)) _ _ s
  refine wpAny_bind (wpAny_of_eq (F.newCall_tuple_1 _) (wpAny_pure ⟨plainId_quiet F.plain_tuple_new _, codeAny_builtin F.entry_tuple_new ?_⟩))
  rw [Around.under_plainId F.plain_tuple_new _]
  have s0 := sub_tuple_self
  have s1 := init_tuple_lookup
  have s2 := madeHere_tuple
  have tz : s.TypeIs (.ref z) "zip" := ⟨_, ez, rfl⟩
  have hh2 : A.in1.in1.handled = none := hh
  wp_walk using wpAny_typeOf tz, collect_zip (A := A.in1.in1) hh2 vx vy hl hz D I fp ez eTI eTO t1 t2 hl1 hl2
  intro ps' H' h' q1 q2 q3 q4
  show wpAny _ _ (Builtin.Tuple.tupleExact (ps'.map Value.ref).toArray >>= fun v => ret v) _ _ _
  unfold Builtin.Tuple.tupleExact
  refine wpAny_bind (wpAny_newObj_type ?_ (by show (ps'.map Value.ref).toArray.size ≤ sizeLine; simp [q1]; exact hz))
  exact wpAny_pure ⟨⟨_, Heap.get?_push_size _ rfl, rfl⟩, hQ ps' H' h' q1 q2 q3 q4⟩
end
/-- tuple(zip(a, b)), two lists of one length: a new tuple of new pairs -/
def tTupZip (K : PySem.W.Frag) (ta : TA) : TE := fun σ H Q => ta σ H fun vs H1 => ∃ (a b : Addr) (xs ys : List V), vs = [.ref a, .ref b] ∧ SqL K H1 a xs ∧ SqL K H1 b ys ∧ xs.length = ys.length ∧
  ∀ (ps : List Addr) (H2 : Hp) (q : Addr), ps.length = xs.length → (∀ c o, H1 c = some o → H2 c = some o) → (∀ (j : Nat) (x y : V) (p : Addr), xs[j]? = some x → ys[j]? = some y → ps[j]? = some p → H2 p = some (.tup [x, y])) →
    H2 q = some (.tup (ps.map V.ref)) → Q (.ref q) H2
theorem vals_refs : ∀ ps : List Addr, Vals (ps.map V.ref) (ps.map Value.ref)
  | [] => .nil
  | p :: ps => .cons rfl (vals_refs ps)
theorem pe_tupZip {X : Cx} {e e2 : Expr} {ta : TA} {p p2 pos pos2 : Pos} (hc : X.calm = true) (hg : Gl X "tuple") (hm : X.mg "tuple" = none) (hg2 : Gl X "zip") (hm2 : X.mg "zip" = none) (ha : L2.PA X [e, e2] ta)
    (hs : starEach [e, e2] X.env = (false, eval e X.env) :: starEach [e2] X.env := by rfl) (hpl : (backTo pos2 (starEach [e2] X.env)).any (·.1) = false := by rfl)
    (hs2 : starEach [.Call (.Name "zip" p2) [e, e2] [] pos2] X.env = (false, eval (.Call (.Name "zip" p2) [e, e2] [] pos2) X.env) :: starEach [] X.env := by rfl) :
    PE X (.Call (.Name "tuple" p) [.Call (.Name "zip" p2) [e, e2] [] pos2] [] pos) (tTupZip X.K ta) := by
  refine ⟨fun pins s σ H Q I h => ?_⟩
  refine Call_ (ld_blt I hg hm boot_tuple (PyProof.Rows.callWith_type1 (args_cons (Call_ (ld_blt I hg2 hm2 PyProof.Rows.boot_zip (PyProof.Rows.callWith_type1 (thn (ha.run pos2 pins s σ H _ I h) fun us s1 ⟨vs, H1, I1, r1, q1⟩ => ?_) hs hpl))) hs2) hs2 rfl))
  obtain ⟨a, b, xs, ys, ev, hqx, hqy, hl, q⟩ := q1
  subst ev
  cases r1 with
  | cons r rr =>
    cases rr with
    | cons r' rr =>
      cases rr
      cases r
      cases r'
      obtain ⟨its, rv, p1, hz⟩ := I1.list hqx
      obtain ⟨its2, rv2, p3, _⟩ := I1.list hqy
      have fresh5 : ∀ c, c ∈ [s1.heap.objs.size + 4, s1.heap.objs.size + 2, s1.heap.objs.size + 3, s1.heap.objs.size, s1.heap.objs.size + 1] → FpOk X pins H1 c := fun c hcm => by
        have hle : s1.heap.objs.size ≤ c := by
          simp only [List.mem_cons, List.not_mem_nil, or_false] at hcm
          omega
        exact I1.fpOk hle (I1.hok.fresh hle)
      refine call_zip_2 p1.isList p3.isList fun h' ez eTI eTO t1 t2 hsz hk => args_nil ?_
      have I2 : Inv X pins σ H1 { s1 with heap := h' } := I1.kept (t' := s1.toks) hk
      refine call_tuple_zip (s := { s1 with heap := h' }) (I1.ok.hd hc) rv rv2 hl hz (PySem.W.ktu_apart s1.heap.objs.size a b p1.lt p3.lt) I2 fresh5 ez eTI eTO t1 t2 (p1.isList.at fun o e => hk _ o e) (p3.isList.at fun o e => hk _ o e) fun ps' H' h'' w1 w2 w3 w4 => ?_
      have hn : H' h''.objs.size = none := w2.hok.fresh (Nat.le_refl _)
      have I3 : Inv X pins σ (upd H' h''.objs.size (.tup (ps'.map V.ref))) { s1 with heap := h''.push { cls := .type "tuple", data := .seq (ps'.map Value.ref).toArray } } :=
        w2.laid (t' := s1.toks) (fun c o e => Heap.get?_push_of_some _ e) (Nat.le_refl _) (show ObjOk X.prog X.w _ _ _ (.tup (ps'.map V.ref)) from ⟨by rw [List.length_map, w1]; exact hz, _, vals_refs ps', IsTup.new _ _⟩)
      exact ⟨.ref h''.objs.size, _, I3, rfl, q ps' _ _ w1 (fun c o e => by rw [upd_ne (ne_of_none (w3 c o e) hn)]; exact w3 c o e) (fun j x y p ex ey ep => by
        have := w4 j x y p ex ey ep
        rw [upd_ne (ne_of_none this hn)]
        exact this) (upd_same ..)⟩
end Ov
/-! ### what is worked out without a write: values by what is true of them -/
namespace Ov
open PySem PySem.Spec PyProof.Rows L2
abbrev VP := Hp → V → Prop
def ClV (A : VP) : Prop := ∀ (H H' : Hp) (v : V), Same H H' → A H v → A H' v
def ClP (A : Hp → Prop) : Prop := ∀ (H H' : Hp), Same H H' → A H → A H'
structure EvS (σ : L2.St) (Pre : Hp → Prop) (te : TE) (A : VP) : Prop where
  run : ∀ (H : Hp) (Q : VK), Pre H → (∀ H' v, Same H H' → A H' v → Q v H') → te σ H Q
  cl : ClV A
abbrev AllA (H : Hp) : List V → List VP → Prop := Paired fun v (A : VP) => A H v
theorem AllA.same {H H' : Hp} (s : Same H H') : ∀ {vs : List V} {As : List VP}, (∀ A ∈ As, ClV A) → AllA H vs As → AllA H' vs As
  | _, _, _, .nil => .nil
  | _, _, c, .cons h r => .cons (c _ List.mem_cons_self _ _ _ s h) (AllA.same s (fun A hA => c A (List.mem_cons_of_mem _ hA)) r)
structure EvA (σ : L2.St) (Pre : Hp → Prop) (ta : TA) (As : List VP) : Prop where
  run : ∀ (H : Hp) (Q : List V → Hp → Prop), Pre H → (∀ H' vs, Same H H' → AllA H' vs As → Q vs H') → ta σ H Q
  cl : ∀ A ∈ As, ClV A
def TupA (As : List VP) : VP := fun H v => ∃ p vs, v = .ref p ∧ H p = some (.tup vs) ∧ AllA H vs As
def LstA (As : List VP) : VP := fun H v => ∃ p vs, v = .ref p ∧ H p = some (.lst vs) ∧ AllA H vs As
section
variable {σ : L2.St} {Pre : Hp → Prop} {ta tb te : TE} {t : TA} {A B : VP} {As : List VP}
theorem eva_nil : EvA σ Pre tNil [] := ⟨fun H Q _ q => q H [] (Same.refl H) .nil, fun _ h => nomatch h⟩
theorem eva_cons (hP : ClP Pre) (ha : EvS σ Pre te A) (hr : EvA σ Pre t As) : EvA σ Pre (tCons te t) (A :: As) := ⟨fun H Q p q =>
  ha.run H _ p fun H1 v s1 a => hr.run H1 _ (hP _ _ s1 p) fun H2 vs s2 as => q H2 (v :: vs) (s1.trans s2) (.cons (ha.cl _ _ _ s2 a) as), fun B h => by
  rcases List.mem_cons.mp h with e | e
  · rw [e]; exact ha.cl
  · exact hr.cl B e⟩
theorem evs_tup (ha : EvA σ Pre t As) (hl : As.length ≤ 1000 := by exact Nat.le_of_ble_eq_true rfl) : EvS σ Pre (tTup t) (TupA As) := ⟨fun H Q p q =>
  ha.run H _ p fun H1 vs s1 as => ⟨sml _ (by rw [Paired.length as]; exact hl), fun r hr => q _ _ (s1.trans (Same.new hr)) ⟨r, vs, rfl, upd_same, AllA.same (Same.new hr) ha.cl as⟩⟩, fun _ _ _ s ⟨p, vs, e, h, a⟩ => ⟨p, vs, e, s _ _ h, a.same s ha.cl⟩⟩
theorem evs_lst (ha : EvA σ Pre t As) (hl : As.length ≤ 1000 := by exact Nat.le_of_ble_eq_true rfl) : EvS σ Pre (tLst t) (LstA As) := ⟨fun H Q p q =>
  ha.run H _ p fun H1 vs s1 as => ⟨sml _ (by rw [Paired.length as]; exact hl), fun r hr => q _ _ (s1.trans (Same.new hr)) ⟨r, vs, rfl, upd_same, AllA.same (Same.new hr) ha.cl as⟩⟩, fun _ _ _ s ⟨p, vs, e, h, a⟩ => ⟨p, vs, e, s _ _ h, a.same s ha.cl⟩⟩
theorem evs_c {v : V} : EvS σ Pre (tC v) (fun _ x => x = v) := ⟨fun H Q _ q => q H v (Same.refl H) rfl, fun _ _ _ _ h => h⟩
theorem evs_var {i : Nat} {v : V} (e : σ[i]? = some (some v)) : EvS σ Pre (tVar i) (fun _ x => x = v) := ⟨fun H Q _ q => ⟨v, e, q H v (Same.refl H) rfl⟩, fun _ _ _ _ h => h⟩
theorem evs_neg {i : Int} : EvS σ Pre (tUn (rU fun i => V.int (-i)) (tC (V.int i))) (fun _ x => x = V.int (-i)) := ⟨fun H Q _ q => ⟨i, rfl, q H _ (Same.refl H) rfl⟩, fun _ _ _ _ h => h⟩
theorem EvS.imp (h : EvS σ Pre te A) (c : ClV B) (i : ∀ {H v}, A H v → B H v) : EvS σ Pre te B := ⟨fun H Q p q => h.run H Q p fun H' v s a => q H' v s (i a), c⟩
end
end Ov
/-! ### papers as data -/
namespace Ov
open PySem PySem.Spec PyProof.Rows L2
/-- what may be: whether a number, ways to which functions -/
abbrev Wo := Bool × List Nat
def Wo.has (a : Wo) : Wt → Prop
  | .num _ => a.1 = true
  | .way f => f ∈ a.2
def Wo.le (a b : Wo) : Prop := ∀ x, a.has x → b.has x
abbrev no : Wo := (false, [])
abbrev nu : Wo := (true, [])
def uni (a b : Wo) : Wo := (a.1 || b.1, (List.range 8).filter fun k => decide (k ∈ a.2 ∨ k ∈ b.2))
/-- rising, of functions below n -/
structure WoOk (n : Nat) (a : Wo) : Prop where
  up : a.2.Pairwise (· < ·)
  lt : ∀ k ∈ a.2, k < n
theorem no_ok (n : Nat) : WoOk n no := ⟨.nil, fun _ h => nomatch h⟩
theorem nu_ok (n : Nat) : WoOk n nu := ⟨.nil, fun _ h => nomatch h⟩
theorem no_has {x : Wt} (h : no.has x) : False := by
  cases x with
  | num z => cases h
  | way f => cases h
theorem mem_uni {a b : Wo} {n k : Nat} (ha : WoOk n a) (hb : WoOk n b) (n8 : n ≤ 8) : k ∈ (uni a b).2 ↔ k ∈ a.2 ∨ k ∈ b.2 := by
  have e : (uni a b).2 = (List.range 8).filter fun k => decide (k ∈ a.2 ∨ k ∈ b.2) := rfl
  rw [e, List.mem_filter, List.mem_range, decide_eq_true_iff]
  refine ⟨fun h => h.2, fun h => ⟨?_, h⟩⟩
  rcases h with h | h
  · have := ha.lt _ h; omega
  · have := hb.lt _ h; omega
theorem uni_ok {a b : Wo} {n : Nat} (ha : WoOk n a) (hb : WoOk n b) (n8 : n ≤ 8) : WoOk n (uni a b) :=
  ⟨List.Pairwise.filter _ List.pairwise_lt_range, fun k h => by
    rcases (mem_uni ha hb n8).mp h with h | h
    · exact ha.lt _ h
    · exact hb.lt _ h⟩
theorem uni_has {a b : Wo} {n : Nat} (ha : WoOk n a) (hb : WoOk n b) (n8 : n ≤ 8) {x : Wt} : (uni a b).has x ↔ a.has x ∨ b.has x := by
  cases x with
  | num z => exact Bool.or_eq_true _ _ ▸ Iff.rfl
  | way f => exact mem_uni ha hb n8
theorem Wo.le.refl (a : Wo) : a.le a := fun _ h => h
theorem Wo.le.trans {a b c : Wo} (h : a.le b) (g : b.le c) : a.le c := fun x z => g x (h x z)
theorem no_le (a : Wo) : no.le a := fun _ h => (no_has h).elim
theorem le_uni_l {a b : Wo} {n : Nat} (ha : WoOk n a) (hb : WoOk n b) (n8 : n ≤ 8) : a.le (uni a b) := fun _ h => (uni_has ha hb n8).mpr (.inl h)
theorem le_uni_r {a b : Wo} {n : Nat} (ha : WoOk n a) (hb : WoOk n b) (n8 : n ≤ 8) : b.le (uni a b) := fun _ h => (uni_has ha hb n8).mpr (.inr h)
theorem uni_le {a b c : Wo} {n : Nat} (ha : WoOk n a) (hb : WoOk n b) (n8 : n ≤ 8) (h : a.le c) (g : b.le c) : (uni a b).le c := fun x z => ((uni_has ha hb n8).mp z).elim (h x) (g x)
theorem sorted_sub : ∀ (m l : List Nat), l.Pairwise (· < ·) → m.Pairwise (· < ·) → (∀ x ∈ l, x ∈ m) → l.Sublist m
  | [], l, _, _, h => by
    cases l with
    | nil => exact .slnil
    | cons a l => exact absurd (h a List.mem_cons_self) (fun z => nomatch z)
  | b :: m, l, hl, hm, h => by
    cases l with
    | nil => exact List.nil_sublist _
    | cons a l =>
      have pl := List.pairwise_cons.mp hl
      have pm := List.pairwise_cons.mp hm
      by_cases e : a = b
      · subst e
        refine .cons₂ _ (sorted_sub m l pl.2 pm.2 fun x hx => ?_)
        rcases List.mem_cons.mp (h x (List.mem_cons_of_mem _ hx)) with z | z
        · have := pl.1 x hx; omega
        · exact z
      · refine .cons _ (sorted_sub m (a :: l) hl pm.2 fun x hx => ?_)
        have am : a ∈ m := by
          rcases List.mem_cons.mp (h a List.mem_cons_self) with z | z
          · exact absurd z e
          · exact z
        have ab := pm.1 a am
        rcases List.mem_cons.mp (h x hx) with z | z
        · rcases List.mem_cons.mp hx with y | y
          · rw [y]; exact am
          · have := pl.1 x y; omega
        · exact z
def Wo.sz (a : Wo) : Nat := (if a.1 then 1 else 0) + a.2.length
theorem Wo.le.sub {a b : Wo} {n : Nat} (ha : WoOk n a) (hb : WoOk n b) (h : a.le b) : a.2.Sublist b.2 := sorted_sub _ _ ha.up hb.up fun x hx => h (.way x) hx
theorem Wo.le.sz {a b : Wo} {n : Nat} (ha : WoOk n a) (hb : WoOk n b) (h : a.le b) : a.sz ≤ b.sz := by
  have h1 := (h.sub ha hb).length_le
  have h2 := h (.num 0)
  unfold Wo.sz
  simp only [Wo.has] at h2
  cases e : a.1 <;> cases e2 : b.1 <;> simp_all <;> omega
theorem Wo.le.eq {a b : Wo} {n : Nat} (ha : WoOk n a) (hb : WoOk n b) (h : a.le b) (g : b.sz ≤ a.sz) : a = b := by
  have h1 := (h.sub ha hb).length_le
  have h2 := h (.num 0)
  unfold Wo.sz at g
  simp only [Wo.has] at h2
  have e1 : a.1 = b.1 := by cases e : a.1 <;> cases e2 : b.1 <;> simp_all <;> omega
  rw [e1] at g
  exact Prod.ext e1 ((h.sub ha hb).eq_of_length_le (by omega))
theorem Wo.sz_le {a : Wo} {n : Nat} (ha : WoOk n a) (n8 : n ≤ 8) : a.sz ≤ 9 := by
  have h : a.2.Sublist (List.range 8) := sorted_sub _ _ ha.up List.pairwise_lt_range fun x hx => List.mem_range.mpr (by have := ha.lt x hx; omega)
  have := h.length_le
  rw [List.length_range] at this
  unfold Wo.sz
  split <;> omega
theorem uni_eq {a b : Wo} {n : Nat} (ha : WoOk n a) (hb : WoOk n b) (n8 : n ≤ 8) : uni a b = b ↔ a.le b := by
  constructor
  · intro h
    rw [← h]
    exact le_uni_l ha hb n8
  · intro h
    refine (Wo.le.eq hb (uni_ok ha hb n8) (le_uni_r ha hb n8) ?_).symm
    exact Wo.le.sz (uni_ok ha hb n8) hb (uni_le ha hb n8 h (Wo.le.refl b))
/-! words -/
abbrev Pap := List (Wo × Wo)
def Pap.came (p : Pap) (f : Nat) : Wo := (p.getD f (no, no)).1
def Pap.tells (p : Pap) (f : Nat) : Wo := (p.getD f (no, no)).2
structure PapOk (n : Nat) (p : Pap) : Prop where
  len : p.length = n
  ok : ∀ x ∈ p, WoOk n x.1 ∧ WoOk n x.2
theorem PapOk.came {n : Nat} {p : Pap} (h : PapOk n p) (f : Nat) : WoOk n (p.came f) := by
  unfold Pap.came
  rw [List.getD_eq_getElem?_getD]
  cases e : p[f]? with
  | none => exact no_ok n
  | some x => exact (h.ok x (List.mem_of_getElem? e)).1
theorem PapOk.tells {n : Nat} {p : Pap} (h : PapOk n p) (f : Nat) : WoOk n (p.tells f) := by
  unfold Pap.tells
  rw [List.getD_eq_getElem?_getD]
  cases e : p[f]? with
  | none => exact no_ok n
  | some x => exact (h.ok x (List.mem_of_getElem? e)).2
def unis (p : Pap) (fs : List Nat) : Wo := fs.foldl (fun t f => uni t (p.tells f)) no
theorem unis_ok {p : Pap} {n : Nat} (h : PapOk n p) (n8 : n ≤ 8) : ∀ (fs : List Nat) (t : Wo), WoOk n t → WoOk n (fs.foldl (fun t f => uni t (p.tells f)) t)
  | [], _, ht => ht
  | f :: fs, t, ht => unis_ok h n8 fs _ (uni_ok ht (h.tells f) n8)
theorem unis_has {p : Pap} {n : Nat} (h : PapOk n p) (n8 : n ≤ 8) {x : Wt} : ∀ (fs : List Nat) (t : Wo), WoOk n t → ((fs.foldl (fun t f => uni t (p.tells f)) t).has x ↔ t.has x ∨ ∃ f ∈ fs, (p.tells f).has x)
  | [], t, _ => by simp
  | f :: fs, t, ht => by
    rw [List.foldl_cons, unis_has h n8 fs _ (uni_ok ht (h.tells f) n8), uni_has ht (h.tells f) n8]
    simp only [List.mem_cons, exists_eq_or_imp]
    exact or_assoc
/-- what a word may be, by what its arms may be -/
def wop (p : Pap) (c : Wo) (o : Op) (g : Int) (ws : List Wo) : Wo := match o with
  | .arg => c
  | .way => (false, [g.toNat])
  | .ife => uni (ws.getD 1 no) (ws.getD 2 no)
  | .thn => ws.getD 1 no
  | .call => unis p [g.toNat]
  | .through => unis p (ws.getD 0 no).2
  | _ => nu
abbrev Row := Op × Int × List Nat
/-- what the words from the b-th on may be -/
def sol (p : Pap) (c : Wo) : Nat → List Row → List Wo
  | _, [] => []
  | b, r :: rs => wop p c r.1 r.2.1 (r.2.2.map fun j => (sol p c (b + 1) rs).getD (j - (b + 1)) no) :: sol p c (b + 1) rs
theorem sol_len (p : Pap) (c : Wo) : ∀ (b : Nat) (rs : List Row), (sol p c b rs).length = rs.length
  | _, [] => rfl
  | b, r :: rs => congrArg Nat.succ (sol_len p c (b + 1) rs)
theorem sol_drop (p : Pap) (c : Wo) : ∀ (k b : Nat) (rs : List Row), (sol p c b rs).drop k = sol p c (b + k) (rs.drop k)
  | 0, b, rs => rfl
  | k + 1, b, [] => by simp [sol]
  | k + 1, b, r :: rs => by
    rw [sol, List.drop_succ_cons, List.drop_succ_cons, sol_drop p c k (b + 1) rs]
    congr 1
    omega
/-- a row whose arms are further on -/
structure RowOk (n k sz : Nat) (r : Row) : Prop where
  fits : r.1.fits n r.2.1
  ar : r.2.2.length = r.1.arity
  arms : ∀ j ∈ r.2.2, k < j ∧ j < sz
theorem sol_at {p : Pap} {c : Wo} {rows : List Row} {k n : Nat} {r : Row} (e : rows[k]? = some r) (h : RowOk n k rows.length r) : (sol p c 0 rows)[k]? = some (wop p c r.1 r.2.1 (r.2.2.map fun j => (sol p c 0 rows).getD j no)) := by
  have d := sol_drop p c k 0 rows
  have hk : k < rows.length := (List.getElem?_eq_some_iff.mp e).1
  have e2 : rows.drop k = r :: rows.drop (k + 1) := by rw [List.drop_eq_getElem_cons hk, (List.getElem?_eq_some_iff.mp e).2]
  rw [e2, sol] at d
  have z : (sol p c 0 rows)[k]? = ((sol p c 0 rows).drop k)[0]? := by rw [List.getElem?_drop]; rfl
  rw [z, d, List.getElem?_cons_zero]
  have d1 := sol_drop p c (k + 1) 0 rows
  congr 2
  refine List.map_congr_left fun j hj => ?_
  have hj2 := h.arms j hj
  rw [Nat.zero_add] at d1 ⊢
  rw [← d1, List.getD_eq_getElem?_getD, List.getD_eq_getElem?_getD, List.getElem?_drop, show k + 1 + (j - (k + 1)) = j by omega]
theorem wop_ok {p : Pap} {c : Wo} {n : Nat} (h : PapOk n p) (hc : WoOk n c) (n8 : n ≤ 8) {o : Op} {g : Int} (hg : o.fits n g) {ws : List Wo} (hw : ∀ x ∈ ws, WoOk n x) : WoOk n (wop p c o g ws) := by
  have gd : ∀ j, WoOk n (ws.getD j no) := fun j => by
    rw [List.getD_eq_getElem?_getD]
    cases e : ws[j]? with
    | none => exact no_ok n
    | some x => exact hw x (List.mem_of_getElem? e)
  cases o with
  | arg => exact hc
  | way =>
    refine ⟨List.pairwise_singleton _ _, fun k hk => ?_⟩
    have : 0 ≤ g ∧ g < n := hg
    rw [List.mem_singleton.mp hk]
    omega
  | ife => exact uni_ok (gd 1) (gd 2) n8
  | thn => exact gd 1
  | call => exact unis_ok h n8 _ _ (no_ok n)
  | through => exact unis_ok h n8 _ _ (no_ok n)
  | num => exact nu_ok n
  | plus => exact nu_ok n
  | less => exact nu_ok n
  | times => exact nu_ok n
  | say => exact nu_ok n
theorem sol_ok {p : Pap} {c : Wo} {n : Nat} (h : PapOk n p) (hc : WoOk n c) (n8 : n ≤ 8) : ∀ (b : Nat) (rs : List Row), (∀ r ∈ rs, r.1.fits n r.2.1) → ∀ x ∈ sol p c b rs, WoOk n x
  | _, [], _, x, hx => nomatch hx
  | b, r :: rs, hr, x, hx => by
    have ih := sol_ok h hc n8 (b + 1) rs fun r' h' => hr r' (List.mem_cons_of_mem _ h')
    rw [sol] at hx
    rcases List.mem_cons.mp hx with e | e
    · rw [e]
      refine wop_ok h hc n8 (hr r List.mem_cons_self) fun y hy => ?_
      obtain ⟨j, _, rfl⟩ := List.mem_map.mp hy
      rw [List.getD_eq_getElem?_getD]
      cases e : (sol p c (b + 1) rs)[j - (b + 1)]? with
      | none => exact no_ok n
      | some z => exact ih z (List.mem_of_getElem? e)
    · exact ih x e
theorem rowss_okk {n : Nat} {Pr : Nat → Row → Prop} : ∀ (ws : List W) (b k : Nat) (r : Row), (∀ w ∈ ws, ∀ b k r, (w.rows b)[k]? = some r → RowOk n (b + k) (b + w.size) r) → (W.rowss b ws)[k]? = some r → RowOk n (b + k) (b + W.sizes ws) r
  | [], b, k, r, _, e => by rw [W.rowss] at e; simp at e
  | w :: ws, b, k, r, hw, e => by
    rw [W.rowss] at e
    rw [W.sizes]
    by_cases hk : k < (w.rows b).length
    · rw [List.getElem?_append_left hk] at e
      have q := hw w List.mem_cons_self b k r e
      exact ⟨q.fits, q.ar, fun j hj => ⟨(q.arms j hj).1, by have := (q.arms j hj).2; omega⟩⟩
    · rw [List.getElem?_append_right (by omega)] at e
      have q := rowss_okk (Pr := Pr) ws (b + w.size) (k - (w.rows b).length) r (fun w' h' => hw w' (List.mem_cons_of_mem _ h')) e
      rw [W.rows_len] at q hk
      have e1 : b + w.size + (k - w.size) = b + k := by omega
      have e2 : b + w.size + W.sizes ws = b + (w.size + W.sizes ws) := by omega
      rw [e1, e2] at q
      exact q
theorem starts_in : ∀ (ws : List W) (b j : Nat), (∀ w ∈ ws, 1 ≤ w.size) → j ∈ starts b ws → b ≤ j ∧ j < b + W.sizes ws
  | [], b, j, _, h => nomatch h
  | w :: ws, b, j, hw, h => by
    have h1 := hw w List.mem_cons_self
    rw [W.sizes]
    rcases List.mem_cons.mp (show j ∈ b :: starts (b + w.size) ws from h) with e | e
    · omega
    · have := starts_in ws (b + w.size) j (fun w' h' => hw w' (List.mem_cons_of_mem _ h')) e
      omega
theorem rows_ok {n : Nat} : ∀ (d : Nat) (w : W), WOk n d w → ∀ (b k : Nat) (r : Row), (w.rows b)[k]? = some r → RowOk n (b + k) (b + w.size) r
  | 0, w, h, _, _, _, _ => absurd h wok0
  | d + 1, w, h, b, k, r, e => by
    cases h with
    | @mk _ o g as h1 h2 h3 =>
    rw [W.rows_mk] at e
    rw [W.size_mk]
    cases k with
    | zero =>
      have e2 := Option.some.inj e
      subst e2
      refine ⟨h2, (starts_len _ _).trans h1, fun j hj => ?_⟩
      have := starts_in as (b + 1) j (fun w hw => by cases w; rw [W.size_mk]; omega) hj
      omega
    | succ k =>
      have e2 : (W.rowss (b + 1) as)[k]? = some r := e
      have q := rowss_okk (n := n) (Pr := fun _ _ => True) as (b + 1) k r (fun w hw b k r e => rows_ok d w (h3 w hw) b k r e) e2
      have e3 : b + 1 + k = b + (k + 1) := by omega
      have e4 : b + 1 + W.sizes as = b + (1 + W.sizes as) := by omega
      rw [e3, e4] at q
      exact q
/-! what is entered, what is handed on -/
def ents (full : List Wo) (r : Row) : List Nat := match r.1 with
  | .call => [r.2.1.toNat]
  | .through => (full.getD (r.2.2.getD 0 0) no).2
  | _ => []
def hand (rows : List Row) (full : List Wo) : List (Nat × Wo) := rows.flatMap fun r => (ents full r).map fun c => (c, full.getD (r.2.2.getLastD 0) no)
def step1 (cm : List Wo) (x : Nat × Wo) : List Wo := cm.set x.1 (uni (cm.getD x.1 no) x.2)
def askF (p : Pap) (st : List Wo × List Wo) (f : Nat) (b : W) : List Wo × List Wo :=
  if p.came f = no then st else
    ((hand (b.rows 0) (sol p (p.came f) 0 (b.rows 0))).foldl step1 st.1, st.2.set f ((sol p (p.came f) 0 (b.rows 0)).getD 0 no))
def askL (p : Pap) : Nat → List W → List Wo × List Wo → List Wo × List Wo
  | _, [], st => st
  | f, b :: bs, st => askL p (f + 1) bs (askF p st f b)
def asked (bs : List W) (p : Pap) : Pap := let st := askL p 0 bs ((List.replicate bs.length no).set 0 nu, List.replicate bs.length no)
  st.1.zip st.2
end Ov
/-! ### papers in the heap -/
namespace Ov
open PySem PySem.Spec PyProof.Rows L2
/-- a tuple, laid or of the top -/
def TupAt (K : PySem.W.Frag) (H : Hp) (a : Addr) (xs : List V) : Prop := H a = some (.tup xs) ∨ ∀ H', SqT K H' a xs
theorem TupAt.sq {K : PySem.W.Frag} {H : Hp} {a : Addr} {xs : List V} (h : TupAt K H a xs) : SqT K H a xs := by
  rcases h with h | h
  · exact SqT.of h
  · exact h H
theorem TupAt.keep {K : PySem.W.Frag} {H H' : Hp} {a : Addr} {xs : List V} (k : Keep H H') (h : TupAt K H a xs) : TupAt K H' a xs := by
  rcases h with h | h
  · exact .inl (k _ _ h)
  · exact .inr h
def WoAt (K : PySem.W.Frag) (H : Hp) (v : V) (a : Wo) : Prop := ∃ p q, v = .ref p ∧ TupAt K H p [.bl a.1, .ref q] ∧ TupAt K H q (nV a.2)
def ShAt (K : PySem.W.Frag) (H : Hp) (v : V) (s : Wo × Wo) : Prop := ∃ p x y, v = .ref p ∧ TupAt K H p [x, y] ∧ WoAt K H x s.1 ∧ WoAt K H y s.2
def PpAt (K : PySem.W.Frag) (H : Hp) (v : V) (p : Pap) : Prop := ∃ a vs, v = .ref a ∧ TupAt K H a vs ∧ Paired (ShAt K H) vs p
section
variable {K : PySem.W.Frag} {H H' : Hp} {v : V}
theorem WoAt.keep {a : Wo} (k : Keep H H') (h : WoAt K H v a) : WoAt K H' v a := let ⟨p, q, e, h1, h2⟩ := h; ⟨p, q, e, h1.keep k, h2.keep k⟩
theorem ShAt.keep {a : Wo × Wo} (k : Keep H H') (h : ShAt K H v a) : ShAt K H' v a := let ⟨p, x, y, e, h1, h2, h3⟩ := h; ⟨p, x, y, e, h1.keep k, h2.keep k, h3.keep k⟩
theorem PpAt.keep {a : Pap} (k : Keep H H') (h : PpAt K H v a) : PpAt K H' v a := let ⟨p, vs, e, h1, h2⟩ := h; ⟨p, vs, e, h1.keep k, L2.Paired.mapP h2 fun _ _ z => z.keep k⟩
end
/-! as data that is compared -/
def dNs (l : List Nat) : PyData := .tuple (l.map fun (k : Nat) => .int (k : Int))
def dWo (a : Wo) : PyData := .tuple [.bool a.1, dNs a.2]
def dSh (s : Wo × Wo) : PyData := .tuple [dWo s.1, dWo s.2]
def dPp (p : Pap) : PyData := .tuple (p.map dSh)
section
variable {K : PySem.W.Frag} {H : Hp}
theorem nV_dp : ∀ l : List Nat, DpAll K H (nV l) (l.map fun (k : Nat) => PyData.int (k : Int))
  | [] => .nil
  | k :: l => .cons (.int _) (nV_dp l)
theorem WoAt.dp {v : V} {a : Wo} (h : WoAt K H v a) : Dp K H v (dWo a) := by
  obtain ⟨p, q, rfl, h1, h2⟩ := h
  exact .tup h1.sq (.cons (.bl _) (.cons (.tup h2.sq (nV_dp _)) .nil))
theorem ShAt.dp {v : V} {a : Wo × Wo} (h : ShAt K H v a) : Dp K H v (dSh a) := by
  obtain ⟨p, x, y, rfl, h1, h2, h3⟩ := h
  exact .tup h1.sq (.cons h2.dp (.cons h3.dp .nil))
theorem paired_dp {α : Type} {R : V → α → Prop} {d : α → PyData} (f : ∀ v a, R v a → Dp K H v (d a)) : ∀ {vs : List V} {l : List α}, Paired R vs l → DpAll K H vs (l.map d)
  | _, _, .nil => .nil
  | _, _, .cons h r => .cons (f _ _ h) (paired_dp f r)
theorem PpAt.dp {v : V} {a : Pap} (h : PpAt K H v a) : Dp K H v (dPp a) := by
  obtain ⟨p, vs, rfl, h1, h2⟩ := h
  exact .tup h1.sq (paired_dp (fun _ _ z => z.dp) h2)
end
theorem eqvAll_map {α : Type} [DecidableEq α] {d : α → PyData} (h : ∀ x y, PyData.eqv (d x) (d y) = decide (x = y)) : ∀ l m : List α, PyData.eqvAll (l.map d) (m.map d) = decide (l = m)
  | [], [] => by simp [PyData.eqvAll]
  | [], _ :: _ => by simp [PyData.eqvAll]
  | _ :: _, [] => by simp [PyData.eqvAll]
  | x :: l, y :: m => by
    show (PyData.eqv (d x) (d y) && PyData.eqvAll (l.map d) (m.map d)) = _
    rw [h, eqvAll_map h l m]
    simp [Bool.decide_and]
theorem eqv_int (x y : Nat) : PyData.eqv (.int (x : Int)) (.int (y : Int)) = decide (x = y) := by
  show ((x : Int) == (y : Int)) = _
  by_cases c : x = y
  · subst c; simp
  · simp [c]; omega
theorem eqv_dNs (l m : List Nat) : PyData.eqv (dNs l) (dNs m) = decide (l = m) := eqvAll_map eqv_int l m
theorem eqv_dWo (a b : Wo) : PyData.eqv (dWo a) (dWo b) = decide (a = b) := by
  show (PyData.eqv (.bool a.1) (.bool b.1) && (PyData.eqv (dNs a.2) (dNs b.2) && true)) = _
  rw [eqv_dNs, Bool.and_true]
  show ((a.1 == b.1) && _) = _
  obtain ⟨a1, a2⟩ := a
  obtain ⟨b1, b2⟩ := b
  simp [Bool.decide_and]
  rfl
theorem eqv_dSh (a b : Wo × Wo) : PyData.eqv (dSh a) (dSh b) = decide (a = b) := by
  show (PyData.eqv (dWo a.1) (dWo b.1) && (PyData.eqv (dWo a.2) (dWo b.2) && true)) = _
  rw [eqv_dWo, eqv_dWo, Bool.and_true]
  obtain ⟨a1, a2⟩ := a
  obtain ⟨b1, b2⟩ := b
  simp [Bool.decide_and]
theorem eqv_dPp (a b : Pap) : PyData.eqv (dPp a) (dPp b) = decide (a = b) := eqvAll_map eqv_dSh a b
theorem canAll_map {α : Type} {d : α → PyData} (h : ∀ x, PyData.canLay0 (d x) = true) : ∀ l : List α, PyData.canLayAll0 (l.map d) = true
  | [] => by simp [PyData.canLayAll0]
  | x :: l => by
    show (PyData.canLay0 (d x) && PyData.canLayAll0 (l.map d)) = true
    rw [h, canAll_map h l]
    rfl
theorem depthAll_map {α : Type} {d : α → PyData} {k : Nat} (h : ∀ x, PyData.depth (d x) ≤ k) : ∀ l : List α, PyData.depthAll (l.map d) ≤ k
  | [] => by simp [PyData.depthAll]
  | x :: l => by
    show max (PyData.depth (d x)) (PyData.depthAll (l.map d)) ≤ k
    exact Nat.max_le.mpr ⟨h x, depthAll_map h l⟩
theorem can_dNs (l : List Nat) : PyData.canLay0 (dNs l) = true := canAll_map (fun _ => rfl) l
theorem dep_dNs (l : List Nat) : PyData.depth (dNs l) ≤ 1 := Nat.succ_le_succ (depthAll_map (d := fun (k : Nat) => PyData.int (k : Int)) (k := 0) (fun _ => Nat.le_refl _) l)
theorem can_dWo (a : Wo) : PyData.canLay0 (dWo a) = true := by
  show (PyData.canLay0 (.bool a.1) && (PyData.canLay0 (dNs a.2) && PyData.canLayAll0 [])) = true
  rw [can_dNs]
  rfl
theorem dep_dWo (a : Wo) : PyData.depth (dWo a) ≤ 2 := by
  show max (PyData.depth (.bool a.1)) (max (PyData.depth (dNs a.2)) (PyData.depthAll [])) + 1 ≤ 2
  have := dep_dNs a.2
  refine Nat.succ_le_succ (Nat.max_le.mpr ⟨Nat.zero_le _, Nat.max_le.mpr ⟨this, Nat.zero_le _⟩⟩)
theorem can_dSh (a : Wo × Wo) : PyData.canLay0 (dSh a) = true := by
  show (PyData.canLay0 (dWo a.1) && (PyData.canLay0 (dWo a.2) && PyData.canLayAll0 [])) = true
  rw [can_dWo, can_dWo]
  rfl
theorem dep_dSh (a : Wo × Wo) : PyData.depth (dSh a) ≤ 3 := by
  show max (PyData.depth (dWo a.1)) (max (PyData.depth (dWo a.2)) (PyData.depthAll [])) + 1 ≤ 3
  exact Nat.succ_le_succ (Nat.max_le.mpr ⟨dep_dWo _, Nat.max_le.mpr ⟨dep_dWo _, Nat.zero_le _⟩⟩)
theorem sh_dWo (a : Wo) : SeqAt.shaped (dWo a) = true := by
  unfold SeqAt.shaped
  rw [can_dWo, decide_eq_true (Nat.le_trans (dep_dWo a) (by decide))]
  rfl
theorem sh_dPp (a : Pap) : SeqAt.shaped (dPp a) = true := by
  unfold SeqAt.shaped
  rw [show PyData.canLay0 (dPp a) = true from canAll_map can_dSh a, decide_eq_true (show PyData.depth (dPp a) ≤ 64 from Nat.le_trans (Nat.succ_le_succ (depthAll_map dep_dSh a)) (by decide))]
  rfl
/-! set(xs), xs a tuple of ints -/
def rSetT (K : PySem.W.Frag) (w : World) : List V → Hp → VK → Prop := fun xs H Q => ∃ (l : Addr) (ns : List Int), xs = [V.ref l] ∧ SqT K H l (ns.map V.int) ∧ ns.length ≤ 4000 ∧ ∀ (p : Addr) (c : Nat), H p = none → c ≤ ns.length → Q (.ref p) (upd H p (SetO w p (fun j => decide (j ∈ ns)) c))
theorem cr_setT {X : Cx} (hc : X.calm = true) : CallR X (.type "set") (rSetT X.K X.w) := by
  intro pins s σ H xs us Q I r h
  obtain ⟨l, ns, rfl, hl, hz, q⟩ := h
  rw [Vals.ref1 r]
  obtain ⟨its, rv, pl, _⟩ := I.tuple hl
  refine call_set_tupI ns (I.ok.hd hc) (show s.heap.IsTuple l its.toArray from pl) (by simpa using rv.ints) (by unfold scanBound; omega) fun h' tk c R le k => ?_
  exact ⟨.ref s.heap.objs.size, _, I.laid (t' := tk) k (Nat.le_refl _) (setO_new R), rfl, q _ c (I.hok.fresh (Nat.le_refl _)) le⟩
theorem nV_map (l : List Nat) : nV l = (l.map fun (k : Nat) => (k : Int)).map V.int := by
  unfold nV
  rw [List.map_map]
  rfl
theorem sorted_eq {l m : List Nat} (hl : l.Pairwise (· < ·)) (hm : m.Pairwise (· < ·)) (h : ∀ x, x ∈ l ↔ x ∈ m) : l = m :=
  (sorted_sub m l hl hm fun x z => (h x).mp z).eq_of_length_le (sorted_sub l m hm hl fun x z => (h x).mpr z).length_le
theorem ints_nat : ∀ ns : List Int, (∀ k ∈ ns, 0 ≤ k) → (ns.map Int.toNat).map (fun (k : Nat) => (k : Int)) = ns
  | [], _ => rfl
  | k :: ns, h => by
    have h0 := h k List.mem_cons_self
    rw [List.map_cons, List.map_cons, ints_nat ns fun j hj => h j (List.mem_cons_of_mem _ hj)]
    congr 1
    omega
theorem ints_nats_up : ∀ ns : List Int, (∀ k ∈ ns, 0 ≤ k) → ns.Pairwise (· < ·) → (ns.map Int.toNat).Pairwise (· < ·)
  | [], _, _ => .nil
  | k :: ns, h, p => by
    have q := List.pairwise_cons.mp p
    have h0 := h k List.mem_cons_self
    refine List.pairwise_cons.mpr ⟨fun x hx => ?_, ints_nats_up ns (fun j hj => h j (List.mem_cons_of_mem _ hj)) q.2⟩
    obtain ⟨j, hj, rfl⟩ := List.mem_map.mp hx
    have := q.1 j hj
    have := h j (List.mem_cons_of_mem _ hj)
    omega
theorem ints_of {l : List Nat} {ns : List Int} (hl : l.Pairwise (· < ·)) (hn : ns.Pairwise (· < ·)) (h : ∀ k : Int, k ∈ ns ↔ ∃ j ∈ l, ((j : Nat) : Int) = k) : ns.map V.int = nV l := by
  have h0 : ∀ k ∈ ns, 0 ≤ k := fun k hk => by
    obtain ⟨j, _, rfl⟩ := (h k).mp hk
    omega
  have e : ns.map Int.toNat = l := sorted_eq (ints_nats_up ns h0 hn) hl fun x => by
    rw [List.mem_map]
    constructor
    · rintro ⟨k, hk, rfl⟩
      obtain ⟨j, hj, rfl⟩ := (h k).mp hk
      simpa using hj
    · intro hx
      exact ⟨(x : Int), (h _).mpr ⟨x, hx, rfl⟩, by simp⟩
  rw [nV_map, ← e, ints_nat ns h0]
theorem mem_ints {l : List Nat} {k : Int} : k ∈ (l.map fun (j : Nat) => (j : Int)) ↔ ∃ j ∈ l, ((j : Nat) : Int) = k := List.mem_map
theorem WoOk.len {n : Nat} {a : Wo} (h : WoOk n a) (n8 : n ≤ 8) : a.2.length ≤ 8 := by
  have := Wo.sz_le h n8
  have h2 : a.2.Sublist (List.range 8) := sorted_sub _ _ h.up List.pairwise_lt_range fun x hx => List.mem_range.mpr (by have := h.lt x hx; omega)
  have := h2.length_le
  rwa [List.length_range] at this
/-- what is known of a body when the words from the k-th on are done -/
def known (p : Pap) (c : Wo) (rows : List Row) (k : Nat) : List Wo := List.replicate k no ++ sol p c k (rows.drop k)
theorem known_len {p : Pap} {c : Wo} {rows : List Row} {k : Nat} (hk : k ≤ rows.length) : (known p c rows k).length = rows.length := by
  unfold known
  rw [List.length_append, List.length_replicate, sol_len, List.length_drop]
  omega
theorem known_getD {p : Pap} {c : Wo} {rows : List Row} {k j : Nat} (hj : k ≤ j) : (known p c rows k).getD j no = (sol p c k (rows.drop k)).getD (j - k) no := by
  unfold known
  rw [List.getD_eq_getElem?_getD, List.getElem?_append_right (by rw [List.length_replicate]; exact hj), List.length_replicate, ← List.getD_eq_getElem?_getD]
theorem known_step {p : Pap} {c : Wo} {rows : List Row} {k n : Nat} {r : Row} (e : rows[k]? = some r) (ok : RowOk n k rows.length r) :
    (known p c rows (k + 1)).set k (wop p c r.1 r.2.1 (r.2.2.map fun j => (known p c rows (k + 1)).getD j no)) = known p c rows k := by
  have hk : k < rows.length := (List.getElem?_eq_some_iff.mp e).1
  have e2 : rows.drop k = r :: rows.drop (k + 1) := by rw [List.drop_eq_getElem_cons hk, (List.getElem?_eq_some_iff.mp e).2]
  have e3 : (r.2.2.map fun j => (known p c rows (k + 1)).getD j no) = r.2.2.map fun j => (sol p c (k + 1) (rows.drop (k + 1))).getD (j - (k + 1)) no := List.map_congr_left fun j hj => known_getD (ok.arms j hj).1
  rw [e3]
  unfold known
  rw [e2, sol, List.replicate_succ', List.append_assoc, List.set_append_right (h := by rw [List.length_replicate]; exact Nat.le_refl _), List.length_replicate, Nat.sub_self]
  rfl
theorem known_ok {p : Pap} {c : Wo} {rows : List Row} {k n : Nat} (hp : PapOk n p) (hc : WoOk n c) (n8 : n ≤ 8) (hr : ∀ r ∈ rows, r.1.fits n r.2.1) : ∀ x ∈ known p c rows k, WoOk n x := fun x hx => by
  rcases List.mem_append.mp hx with h | h
  · rw [List.eq_of_mem_replicate h]
    exact no_ok n
  · exact sol_ok hp hc n8 k _ (fun r hr2 => hr r (List.mem_of_mem_drop hr2)) x h
theorem paired_rep {α β : Type} {R : α → β → Prop} {x : α} {y : β} (h : R x y) : ∀ n, Paired R (List.replicate n x) (List.replicate n y)
  | 0 => .nil
  | n + 1 => .cons h (paired_rep h n)
theorem flat_rep {α : Type} (x : α) : ∀ n, (List.replicate n [x]).flatten = List.replicate n x
  | 0 => rfl
  | n + 1 => by rw [List.replicate_succ, List.flatten_cons, flat_rep x n]; rfl
/-! promises -/
def spEither (K : PySem.W.Frag) : Sp := fun vs H Q _ => ∃ x y n a b, vs = [x, y] ∧ WoAt K H x a ∧ WoAt K H y b ∧ WoOk n a ∧ WoOk n b ∧ n ≤ 8 ∧ ∀ H' v, Same H H' → WoAt K H' v (uni a b) → Q v H'
def spAmong (K : PySem.W.Frag) : Sp := fun vs H Q _ => ∃ x y n a b, vs = [x, y] ∧ WoAt K H x a ∧ WoAt K H y b ∧ WoOk n a ∧ WoOk n b ∧ n ≤ 8 ∧ ∀ H', Same H H' → Q (.bl (decide (uni a b = b))) H'
/-- a body's words, and what they may be as far as is known -/
structure WsIn (K : PySem.W.Frag) (H : Hp) (l m : Addr) (rows : List Row) (full : List Wo) : Prop where
  w : ∃ ys, H l = some (.lst ys) ∧ Paired (RowAt H) ys rows
  m : ∃ ws, H m = some (.lst ws) ∧ Paired (WoAt K H) ws full
  len : full.length = rows.length
  sm : rows.length ≤ 900
def spEnteredBy (K : PySem.W.Frag) : Sp := fun vs H Q _ => ∃ (l m : Addr) (rows : List Row) (full : List Wo) (k n : Nat) (r : Row), vs = [.ref l, .int (k : Int), .ref m] ∧ WsIn K H l m rows full ∧ rows[k]? = some r ∧ RowOk n k rows.length r ∧ (r.1 = .call ∨ r.1 = .through) ∧
  ∀ H' p, Same H H' → H p = none → H' p = some (.lst (nV (ents full r))) → Q (.ref p) H'
def spWorthOf (K : PySem.W.Frag) : Sp := fun vs H Q _ => ∃ (l m : Addr) (rows : List Row) (full : List Wo) (k n f : Nat) (r : Row) (pv : V) (p : Pap), vs = [.ref l, .int (k : Int), .ref m, .int (f : Int), pv] ∧ WsIn K H l m rows full ∧ rows[k]? = some r ∧ RowOk n k rows.length r ∧ (∀ x ∈ full, WoOk n x) ∧
  PpAt K H pv p ∧ PapOk n p ∧ n ≤ 8 ∧ f < n ∧ ∀ H' v, Same H H' → WoAt K H' v (wop p (p.came f) r.1 r.2.1 (r.2.2.map fun j => full.getD j no)) → Q v H'
def spWorthsIn (K : PySem.W.Frag) : Sp := fun vs H Q _ => ∃ (l : Addr) (ys : List V) (rows : List Row) (n f : Nat) (pv : V) (p : Pap), vs = [.ref l, .int (f : Int), pv] ∧ H l = some (.lst ys) ∧ Paired (RowAt H) ys rows ∧ rows.length ≤ 900 ∧ (∀ k r, rows[k]? = some r → RowOk n k rows.length r) ∧
  PpAt K H pv p ∧ PapOk n p ∧ n ≤ 8 ∧ f < n ∧ ∀ H' q ws, Same H H' → H q = none → H' q = some (.lst ws) → Paired (WoAt K H') ws (sol p (p.came f) 0 rows) → Q (.ref q) H'
def isC (r : Row) : Bool := match r.1 with
  | .call => true
  | .through => true
  | _ => false
theorem isC_iff {r : Row} : isC r = true ↔ r.1 = .call ∨ r.1 = .through := by
  obtain ⟨o, g, as⟩ := r
  cases o <;> simp [isC]
/-- the calls and throughs from the b-th word on -/
def callsL : Nat → List Row → List (Nat × Row)
  | _, [] => []
  | b, r :: rs => if isC r then (b, r) :: callsL (b + 1) rs else callsL (b + 1) rs
theorem callsL_app : ∀ (b : Nat) (rs qs : List Row), callsL b (rs ++ qs) = callsL b rs ++ callsL (b + rs.length) qs
  | b, [], qs => rfl
  | b, r :: rs, qs => by
    rw [List.cons_append, callsL, callsL, callsL_app (b + 1) rs qs, List.length_cons, show b + 1 + rs.length = b + (rs.length + 1) by omega]
    split <;> rfl
theorem callsL_mem : ∀ {b : Nat} {rs : List Row} {k : Nat} {r : Row}, (k, r) ∈ callsL b rs → b ≤ k ∧ rs[k - b]? = some r ∧ isC r = true
  | b, [], k, r, h => nomatch h
  | b, q :: rs, k, r, h => by
    rw [callsL] at h
    have tl : (k, r) ∈ callsL (b + 1) rs → b ≤ k ∧ (q :: rs)[k - b]? = some r ∧ isC r = true := fun h => by
      obtain ⟨h1, h2, h3⟩ := callsL_mem h
      refine ⟨by omega, ?_, h3⟩
      rw [show k - b = (k - (b + 1)) + 1 by omega]
      exact h2
    split at h
    · rename_i c
      rcases List.mem_cons.mp h with e | e
      · cases e
        exact ⟨Nat.le_refl _, by rw [Nat.sub_self]; rfl, c⟩
      · exact tl e
    · exact tl h
theorem callsL_len : ∀ (b : Nat) (rs : List Row), (callsL b rs).length ≤ rs.length
  | _, [] => Nat.le_refl _
  | b, r :: rs => by
    have := callsL_len (b + 1) rs
    rw [callsL, List.length_cons]
    split
    · rw [List.length_cons]; omega
    · omega
theorem hand_calls (full : List Wo) : ∀ (b : Nat) (rs : List Row), hand rs full = (callsL b rs).flatMap fun e => (ents full e.2).map fun c => (c, full.getD (e.2.2.2.getLastD 0) no)
  | _, [] => rfl
  | b, r :: rs => by
    have ih := hand_calls full (b + 1) rs
    unfold hand at ih ⊢
    rw [List.flatMap_cons, callsL, ih]
    cases c : isC r with
    | true => rw [if_pos rfl, List.flatMap_cons]
    | false =>
      rw [if_neg Bool.false_ne_true]
      have e : ents full r = [] := by
        obtain ⟨o, g, as⟩ := r
        cases o <;> first | rfl | cases c
      rw [e]
      rfl
/-- an entry: the word's number, the functions -/
def EnAt (full : List Wo) (H : Hp) (v : V) (e : Nat × Row) : Prop := ∃ t a, v = .ref t ∧ H t = some (.tup [.int (e.1 : Int), .ref a]) ∧ H a = some (.lst (nV (ents full e.2)))
theorem EnAt.same {full : List Wo} {H H' : Hp} {v : V} {e : Nat × Row} (s : Same H H') (h : EnAt full H v e) : EnAt full H' v e := let ⟨t, a, x, h1, h2⟩ := h; ⟨t, a, x, s _ _ h1, s _ _ h2⟩
/-- .. within a comprehension whose list is D -/
def EnD (D : Addr) (full : List Wo) (H : Hp) (v : V) (e : Nat × Row) : Prop := ∃ t a, v = .ref t ∧ H t = some (.tup [.int (e.1 : Int), .ref a]) ∧ H a = some (.lst (nV (ents full e.2))) ∧ a ≠ D
theorem EnD.same {D : Addr} {full : List Wo} {H H' : Hp} {v : V} {e : Nat × Row} (s : Same H H') (h : EnD D full H v e) : EnD D full H' v e := let ⟨t, a, x, h1, h2, h3⟩ := h; ⟨t, a, x, s _ _ h1, s _ _ h2, h3⟩
theorem EnD.updL {D : Addr} {full : List Wo} {H : Hp} {v : V} {e : Nat × Row} {xs ys : List V} (eD : H D = some (.lst xs)) (h : EnD D full H v e) : EnD D full (upd H D (.lst ys)) v e := let ⟨t, a, x, h1, h2, h3⟩ := h; ⟨t, a, x, Keep.updL eD _ _ h1, by rw [upd_ne h3]; exact h2, h3⟩
def spEntries (K : PySem.W.Frag) : Sp := fun vs H Q _ => ∃ (l m : Addr) (rows : List Row) (full : List Wo) (n : Nat), vs = [.ref l, .ref m] ∧ WsIn K H l m rows full ∧ (∀ k r, rows[k]? = some r → RowOk n k rows.length r) ∧
  ∀ H' q es, Same H H' → H q = none → H' q = some (.lst es) → Paired (EnAt full H') es (callsL 0 rows) → Q (.ref q) H'
def handE (full : List Wo) (es : List (Nat × Row)) : List (Nat × Wo) := es.flatMap fun e => (ents full e.2).map fun c => (c, full.getD (e.2.2.2.getLastD 0) no)
theorem handE_snoc (full : List Wo) (es : List (Nat × Row)) (e : Nat × Row) : handE full (es ++ [e]) = handE full es ++ (ents full e.2).map fun c => (c, full.getD (e.2.2.2.getLastD 0) no) := by
  unfold handE
  rw [List.flatMap_append, List.flatMap_cons, List.flatMap_nil, List.append_nil]
theorem last_ex {α : Type} {l : List α} (h : l ≠ []) : ∃ m x, l = m ++ [x] := ⟨l.dropLast, l.getLast h, (List.dropLast_concat_getLast h).symm⟩
/-- what is handed on -/
def HnAt (K : PySem.W.Frag) (H : Hp) (v : V) (e : Nat × Wo) : Prop := ∃ t x, v = .ref t ∧ H t = some (.tup [.int (e.1 : Int), x]) ∧ WoAt K H x e.2
theorem HnAt.keep {K : PySem.W.Frag} {H H' : Hp} {v : V} {e : Nat × Wo} (k : Keep H H') (h : HnAt K H v e) : HnAt K H' v e := let ⟨t, x, y, h1, h2⟩ := h; ⟨t, x, y, k _ _ h1, h2.keep k⟩
def spHandedOn (K : PySem.W.Frag) : Sp := fun vs H Q _ => ∃ (l m : Addr) (rows : List Row) (full : List Wo) (n : Nat), vs = [.ref l, .ref m] ∧ WsIn K H l m rows full ∧ (∀ k r, rows[k]? = some r → RowOk n k rows.length r) ∧ (∀ x ∈ full, WoOk n x) ∧ n ≤ 8 ∧ rows.length ≤ 100 ∧
  ∀ H' q es, Same H H' → H q = none → H' q = some (.lst es) → Paired (HnAt K H') es (hand rows full) → Q (.ref q) H'
end Ov
/-! ### what a paper asks for -/
namespace Ov
open PySem PySem.Spec PyProof.Rows L2
theorem rows0_ok {n : Nat} {b : W} (h : WOk n 7 b) : ∀ k r, (b.rows 0)[k]? = some r → RowOk n k (b.rows 0).length r := fun k r e => by
  have := rows_ok 7 b h 0 k r e
  rw [Nat.zero_add, Nat.zero_add] at this
  rw [W.rows_len]
  exact this
structure StOk (n : Nat) (st : List Wo × List Wo) : Prop where
  l1 : st.1.length = n
  l2 : st.2.length = n
  o1 : ∀ x ∈ st.1, WoOk n x
  o2 : ∀ x ∈ st.2, WoOk n x
theorem getD_ok {n : Nat} {l : List Wo} (h : ∀ x ∈ l, WoOk n x) (k : Nat) : WoOk n (l.getD k no) := by
  rw [List.getD_eq_getElem?_getD]
  cases e : l[k]? with
  | none => exact no_ok n
  | some x => exact h x (List.mem_of_getElem? e)
theorem set_ok {n : Nat} {l : List Wo} {y : Wo} {k : Nat} (h : ∀ x ∈ l, WoOk n x) (hy : WoOk n y) : ∀ x ∈ l.set k y, WoOk n x := fun x hx => by
  rcases List.mem_or_eq_of_mem_set hx with z | z
  · exact h x z
  · rw [z]; exact hy
theorem ents_lt {n k : Nat} {rows : List Row} {full : List Wo} {r : Row} (ok : RowOk n k rows.length r) (hfull : ∀ x ∈ full, WoOk n x) : ∀ c ∈ ents full r, c < n := fun c hc => by
  obtain ⟨o, g, as⟩ := r
  cases o with
  | call =>
    have hg : 0 ≤ g ∧ g < n := ok.fits
    rw [List.mem_singleton.mp (show c ∈ [g.toNat] from hc)]
    omega
  | through => exact (getD_ok hfull _).lt c hc
  | num => cases hc
  | arg => cases hc
  | way => cases hc
  | plus => cases hc
  | less => cases hc
  | times => cases hc
  | ife => cases hc
  | thn => cases hc
  | say => cases hc
theorem hand_ok {n : Nat} {rows : List Row} {full : List Wo} (hrows : ∀ k r, rows[k]? = some r → RowOk n k rows.length r) (hfull : ∀ x ∈ full, WoOk n x) : ∀ e ∈ hand rows full, e.1 < n ∧ WoOk n e.2 := fun e he => by
  obtain ⟨r, hr, he⟩ := List.mem_flatMap.mp he
  obtain ⟨c, hc, rfl⟩ := List.mem_map.mp he
  obtain ⟨k, hk, e⟩ := List.mem_iff_getElem.mp hr
  exact ⟨ents_lt (hrows k r (by rw [List.getElem?_eq_getElem hk, e])) hfull c hc, getD_ok hfull _⟩
theorem step1_ok {n : Nat} (n8 : n ≤ 8) : ∀ (es : List (Nat × Wo)) (cm : List Wo), (∀ e ∈ es, e.1 < n ∧ WoOk n e.2) → cm.length = n → (∀ x ∈ cm, WoOk n x) → (es.foldl step1 cm).length = n ∧ ∀ x ∈ es.foldl step1 cm, WoOk n x
  | [], cm, _, hl, h => ⟨hl, h⟩
  | e :: es, cm, he, hl, h => step1_ok n8 es (step1 cm e) (fun x hx => he x (List.mem_cons_of_mem _ hx)) (by unfold step1; rw [List.length_set]; exact hl) (set_ok h (uni_ok (getD_ok h _) (he e List.mem_cons_self).2 n8))
theorem sol0_ok {n : Nat} {p : Pap} {b : W} (hp : PapOk n p) (n8 : n ≤ 8) (hb : WOk n 7 b) (f : Nat) : ∀ x ∈ sol p (p.came f) 0 (b.rows 0), WoOk n x := sol_ok hp (hp.came f) n8 0 _ fun r hr => by
  obtain ⟨k, hk, e⟩ := List.mem_iff_getElem.mp hr
  exact (rows0_ok hb k r (by rw [List.getElem?_eq_getElem hk, e])).fits
theorem askF_ok {n : Nat} {p : Pap} {b : W} {st : List Wo × List Wo} (hp : PapOk n p) (n8 : n ≤ 8) (hb : WOk n 7 b) (f : Nat) (hs : StOk n st) : StOk n (askF p st f b) := by
  unfold askF
  split
  · exact hs
  · have hf := sol0_ok hp n8 hb f
    have h1 := step1_ok n8 _ st.1 (hand_ok (rows0_ok hb) hf) hs.l1 hs.o1
    exact ⟨h1.1, by rw [List.length_set]; exact hs.l2, h1.2, set_ok hs.o2 (getD_ok hf 0)⟩
theorem askL_snoc (p : Pap) : ∀ (f : Nat) (bs : List W) (b : W) (st : List Wo × List Wo), askL p f (bs ++ [b]) st = askF p (askL p f bs st) (f + bs.length) b
  | f, [], b, st => rfl
  | f, c :: bs, b, st => by
    rw [List.cons_append, askL, askL, askL_snoc p (f + 1) bs b, List.length_cons, show f + 1 + bs.length = f + (bs.length + 1) by omega]
theorem askL_ok {n : Nat} {p : Pap} (hp : PapOk n p) (n8 : n ≤ 8) : ∀ (f : Nat) (bs : List W) (st : List Wo × List Wo), (∀ b ∈ bs, WOk n 7 b) → StOk n st → StOk n (askL p f bs st)
  | f, [], st, _, hs => hs
  | f, b :: bs, st, hb, hs => askL_ok hp n8 (f + 1) bs _ (fun c hc => hb c (List.mem_cons_of_mem _ hc)) (askF_ok hp n8 (hb b List.mem_cons_self) f hs)
def st0 (n : Nat) : List Wo × List Wo := ((List.replicate n no).set 0 nu, List.replicate n no)
theorem rep_ok (n k : Nat) : ∀ x ∈ List.replicate k no, WoOk n x := fun x hx => by rw [List.eq_of_mem_replicate hx]; exact no_ok n
theorem st0_ok (n : Nat) : StOk n (st0 n) := ⟨by simp [st0], by simp [st0], set_ok (rep_ok n n) (nu_ok n), rep_ok n n⟩
def bods (pr : List (Int × W)) : List W := pr.map (·.2)
theorem bods_ok {pr : List (Int × W)} (h : PrOk pr) : ∀ b ∈ bods pr, WOk pr.length 7 b := fun b hb => by
  obtain ⟨f, hf, rfl⟩ := List.mem_map.mp hb
  exact (h.f f hf).2.2.1
theorem asked_ok {pr : List (Int × W)} {p : Pap} (h : PrOk pr) (hp : PapOk pr.length p) : PapOk pr.length (asked (bods pr) p) := by
  have e : (bods pr).length = pr.length := List.length_map _
  have z := askL_ok hp h.l8 0 (bods pr) (st0 pr.length) (bods_ok h) (st0_ok _)
  unfold asked
  rw [e]
  refine ⟨?_, fun x hx => ?_⟩
  · rw [List.length_zip]
    show min (askL p 0 (bods pr) (st0 pr.length)).1.length (askL p 0 (bods pr) (st0 pr.length)).2.length = _
    rw [z.l1, z.l2, Nat.min_self]
  · exact ⟨z.o1 _ (List.of_mem_zip hx).1, z.o2 _ (List.of_mem_zip hx).2⟩
theorem zip_sh {K : PySem.W.Frag} {H : Hp} : ∀ {ps : List Addr} {cs ts : List V} {l m : List Wo}, Paired (WoAt K H) cs l → Paired (WoAt K H) ts m → ps.length = cs.length → cs.length = ts.length → (∀ (j : Nat) (x y : V) (p : Addr), cs[j]? = some x → ts[j]? = some y → ps[j]? = some p → H p = some (.tup [x, y])) → Paired (ShAt K H) (ps.map V.ref) (l.zip m)
  | [], _, _, _, _, .nil, _, _, _, _ => .nil
  | [], _, _, _, _, .cons _ _, _, h, _, _ => by cases h
  | p :: ps, _, _, _, _, .nil, _, h, _, _ => by cases h
  | p :: ps, _, _, _, _, .cons _ _, .nil, _, h, _ => by cases h
  | p :: ps, _, _, _, _, .cons h r, .cons g q, h1, h2, f => .cons ⟨p, _, _, rfl, .inl (f 0 _ _ p rfl rfl rfl), h, g⟩ (zip_sh r q (Nat.succ.inj h1) (Nat.succ.inj h2) fun j x y p' e1 e2 e3 => f (j + 1) x y p' e1 e2 e3)
def spAskedBy (K : PySem.W.Frag) : Sp := fun vs H Q _ => ∃ (b : Addr) (bs : List Addr) (pr : List (Int × W)) (pz : V) (p : Pap), vs = [.ref b, pz] ∧ H b = some (.lst (bs.map V.ref)) ∧ Paired (BodyAt H) bs pr ∧ PrOk pr ∧ PpAt K H pz p ∧ PapOk pr.length p ∧
  ∀ H' v, Same H H' → PpAt K H' v (asked (bods pr) p) → Q v H'
end Ov
/-! ### papers: what is asked for rises with the paper; what comes in a run is in a paper that asks for itself -/
namespace Ov
open PySem PySem.Spec PyProof.Rows L2
def Pap.le (p q : Pap) : Prop := ∀ f, (p.came f).le (q.came f) ∧ (p.tells f).le (q.tells f)
theorem uni_mono {a b c d : Wo} (h : a.le c) (g : b.le d) : (uni a b).le (uni c d) := fun x hx => by
  cases x with
  | num z =>
    have hx : (a.1 || b.1) = true := hx
    show (c.1 || d.1) = true
    rcases Bool.or_eq_true _ _ ▸ hx with z1 | z1
    · rw [show c.1 = true from h (.num z) z1]; rfl
    · rw [show d.1 = true from g (.num z) z1, Bool.or_true]
  | way f =>
    have hx : f ∈ (List.range 8).filter fun k => decide (k ∈ a.2 ∨ k ∈ b.2) := hx
    show f ∈ (List.range 8).filter fun k => decide (k ∈ c.2 ∨ k ∈ d.2)
    rw [List.mem_filter, decide_eq_true_iff] at hx ⊢
    exact ⟨hx.1, hx.2.elim (fun z => .inl (h (.way f) z)) (fun z => .inr (g (.way f) z))⟩
theorem wop_mono {p q : Pap} {n : Nat} (hp : PapOk n p) (hq : PapOk n q) (n8 : n ≤ 8) (h : p.le q) {c d : Wo} (hc : c.le d) {o : Op} {g : Int} {ws vs : List Wo} (hw : ∀ k, (ws.getD k no).le (vs.getD k no)) : (wop p c o g ws).le (wop q d o g vs) := by
  have us : ∀ fs gs : List Nat, (∀ f ∈ fs, f ∈ gs) → (unis p fs).le (unis q gs) := fun fs gs hfg x hx => by
    unfold unis at hx ⊢
    rw [unis_has hp n8 fs no (no_ok n)] at hx
    rw [unis_has hq n8 gs no (no_ok n)]
    rcases hx with z | ⟨f, hf, z⟩
    · exact (no_has z).elim
    · exact .inr ⟨f, hfg f hf, (h f).2 x z⟩
  cases o with
  | arg => exact hc
  | ife => exact uni_mono (hw 1) (hw 2)
  | thn => exact hw 1
  | call => exact us _ _ fun _ z => z
  | through => exact us _ _ fun f z => hw 0 (.way f) z
  | way => exact Wo.le.refl _
  | num => exact Wo.le.refl _
  | plus => exact Wo.le.refl _
  | less => exact Wo.le.refl _
  | times => exact Wo.le.refl _
  | say => exact Wo.le.refl _
theorem sol_mono {p q : Pap} {n : Nat} (hp : PapOk n p) (hq : PapOk n q) (n8 : n ≤ 8) (h : p.le q) {c d : Wo} (hc : c.le d) : ∀ (b : Nat) (rs : List Row) (k : Nat), ((sol p c b rs).getD k no).le ((sol q d b rs).getD k no)
  | _, [], k => Wo.le.refl _
  | b, r :: rs, k => by
    have ih := sol_mono hp hq n8 h hc (b + 1) rs
    rw [sol, sol]
    cases k with
    | succ k => exact ih k
    | zero =>
      refine wop_mono hp hq n8 h hc fun k => ?_
      rw [List.getD_eq_getElem?_getD, List.getD_eq_getElem?_getD, List.getElem?_map, List.getElem?_map]
      cases e : r.2.2[k]? with
      | none => exact Wo.le.refl _
      | some j => exact ih (j - (b + 1))
theorem ents_mono {full gull : List Wo} (h : ∀ k, (full.getD k no).le (gull.getD k no)) {r : Row} {c : Nat} (hc : c ∈ ents full r) : c ∈ ents gull r := by
  obtain ⟨o, g, as⟩ := r
  cases o with
  | call => exact hc
  | through => exact h (as.getD 0 0) (.way c) hc
  | num => cases hc
  | arg => cases hc
  | way => cases hc
  | plus => cases hc
  | less => cases hc
  | times => cases hc
  | ife => cases hc
  | thn => cases hc
  | say => cases hc
theorem hand_mono {full gull : List Wo} (h : ∀ k, (full.getD k no).le (gull.getD k no)) {rows : List Row} {e : Nat × Wo} (he : e ∈ hand rows full) : ∃ a, (e.1, a) ∈ hand rows gull ∧ e.2.le a := by
  obtain ⟨r, hr, he⟩ := List.mem_flatMap.mp he
  obtain ⟨c, hc, rfl⟩ := List.mem_map.mp he
  exact ⟨_, List.mem_flatMap.mpr ⟨r, hr, List.mem_map.mpr ⟨c, ents_mono h hc, rfl⟩⟩, h _⟩
theorem step1_has {n : Nat} (n8 : n ≤ 8) {c : Nat} {x : Wt} : ∀ (es : List (Nat × Wo)) (cm : List Wo), (∀ e ∈ es, e.1 < n ∧ WoOk n e.2) → cm.length = n → (∀ y ∈ cm, WoOk n y) →
    (((es.foldl step1 cm).getD c no).has x ↔ (cm.getD c no).has x ∨ ∃ a, (c, a) ∈ es ∧ a.has x)
  | [], cm, _, _, _ => by simp
  | e :: es, cm, he, hl, h => by
    have h1 := he e List.mem_cons_self
    have hu := uni_ok (getD_ok h e.1) h1.2 n8
    rw [List.foldl_cons, step1_has n8 es (step1 cm e) (fun y hy => he y (List.mem_cons_of_mem _ hy)) (by unfold step1; rw [List.length_set]; exact hl) (set_ok h hu)]
    have key : ((step1 cm e).getD c no).has x ↔ (cm.getD c no).has x ∨ (e.1 = c ∧ e.2.has x) := by
      unfold step1
      rw [List.getD_eq_getElem?_getD, List.getElem?_set]
      by_cases q : e.1 = c
      · subst q
        rw [if_pos rfl, if_pos (by omega)]
        show (uni (cm.getD e.1 no) e.2).has x ↔ _
        rw [uni_has (getD_ok h e.1) h1.2 n8]
        exact ⟨fun z => z.elim .inl fun y => .inr ⟨rfl, y⟩, fun z => z.elim .inl fun y => .inr y.2⟩
      · rw [if_neg q, ← List.getD_eq_getElem?_getD]
        exact ⟨.inl, fun z => z.elim id fun y => absurd y.1 q⟩
    rw [key]
    constructor
    · rintro ((z | ⟨z1, z2⟩) | ⟨a, z1, z2⟩)
      · exact .inl z
      · exact .inr ⟨e.2, List.mem_cons.mpr (.inl (by rw [← z1])), z2⟩
      · exact .inr ⟨a, List.mem_cons_of_mem _ z1, z2⟩
    · rintro (z | ⟨a, z1, z2⟩)
      · exact .inl (.inl z)
      · rcases List.mem_cons.mp z1 with q | q
        · exact .inl (.inr ⟨by rw [← q], by rw [← q]; exact z2⟩)
        · exact .inr ⟨a, q, z2⟩
abbrev fullOf (p : Pap) (f : Nat) (b : W) : List Wo := sol p (p.came f) 0 (b.rows 0)
/-- what function f hands on by the paper -/
def Gives (p : Pap) (bs : List W) (f c : Nat) (a : Wo) : Prop := ∃ b, bs[f]? = some b ∧ p.came f ≠ no ∧ (c, a) ∈ hand (b.rows 0) (fullOf p f b)
theorem askL_came {n : Nat} {p : Pap} (hp : PapOk n p) (n8 : n ≤ 8) (n1 : 1 ≤ n) {bs : List W} (hb : ∀ b ∈ bs, WOk n 7 b) {c : Nat} {x : Wt} : ∀ i, i ≤ bs.length →
    (((askL p 0 (bs.take i) (st0 n)).1.getD c no).has x ↔ (c = 0 ∧ nu.has x) ∨ ∃ f a, f < i ∧ Gives p bs f c a ∧ a.has x)
  | 0, _ => by
    rw [List.take_zero, askL]
    show (((List.replicate n no).set 0 nu).getD c no).has x ↔ _
    rw [List.getD_eq_getElem?_getD, List.getElem?_set]
    by_cases q : 0 = c
    · subst q
      rw [if_pos rfl, if_pos (by rw [List.length_replicate]; omega)]
      exact ⟨fun z => .inl ⟨rfl, z⟩, fun z => z.elim (fun y => y.2) fun ⟨f, a, y, _⟩ => absurd y (Nat.not_lt_zero f)⟩
    · rw [if_neg q, List.getElem?_replicate]
      constructor
      · intro z
        split at z
        · exact (no_has z).elim
        · exact (no_has z).elim
      · rintro (⟨z, _⟩ | ⟨f, a, y, _⟩)
        · exact absurd z.symm q
        · exact absurd y (Nat.not_lt_zero f)
  | i + 1, hi => by
    have ih := askL_came hp n8 n1 hb (c := c) (x := x) i (by omega)
    obtain ⟨b, hbi⟩ : ∃ b, bs[i]? = some b := ⟨_, List.getElem?_eq_getElem (by omega)⟩
    have hbw := hb b (List.mem_of_getElem? hbi)
    have st1 := askL_ok hp n8 0 (bs.take i) (st0 n) (fun b hm => hb b (List.mem_of_mem_take hm)) (st0_ok n)
    have el : (bs.take i).length = i := by rw [List.length_take]; omega
    rw [List.take_add_one, hbi]
    show ((askL p 0 (bs.take i ++ [b]) (st0 n)).1.getD c no).has x ↔ _
    rw [askL_snoc, el, Nat.zero_add]
    unfold askF
    by_cases q : p.came i = no
    · rw [if_pos q, ih]
      constructor
      · rintro (z | ⟨f, a, y, z⟩)
        · exact .inl z
        · exact .inr ⟨f, a, by omega, z⟩
      · rintro (z | ⟨f, a, y, ⟨b', e1, e2, e3⟩, z⟩)
        · exact .inl z
        · by_cases e : f = i
          · subst e
            exact absurd q e2
          · exact .inr ⟨f, a, by omega, ⟨b', e1, e2, e3⟩, z⟩
    · rw [if_neg q]
      show (((hand (b.rows 0) (fullOf p i b)).foldl step1 (askL p 0 (bs.take i) (st0 n)).1).getD c no).has x ↔ _
      rw [step1_has n8 _ _ (hand_ok (rows0_ok hbw) (sol0_ok hp n8 hbw i)) st1.l1 st1.o1, ih]
      constructor
      · rintro ((z | ⟨f, a, y, z⟩) | ⟨a, z1, z2⟩)
        · exact .inl z
        · exact .inr ⟨f, a, by omega, z⟩
        · exact .inr ⟨i, a, by omega, ⟨b, hbi, q, z1⟩, z2⟩
      · rintro (z | ⟨f, a, y, ⟨b', e1, e2, e3⟩, z⟩)
        · exact .inl (.inl z)
        · by_cases e : f = i
          · subst e
            rw [hbi] at e1
            cases e1
            exact .inr ⟨a, e3, z⟩
          · exact .inl (.inr ⟨f, a, by omega, ⟨b', e1, e2, e3⟩, z⟩)
theorem askL_tells {n : Nat} {p : Pap} (hp : PapOk n p) (n8 : n ≤ 8) {bs : List W} (hb : ∀ b ∈ bs, WOk n 7 b) (hl : bs.length = n) {f : Nat} : ∀ i, i ≤ bs.length →
    (askL p 0 (bs.take i) (st0 n)).2.getD f no = if f < i ∧ p.came f ≠ no then ((bs[f]?).map fun b => (fullOf p f b).getD 0 no).getD no else no
  | 0, _ => by
    rw [List.take_zero, askL, if_neg (fun z => absurd z.1 (Nat.not_lt_zero f))]
    show (List.replicate n no).getD f no = no
    rw [List.getD_eq_getElem?_getD, List.getElem?_replicate]
    split <;> rfl
  | i + 1, hi => by
    have ih := askL_tells hp n8 hb hl (f := f) i (by omega)
    obtain ⟨b, hbi⟩ : ∃ b, bs[i]? = some b := ⟨_, List.getElem?_eq_getElem (by omega)⟩
    have st1 := askL_ok hp n8 0 (bs.take i) (st0 n) (fun b hm => hb b (List.mem_of_mem_take hm)) (st0_ok n)
    have el : (bs.take i).length = i := by rw [List.length_take]; omega
    rw [List.take_add_one, hbi]
    show (askL p 0 (bs.take i ++ [b]) (st0 n)).2.getD f no = _
    rw [askL_snoc, el, Nat.zero_add]
    unfold askF
    by_cases q : p.came i = no
    · rw [if_pos q, ih]
      by_cases e : f = i
      · subst e
        rw [if_neg (fun z => absurd z.1 (Nat.lt_irrefl _)), if_neg (fun z => z.2 q)]
      · by_cases e2 : f < i
        · by_cases e3 : p.came f = no
          · rw [if_neg (fun z => z.2 e3), if_neg (fun z => z.2 e3)]
          · rw [if_pos ⟨e2, e3⟩, if_pos ⟨by omega, e3⟩]
        · rw [if_neg (fun z => e2 z.1), if_neg (fun z => e2 (by omega))]
    · rw [if_neg q]
      show ((askL p 0 (bs.take i) (st0 n)).2.set i _).getD f no = _
      rw [List.getD_eq_getElem?_getD, List.getElem?_set]
      by_cases e : i = f
      · subst e
        rw [if_pos rfl, if_pos (by rw [st1.l2]; omega), if_pos ⟨Nat.lt_succ_self _, q⟩, hbi]
        rfl
      · rw [if_neg e, ← List.getD_eq_getElem?_getD, ih]
        by_cases e2 : f < i
        · by_cases e3 : p.came f = no
          · rw [if_neg (fun z => z.2 e3), if_neg (fun z => z.2 e3)]
          · rw [if_pos ⟨e2, e3⟩, if_pos ⟨by omega, e3⟩]
        · rw [if_neg (fun z => e2 z.1), if_neg (fun z => e2 (by omega))]
theorem zip_getD : ∀ {l m : List Wo}, l.length = m.length → ∀ f : Nat, (l.zip m).getD f (no, no) = (l.getD f no, m.getD f no)
  | [], [], _, _ => rfl
  | [], _ :: _, h, _ => by cases h
  | _ :: _, [], h, _ => by cases h
  | _ :: _, _ :: _, _, 0 => rfl
  | _ :: l, _ :: m, h, f + 1 => zip_getD (Nat.succ.inj h) f
section
variable {pr : List (Int × W)} {p q : Pap}
theorem bods_len : (bods pr).length = pr.length := List.length_map _
theorem asked_get (h : PrOk pr) (hp : PapOk pr.length p) (f : Nat) : (asked (bods pr) p).getD f (no, no) = ((askL p 0 (bods pr) (st0 pr.length)).1.getD f no, (askL p 0 (bods pr) (st0 pr.length)).2.getD f no) := by
  have z := askL_ok hp h.l8 0 (bods pr) (st0 pr.length) (bods_ok h) (st0_ok _)
  unfold asked
  rw [bods_len]
  exact zip_getD (z.l1.trans z.l2.symm) f
theorem asked_came (h : PrOk pr) (hp : PapOk pr.length p) {c : Nat} {x : Wt} : ((asked (bods pr) p).came c).has x ↔ (c = 0 ∧ nu.has x) ∨ ∃ f a, Gives p (bods pr) f c a ∧ a.has x := by
  have k := askL_came hp h.l8 h.l1 (bods_ok h) (c := c) (x := x) (bods pr).length (Nat.le_refl _)
  rw [List.take_length] at k
  have e0 : (asked (bods pr) p).came c = (askL p 0 (bods pr) (st0 pr.length)).1.getD c no := by
    unfold Pap.came
    rw [asked_get h hp]
  rw [e0, k]
  constructor
  · rintro (z | ⟨f, a, _, z⟩)
    · exact .inl z
    · exact .inr ⟨f, a, z⟩
  · rintro (z | ⟨f, a, z⟩)
    · exact .inl z
    · obtain ⟨⟨b, e, _⟩, _⟩ := id z
      exact .inr ⟨f, a, (List.getElem?_eq_some_iff.mp e).1, z⟩
theorem asked_tells (h : PrOk pr) (hp : PapOk pr.length p) {f : Nat} {b : W} (e : (bods pr)[f]? = some b) : (asked (bods pr) p).tells f = if p.came f = no then no else (fullOf p f b).getD 0 no := by
  have k := askL_tells hp h.l8 (bods_ok h) bods_len (f := f) (bods pr).length (Nat.le_refl _)
  rw [List.take_length, e] at k
  have hf := (List.getElem?_eq_some_iff.mp e).1
  unfold Pap.tells
  rw [asked_get h hp]
  show (askL p 0 (bods pr) (st0 pr.length)).2.getD f no = _
  rw [k]
  by_cases c : p.came f = no
  · rw [if_neg (fun z => z.2 c), if_pos c]
  · rw [if_pos ⟨hf, c⟩, if_neg c]
    rfl
theorem Pap.none {n f : Nat} (hp : PapOk n p) (hf : n ≤ f) : p.came f = no ∧ p.tells f = no := by
  unfold Pap.came Pap.tells
  rw [List.getD_eq_getElem?_getD, List.getElem?_eq_none (by rw [hp.len]; exact hf)]
  exact ⟨rfl, rfl⟩
theorem some_of_ne {a : Wo} (h : a ≠ no) : ∃ x, a.has x := by
  obtain ⟨b, l⟩ := a
  cases b with
  | true => exact ⟨.num 0, rfl⟩
  | false =>
    cases l with
    | nil => exact absurd rfl h
    | cons k l => exact ⟨.way k, List.mem_cons_self⟩
theorem ne_no {a : Wo} {x : Wt} (h : a.has x) : a ≠ no := fun z => by rw [z] at h; exact no_has h
theorem asked_mono (h : PrOk pr) (hp : PapOk pr.length p) (hq : PapOk pr.length q) (le : p.le q) : (asked (bods pr) p).le (asked (bods pr) q) := fun f => by
  have fm : ∀ f b k, ((fullOf p f b).getD k no).le ((fullOf q f b).getD k no) := fun f b k => sol_mono hp hq h.l8 le (le f).1 0 _ k
  have ne : ∀ f, p.came f ≠ no → q.came f ≠ no := fun f z => by
    obtain ⟨x, hx⟩ := some_of_ne z
    exact ne_no ((le f).1 x hx)
  constructor
  · intro x hx
    rw [asked_came h hp] at hx
    rw [asked_came h hq]
    rcases hx with z | ⟨f', a, ⟨b, e1, e2, e3⟩, z⟩
    · exact .inl z
    · obtain ⟨a', h1, h2⟩ := hand_mono (fm f' b) e3
      exact .inr ⟨f', a', ⟨b, e1, ne f' e2, h1⟩, h2 x z⟩
  · by_cases hf : f < pr.length
    · have hf2 : f < (bods pr).length := by rw [bods_len]; exact hf
      have e := List.getElem?_eq_getElem hf2
      rw [asked_tells h hp e, asked_tells h hq e]
      by_cases c : p.came f = no
      · rw [if_pos c]
        exact no_le _
      · rw [if_neg c, if_neg (ne f c)]
        exact fm f _ 0
    · rw [(Pap.none (asked_ok h hp) (by omega)).2]
      exact no_le _
/-! the climb -/
def Pap.sz (p : Pap) : Nat := (p.map fun s => s.1.sz + s.2.sz).sum
theorem pap_sz_le : ∀ {p q : Pap} {n : Nat}, (∀ x ∈ p, WoOk n x.1 ∧ WoOk n x.2) → (∀ x ∈ q, WoOk n x.1 ∧ WoOk n x.2) → p.length = q.length → (∀ f : Nat, ((p.getD f (no, no)).1).le (q.getD f (no, no)).1 ∧ ((p.getD f (no, no)).2).le (q.getD f (no, no)).2) → p.sz ≤ q.sz ∧ (q.sz ≤ p.sz → p = q)
  | [], [], _, _, _, _, _ => ⟨Nat.le_refl _, fun _ => rfl⟩
  | [], _ :: _, _, _, _, h, _ => by cases h
  | _ :: _, [], _, _, _, h, _ => by cases h
  | x :: p, y :: q, n, hp, hq, hl, h => by
    have ih := pap_sz_le (p := p) (q := q) (n := n) (fun z hz => hp z (List.mem_cons_of_mem _ hz)) (fun z hz => hq z (List.mem_cons_of_mem _ hz)) (Nat.succ.inj hl) fun f => h (f + 1)
    have h0 : x.1.le y.1 ∧ x.2.le y.2 := h 0
    have ox := hp x List.mem_cons_self
    have oy := hq y List.mem_cons_self
    have s1 := h0.1.sz ox.1 oy.1
    have s2 := h0.2.sz ox.2 oy.2
    have ex : Pap.sz (x :: p) = (x.1.sz + x.2.sz) + Pap.sz p := by unfold Pap.sz; rw [List.map_cons, List.sum_cons]
    have ey : Pap.sz (y :: q) = (y.1.sz + y.2.sz) + Pap.sz q := by unfold Pap.sz; rw [List.map_cons, List.sum_cons]
    rw [ex, ey]
    refine ⟨by omega, fun g => ?_⟩
    rw [ih.2 (by omega), Prod.ext (h0.1.eq ox.1 oy.1 (by omega)) (h0.2.eq ox.2 oy.2 (by omega))]
theorem pap_sz_max : ∀ {p : Pap} {n : Nat}, n ≤ 8 → (∀ x ∈ p, WoOk n x.1 ∧ WoOk n x.2) → p.sz ≤ 18 * p.length
  | [], _, _, _ => Nat.le_refl _
  | x :: p, n, n8, hp => by
    have ih := pap_sz_max (p := p) n8 fun z hz => hp z (List.mem_cons_of_mem _ hz)
    have ox := hp x List.mem_cons_self
    have s1 := Wo.sz_le ox.1 n8
    have s2 := Wo.sz_le ox.2 n8
    have ex : Pap.sz (x :: p) = (x.1.sz + x.2.sz) + Pap.sz p := by unfold Pap.sz; rw [List.map_cons, List.sum_cons]
    rw [ex, List.length_cons]
    omega
theorem Pap.le.climb {n : Nat} (hp : PapOk n p) (hq : PapOk n q) (h : p.le q) (ne : q ≠ p) : p.sz < q.sz := by
  have z := pap_sz_le hp.ok hq.ok (by rw [hp.len, hq.len]) h
  rcases Nat.lt_or_ge p.sz q.sz with g | g
  · exact g
  · exact absurd (z.2 g).symm ne
def botP (n : Nat) : Pap := List.replicate n (no, no)
theorem bot_ok (n : Nat) : PapOk n (botP n) := ⟨List.length_replicate, fun x hx => by rw [List.eq_of_mem_replicate hx]; exact ⟨no_ok n, no_ok n⟩⟩
theorem bot_le (n : Nat) (q : Pap) : (botP n).le q := fun f => by
  have e : (botP n).getD f (no, no) = (no, no) := by
    rw [List.getD_eq_getElem?_getD]
    unfold botP
    rw [List.getElem?_replicate]
    split <;> rfl
  unfold Pap.came Pap.tells
  rw [e]
  exact ⟨no_le _, no_le _⟩
/-- the climb's invariant: a paper that asks for no less, and is in each that asks for no more -/
structure Climb (pr : List (Int × W)) (p : Pap) : Prop where
  ok : PapOk pr.length p
  up : p.le (asked (bods pr) p)
  least : ∀ q, PapOk pr.length q → (asked (bods pr) q).le q → p.le q
theorem Climb.bot : Climb pr (botP pr.length) := ⟨bot_ok _, bot_le _ _, fun q _ _ => bot_le _ q⟩
theorem Climb.next (h : PrOk pr) (c : Climb pr p) : Climb pr (asked (bods pr) p) :=
  ⟨asked_ok h c.ok, asked_mono h c.ok (asked_ok h c.ok) c.up, fun q hq hle => fun f => ⟨((asked_mono h c.ok hq (c.least q hq hle)) f).1.trans (hle f).1, ((asked_mono h c.ok hq (c.least q hq hle)) f).2.trans (hle f).2⟩⟩
end
end Ov
/-! ### the least paper, holds: promises -/
namespace Ov
open PySem PySem.Spec PyProof.Rows L2
theorem repTA_v {K : PySem.W.Frag} {m1 : Addr} {n : Nat} {x : V} {H : Hp} {Q : VK} (he : H m1 = some (.tup [x])) (h1 : 1 ≤ n) (h : n ≤ 1000) (q : ∀ H' p, Same H H' → H' p = some (.tup (List.replicate n x)) → Q (.ref p) H') : rRepTA K (.ref m1) (.int (n : Int)) H Q := by
  by_cases c : n = 1
  · subst c
    exact .inr ⟨m1, _, rfl, rfl, SqT.of he, q H m1 (fun _ _ z => z) he⟩
  · refine .inl ⟨m1, (n : Int), _, rfl, rfl, SqT.of he, (fun z => nomatch z), by omega, by omega, (show 1 ≤ 1000 by decide), fun p hp => q _ p (fun b o z => by rw [upd_ne (fun y => by rw [y, hp] at z; cases z)]; exact z) ?_⟩
    rw [upd_same, Int.toNat_natCast, List.flatten_replicate_singleton]
/-- the paper that holds, of which no less holds -/
structure Least (pr : List (Int × W)) (p : Pap) : Prop where
  ok : PapOk pr.length p
  fix : asked (bods pr) p = p
  least : ∀ q, PapOk pr.length q → (asked (bods pr) q).le q → p.le q
def spLeastPaper (K : PySem.W.Frag) : Sp := fun vs H Q _ => ∃ v pr, vs = [v] ∧ PrAt H v pr ∧ PrOk pr ∧ ∀ H' v' p, Same H H' → PpAt K H' v' p → Least pr p → Q v' H'
end Ov
/-! ### papers judged: promises -/
namespace Ov
open PySem PySem.Spec PyProof.Rows L2
theorem TupAt.ty {K : PySem.W.Frag} {H : Hp} {a : Addr} {xs : List V} (h : TupAt K H a xs) : TyX K H (.ref a) (.type "tuple") := by
  rcases h with h | h
  · exact .base (.tup h)
  · rcases h (fun _ => none) with z | ⟨o, its, n, e, c, _⟩
    · rcases z with z | ⟨o, z⟩ <;> cases z
    · exact .kTuple e c
def spRisesT (K : PySem.W.Frag) : Sp := fun vs H Q _ => ∃ (a : Addr) (ns : List Nat), vs = [.ref a] ∧ TupAt K H a (nV ns) ∧ ns.Pairwise (· < ·) ∧ ns.length ≤ 1000 ∧ ∀ H', Same H H' → Q (.bl true) H'
def spWorthsFit (K : PySem.W.Frag) : Sp := fun vs H Q _ => ∃ (v : V) (n : Nat) (a : Wo), vs = [v, .int (n : Int)] ∧ WoAt K H v a ∧ WoOk n a ∧ n ≤ 8 ∧ ∀ H', Same H H' → Q (.bl true) H'
def spSheetFits (K : PySem.W.Frag) : Sp := fun vs H Q _ => ∃ (v : V) (n : Nat) (s : Wo × Wo), vs = [v, .int (n : Int)] ∧ ShAt K H v s ∧ WoOk n s.1 ∧ WoOk n s.2 ∧ n ≤ 8 ∧ ∀ H', Same H H' → Q (.bl true) H'
def spCheckPaper (K : PySem.W.Frag) : Sp := fun vs H Q _ => ∃ (v pz : V) (pr : List (Int × W)) (p : Pap), vs = [v, pz] ∧ PrAt H v pr ∧ PrOk pr ∧ PpAt K H pz p ∧ PapOk pr.length p ∧ ∀ H', Same H H' → Q .non H'
def holdsB (q p : Pap) : Bool := ((q.zip p).flatMap fun s => [decide (uni s.1.1 s.2.1 = s.2.1), decide (uni s.1.2 s.2.2 = s.2.2)]).all id
def spHolds (K : PySem.W.Frag) : Sp := fun vs H Q _ => ∃ (v pz : V) (pr : List (Int × W)) (p : Pap), vs = [v, pz] ∧ PrAt H v pr ∧ PrOk pr ∧ PpAt K H pz p ∧ PapOk pr.length p ∧ ∀ H', Same H H' → Q (.bl (holdsB (asked (bods pr) p) p)) H'
theorem flat2_len {α : Type} (f g : α → Bool) : ∀ l : List α, (l.flatMap fun s => [f s, g s]).length = 2 * l.length
  | [] => rfl
  | a :: l => by
    rw [List.flatMap_cons, List.length_append, flat2_len f g l, List.length_cons]
    show 2 + 2 * l.length = 2 * (l.length + 1)
    omega
/-! what comes in a run -/
def SndS (p : Pap) (s : RS) : Prop := (∀ e ∈ s.came, (p.came e.1).has e.2) ∧ ∀ e ∈ s.told, (p.tells e.1).has e.2
def Snd (p : Pap) (R : Wt → Prop) : Res → Prop
  | .ok v s => R v ∧ SndS p s
  | .bad _ s => SndS p s
theorem Snd.bind {p : Pap} {R R' : Wt → Prop} {k : Wt → RS → Res} : ∀ {r : Res}, Snd p R r → (∀ v s, R v → SndS p s → Snd p R' (k v s)) → Snd p R' (r.bind k)
  | .ok v s, h, hk => hk v s h.1 h.2
  | .bad _ _, h, _ => h
theorem evArms_snd {p : Pap} {full : List Wo} {R : Wt → Prop} {ev : W → RS → Res} {k : List Wt → RS → Res} : ∀ (ws : List W) (ks js : List Nat) (acc : List Wt) (s : RS), Paired (fun w j => ∀ s, SndS p s → Snd p (fun v => (full.getD j no).has v) (ev w s)) ws ks →
    Paired (fun v j => (full.getD j no).has v) acc js → SndS p s → (∀ vs s, Paired (fun v j => (full.getD j no).has v) vs (js ++ ks) → SndS p s → Snd p R (k vs s)) → Snd p R (evArms ev ws acc s k)
  | _, _, js, acc, s, .nil, ha, hs, hk => hk acc s (by rw [List.append_nil]; exact ha) hs
  | _, _, js, acc, s, .cons (l₁ := ws) (l₂ := ks) h r, ha, hs, hk => by
    refine Snd.bind (h s hs) fun v s' hv hs' => ?_
    refine evArms_snd ws ks (js ++ [_]) (acc ++ [v]) s' r (PySem.Paired.snoc ha hv) hs' fun vs s2 h1 h2 => hk vs s2 (by rw [List.append_assoc] at h1; exact h1) h2
theorem fits_pos {n : Nat} {o : Op} {g : Int} (h : o.fits n g) (e : o = .call ∨ o = .way) : 0 ≤ g ∧ g < n := by
  rcases e with rfl | rfl
  · exact h
  · exact h
section
variable {pr : List (Int × W)} {p : Pap}
/-- by a paper that asks for itself -/
structure Fixed (pr : List (Int × W)) (p : Pap) : Prop where
  pk : PrOk pr
  ok : PapOk pr.length p
  fix : asked (bods pr) p = p
theorem Fixed.came (h : Fixed pr p) {c : Nat} {x : Wt} : (p.came c).has x ↔ (c = 0 ∧ nu.has x) ∨ ∃ f a, Gives p (bods pr) f c a ∧ a.has x := by
  have z := asked_came h.pk h.ok (c := c) (x := x)
  rw [h.fix] at z
  exact z
theorem Fixed.tells (h : Fixed pr p) {f : Nat} {e : Int × W} (hf : pr[f]? = some e) (ne : p.came f ≠ no) : p.tells f = (fullOf p f e.2).getD 0 no := by
  have z := asked_tells h.pk h.ok (f := f) (b := e.2) (by unfold bods; rw [List.getElem?_map, hf]; rfl)
  rw [h.fix, if_neg ne] at z
  exact z
theorem fin_snd (h : Fixed pr p) {f : Nat} {e : Int × W} (hf : pr[f]? = some e) (ne : p.came f ≠ no) {call : Nat → Wt → RS → Res} (hc : ∀ c u s, c < pr.length → (p.came c).has u → SndS p s → Snd p (p.tells c).has (call c u s))
    {o : Op} {g : Int} {i : Nat} {as : List Nat} (hr : (e.2.rows 0)[i]? = some (o, g, as)) (hi : o ≠ .ife) (ok : RowOk pr.length i (e.2.rows 0).length (o, g, as)) {vs : List Wt} {s : RS}
    (hv : Paired (fun v j => ((fullOf p f e.2).getD j no).has v) vs as) (hs : SndS p s) : Snd p ((fullOf p f e.2).getD i no).has (fin call o g vs s) := by
  have n8 := h.pk.l8
  have at_ : (fullOf p f e.2).getD i no = wop p (p.came f) o g (as.map fun j => (fullOf p f e.2).getD j no) := by
    rw [List.getD_eq_getElem?_getD, sol_at hr ok]
    rfl
  have numH : ∀ z, (nu : Wo).has (.num z) := fun z => rfl
  have hbf : (bods pr)[f]? = some e.2 := by unfold bods; rw [List.getElem?_map, hf]; rfl
  have give : ∀ {c : Nat} {u : Wt} {j : Nat}, c ∈ ents (fullOf p f e.2) (o, g, as) → as.getLastD 0 = j → ((fullOf p f e.2).getD j no).has u → (p.came c).has u := fun {c u j} h1 h2 h3 =>
    h.came.mpr (.inr ⟨f, _, ⟨e.2, hbf, ne, List.mem_flatMap.mpr ⟨(o, g, as), List.mem_of_getElem? hr, List.mem_map.mpr ⟨c, h1, by rw [h2]⟩⟩⟩, h3⟩)
  rw [at_]
  unfold fin
  split
  · cases hv with
    | cons _ r =>
      cases r with
      | cons h2 r =>
        cases r
        exact ⟨h2, hs⟩
  · exact ⟨rfl, hs⟩
  · rename_i v
    cases hv with
    | cons h1 r =>
      cases r
      have hg : 0 ≤ g ∧ g < pr.length := fits_pos ok.fits (.inl rfl)
      have hv := hc g.toNat v s (by omega) (give (List.mem_singleton.mpr rfl) rfl h1) hs
      revert hv
      generalize call g.toNat v s = res
      intro hv
      cases res with
      | bad _ s' => exact hv
      | ok v' s' => exact ⟨(unis_has h.ok n8 [g.toNat] no (no_ok _)).mpr (.inr ⟨_, List.mem_singleton.mpr rfl, hv.1⟩), hv.2⟩
  · rename_i c u
    cases hv with
    | @cons _ j1 _ _ h1 r =>
      cases r with
      | @cons _ j2 _ _ h2 r =>
        cases r
        have hfull := sol0_ok h.ok n8 (bods_ok h.pk _ (List.mem_of_getElem? hbf)) f
        have hin : c ∈ ents (fullOf p f e.2) (Op.through, g, [j1, j2]) := h1
        have hv := hc c u s (ents_lt ok hfull c hin) (give hin rfl h2) hs
        revert hv
        generalize call c u s = res
        intro hv
        cases res with
        | bad _ s' => exact hv
        | ok v' s' => exact ⟨(unis_has h.ok n8 _ no (no_ok _)).mpr (.inr ⟨c, h1, hv.1⟩), hv.2⟩
  · exact ⟨rfl, hs⟩
  · exact ⟨rfl, hs⟩
  · exact ⟨rfl, hs⟩
  · exact hs
theorem starts_pair {R : W → Nat → Prop} : ∀ {as : List W} {b : Nat}, (∀ (j : Nat) (a : W), as[j]? = some a → ∃ k, (starts b as)[j]? = some k ∧ R a k) → Paired R as (starts b as)
  | [], _, _ => .nil
  | a :: as, b, h => by
    obtain ⟨k, e, hk⟩ := h 0 a rfl
    have e : b = k := Option.some.inj e
    refine .cons (by rw [e]; exact hk) (starts_pair fun j a' e' => h (j + 1) a' e')
theorem evB_snd (h : Fixed pr p) {f : Nat} {e : Int × W} (hf : pr[f]? = some e) {call : Nat → Wt → RS → Res} (hc : ∀ c u s, c < pr.length → (p.came c).has u → SndS p s → Snd p (p.tells c).has (call c u s)) {a : Wt} (ha : (p.came f).has a) :
    ∀ (d : Nat) (w : W) (i : Nat) (s : RS), WOk pr.length d w → SubAt (e.2.rows 0) i w → SndS p s → Snd p ((fullOf p f e.2).getD i no).has (evB call a d w s) := by
  have ne : p.came f ≠ no := ne_no ha
  have n8 := h.pk.l8
  have hb := (h.pk.f e (List.mem_of_getElem? hf)).2.2.1
  intro d
  induction d with
  | zero => exact fun w i s h => absurd h wok0
  | succ d ih =>
    intro w i s hw hsub hs
    cases hw with
    | @mk _ o g as h1 h2 h3 =>
    have hr := hsub.row
    have ok := rows0_ok hb i _ hr
    have at_ : (fullOf p f e.2).getD i no = wop p (p.came f) o g ((starts (i + 1) as).map fun j => (fullOf p f e.2).getD j no) := by
      rw [List.getD_eq_getElem?_getD, sol_at hr ok]
      rfl
    have arms : Paired (fun w j => ∀ s, SndS p s → Snd p (fun v => ((fullOf p f e.2).getD j no).has v) (evB call a d w s)) as (starts (i + 1) as) :=
      starts_pair fun j w' ej => by
        obtain ⟨k, e1, e2⟩ := hsub.arm ej
        exact ⟨k, e1, fun s hs => ih w' k s (h3 w' (List.mem_of_getElem? ej)) e2 hs⟩
    have gen : o ≠ .ife → Snd p ((fullOf p f e.2).getD i no).has (evArms (evB call a d) as [] s (fin call o g)) := fun ni =>
      evArms_snd as (starts (i + 1) as) [] [] s arms .nil hs fun vs s2 h4 h5 => fin_snd h hf ne hc hr ni ok h4 h5
    cases o with
    | num => exact ⟨by rw [at_]; exact rfl, hs⟩
    | way => exact ⟨by rw [at_]; exact List.mem_singleton.mpr rfl, hs⟩
    | arg => exact ⟨by rw [at_]; exact ha, hs⟩
    | ife =>
      match as, h1, h3, arms, at_ with
      | [t, x, y], _, h3, arms, at_ =>
        have arms : Paired (fun w j => ∀ s, SndS p s → Snd p (fun v => ((fullOf p f e.2).getD j no).has v) (evB call a d w s)) [t, x, y] [i + 1, i + 1 + t.size, i + 1 + t.size + x.size] := arms
        have at_ : (fullOf p f e.2).getD i no = uni ((fullOf p f e.2).getD (i + 1 + t.size) no) ((fullOf p f e.2).getD (i + 1 + t.size + x.size) no) := at_
        cases arms with
        | cons ht r =>
        cases r with
        | cons hx r =>
        cases r with
        | cons hy r =>
        refine Snd.bind (ht s hs) fun v s' hv hs' => ?_
        have un : ∀ {v : Wt}, ((fullOf p f e.2).getD (i + 1 + t.size) no).has v ∨ ((fullOf p f e.2).getD (i + 1 + t.size + x.size) no).has v → ((fullOf p f e.2).getD i no).has v := fun {v} hv => by
          have hfull := sol0_ok h.ok n8 hb f
          rw [at_]
          exact (uni_has (getD_ok hfull _) (getD_ok hfull _) n8).mpr hv
        cases v with
        | way _ => exact hs'
        | num z =>
          show Snd p _ (if z ≠ 0 then _ else _)
          split
          · have q := hx s' hs'
            revert q
            generalize evB call a d x s' = res
            intro q
            cases res with
            | bad _ _ => exact q
            | ok v s2 => exact ⟨un (.inl q.1), q.2⟩
          · have q := hy s' hs'
            revert q
            generalize evB call a d y s' = res
            intro q
            cases res with
            | bad _ _ => exact q
            | ok v s2 => exact ⟨un (.inr q.1), q.2⟩
    | plus => exact gen (fun z => nomatch z)
    | less => exact gen (fun z => nomatch z)
    | times => exact gen (fun z => nomatch z)
    | thn => exact gen (fun z => nomatch z)
    | say => exact gen (fun z => nomatch z)
    | call => exact gen (fun z => nomatch z)
    | through => exact gen (fun z => nomatch z)
theorem evC_snd (h : Fixed pr p) : ∀ (n c f : Nat) (u : Wt) (s : RS), f < pr.length → (p.came f).has u → SndS p s → Snd p (p.tells f).has (evC pr n c f u s)
  | 0, _, _, _, s, _, _, hs => hs
  | n + 1, c, f, u, s, hf, hu, hs => by
    rw [evC]
    by_cases q : 200 ≤ s.calls
    · rw [if_pos q]
      exact hs
    · have e := List.getElem?_eq_getElem hf
      rw [if_neg q, e]
      have hs1 : SndS p { s with calls := s.calls + 1, row := s.row ++ [f], came := s.came ++ [(f, u)] } := ⟨fun x hx => by
        rcases List.mem_append.mp hx with z | z
        · exact hs.1 x z
        · rw [List.mem_singleton.mp z]
          exact hu, hs.2⟩
      have hb := (h.pk.f _ (List.getElem_mem hf)).2.2.1
      refine Snd.bind (evB_snd h e (fun c' u' s' h1 h2 h3 => evC_snd h n f c' u' s' h1 h2 h3) hu 7 _ 0 _ hb (SubAt.all _) hs1) fun v s' hv hs' => ?_
      have ht : (p.tells f).has v := by rw [h.tells e (ne_no hu)]; exact hv
      exact ⟨ht, hs'.1, fun x hx => by
        rcases List.mem_append.mp hx with z | z
        · exact hs'.2 x z
        · rw [List.mem_singleton.mp z]
          exact ht⟩
/-- a whole run -/
theorem evR_snd (h : Fixed pr p) (z : Int) : Snd p (p.tells 0).has (evR pr z) := by
  have hf : 0 < pr.length := h.pk.l1
  have e := List.getElem?_eq_getElem hf
  have hu : (p.came 0).has (.num z) := h.came.mpr (.inl ⟨rfl, rfl⟩)
  unfold evR
  rw [e]
  have hb := (h.pk.f _ (List.getElem_mem hf)).2.2.1
  refine Snd.bind (evB_snd h e (fun c' u' s' h1 h2 h3 => evC_snd h 12 0 c' u' s' h1 h2 h3) hu 7 _ 0 _ hb (SubAt.all _) ⟨fun x hx => by
    rw [List.mem_singleton.mp hx]
    exact hu, fun _ hx => nomatch hx⟩) fun v s' hv hs' => ?_
  have ht : (p.tells 0).has v := by rw [h.tells e (ne_no hu)]; exact hv
  exact ⟨ht, hs'.1, fun x hx => by
    rcases List.mem_append.mp hx with z | z
    · exact hs'.2 x z
    · rw [List.mem_singleton.mp z]
      exact ht⟩
end
end Ov
/-! ### the full paper; a law's own look at a paper -/
namespace Ov
open PySem PySem.Spec PyProof.Rows L2
/-- x is not y, two truths -/
def rIsntB : R2 := fun x y H Q => ∃ a b, x = .bl a ∧ y = .bl b ∧ Q (.bl (!decide (a = b))) H
theorem op_isntB {X : Cx} : OpR X (compareOp .IsNot) rIsntB := by
  intro pins s σ H x y v u Q I rx ry h
  obtain ⟨a, b, rfl, rfl, q⟩ := h
  cases rx
  cases ry
  show wpAny _ _ ((isSame (Value.bool a) (Value.bool b)) >>= fun z => pure (Value.bool (!z))) _ _ s
  refine wpAny_bind (wpAny_isSame_plain rfl (wpAny_pure (fin_bl I q ?_)))
  cases a <;> cases b <;> rfl
def hasB (a : Wo) : Wt → Bool
  | .num _ => a.1
  | .way f => decide (f ∈ a.2)
theorem hasB_iff {a : Wo} {x : Wt} : hasB a x = true ↔ a.has x := by
  cases x with
  | num z => exact Iff.rfl
  | way f => exact decide_eq_true_iff
def spIsAmong (K : PySem.W.Frag) : Sp := fun vs H Q _ => ∃ (lv x : V) (u : Wt) (a : Wo), vs = [lv, x] ∧ LV H lv u ∧ WoAt K H x a ∧ Q (.bl (hasB a u)) H
def fullW (n : Nat) : Wo := (true, List.range n)
def fullP (n : Nat) : Pap := List.replicate n (fullW n, fullW n)
theorem fullW_ok (n : Nat) : WoOk n (fullW n) := ⟨List.pairwise_lt_range, fun _ h => List.mem_range.mp h⟩
theorem fullP_ok (n : Nat) : PapOk n (fullP n) := ⟨List.length_replicate, fun x hx => by rw [List.eq_of_mem_replicate hx]; exact ⟨fullW_ok n, fullW_ok n⟩⟩
theorem le_full {n : Nat} {a : Wo} (h : WoOk n a) : a.le (fullW n) := fun x hx => by
  cases x with
  | num z => rfl
  | way f => exact List.mem_range.mpr (h.lt f hx)
theorem holds_full {n : Nat} (n8 : n ≤ 8) {q : Pap} (hq : PapOk n q) : holdsB q (fullP n) = true := by
  unfold holdsB
  rw [List.all_eq_true]
  intro b hb
  obtain ⟨s, hs, hb⟩ := List.mem_flatMap.mp hb
  obtain ⟨h1, h2⟩ := List.of_mem_zip hs
  have o1 := hq.ok _ h1
  have e := List.eq_of_mem_replicate h2
  have a1 : uni s.1.1 (fullW n) = fullW n := (uni_eq o1.1 (fullW_ok n) n8).mpr (le_full o1.1)
  have a2 : uni s.1.2 (fullW n) = fullW n := (uni_eq o1.2 (fullW_ok n) n8).mpr (le_full o1.2)
  rw [e] at hb
  simp only [List.mem_cons, List.not_mem_nil, or_false] at hb
  rcases hb with rfl | rfl
  · exact decide_eq_true a1
  · exact decide_eq_true a2
theorem snd_st {p : Pap} {R : Wt → Prop} : ∀ {r : Res}, Snd p R r → SndS p r.st
  | .ok _ _, h => h.2
  | .bad _ _, h => h
theorem nV_allF (l : List Nat) : (nV l).all flatV = true := List.all_eq_true.mpr fun x hx => by
  obtain ⟨k, _, rfl⟩ := List.mem_map.mp hx
  rfl
theorem lt_of_has {n f : Nat} {p : Pap} {x : Wt} (hp : PapOk n p) (h : (p.came f).has x ∨ (p.tells f).has x) : f < n := by
  rcases Nat.lt_or_ge f n with g | g
  · exact g
  · have e := Pap.none hp g
    rw [e.1, e.2] at h
    exact (h.elim no_has no_has).elim
end Ov
/-! ### a law's own papers (k09): an index, a walk of a list or a tuple; sums of tuples -/
namespace Ov
open PySem PySem.Spec PyProof.Rows L2
def rIxA (K : PySem.W.Frag) : R2 := fun x y H Q => rIxL K x y H Q ∨ rIxT K x y H Q
theorem ix_any {X : Cx} : IxR X (rIxA X.K) := by
  intro value slice pins s σ H x y v u Q I rx ry h hs
  rcases h with h | h
  · exact ix_list value slice pins s σ H x y v u Q I rx ry h hs
  · exact ix_tup value slice pins s σ H x y v u Q I rx ry h hs
def iAny (K : PySem.W.Frag) (te : TE) : TI := fun σ H R => te σ H fun x H1 => ∃ a, x = .ref a ∧ (((∃ xs, SqL K H1 a xs) ∧ R (Itl K a) H1) ∨ ((∃ xs, SqT K H1 a xs) ∧ R (Itt K a) H1))
theorem pi_any {X : Cx} {K : PySem.W.Frag} {tg l : Expr} {tl : TE} (hK : X.K = K) (hl : PE X l tl) : PI X tg l (iAny K tl) := by
  subst hK
  refine ⟨fun pins s σ H R I h => ?_⟩
  refine thn (hl.run pins s σ H _ I h) fun v s1 ⟨x, H1, I1, r1, q1⟩ => ?_
  obtain ⟨a, rfl, q1⟩ := q1
  cases r1
  have fresh : ∀ b ∈ [s1.heap.objs.size], FpOk X pins H1 b := fun b hb => by
    rw [List.mem_singleton.mp hb]
    exact I1.fpOk (Nat.le_refl _) (I1.hok.fresh (Nat.le_refl _))
  rcases q1 with ⟨⟨xs, hq⟩, q⟩ | ⟨⟨xs, hq⟩, q⟩
  · obtain ⟨its, rv, p, _⟩ := I1.list hq
    refine wpAny_pyIter_list p.isList ⟨s1.heap.objs.size, [s1.heap.objs.size], _, _, H1, rfl, ?_, turn_list a _, ⟨_, Heap.get?_push_size _ rfl, rfl, rfl⟩, fresh, q⟩
    exact I1.kept (t' := s1.toks) fun b o e => Heap.get?_push_of_some _ e
  · obtain ⟨its, rv, p, _⟩ := I1.tuple hq
    refine wpAny_pyIter_tuple (show s1.heap.IsTuple a its.toArray from p) ⟨s1.heap.objs.size, [s1.heap.objs.size], _, _, H1, rfl, ?_, turn_tuple a _, ⟨_, Heap.get?_push_size _ rfl, rfl, rfl⟩, fresh, q⟩
    exact I1.kept (t' := s1.toks) fun b o e => Heap.get?_push_of_some _ e
theorem nV_app2 (l m : List Nat) : nV (l ++ m) = nV l ++ nV m := List.map_append
theorem eqvNilN (l : List Nat) : PyData.eqv (.list (l.map fun (k : Nat) => PyData.int (k : Int))) (.list []) = l.isEmpty := by
  cases l <;> simp [PyData.eqv, PyData.eqvAll]
theorem dNsL_sh (l : List Nat) : SeqAt.shaped (.list (l.map fun (k : Nat) => PyData.int (k : Int))) = true := by
  unfold SeqAt.shaped
  have d : PyData.depth (.list (l.map fun (k : Nat) => PyData.int (k : Int))) ≤ 64 := Nat.le_trans (Nat.succ_le_succ (depthAll_map (d := fun (k : Nat) => PyData.int (k : Int)) (k := 0) (fun _ => Nat.le_refl _) l)) (by decide)
  rw [show PyData.canLay0 (.list (l.map fun (k : Nat) => PyData.int (k : Int))) = true from canAll_map (fun _ => rfl) l, decide_eq_true d]
  rfl
theorem cat_by {K : PySem.W.Frag} {a b : Addr} {xs ys : List V} {H : Hp} {Q : VK} (ha : TupAt K H a xs) (hb : TupAt K H b ys) (hl : xs.length + ys.length ≤ 1000) (q : ∀ H' p, Same H H' → TupAt K H' p (xs ++ ys) → Q (.ref p) H') : rCatA K (.ref a) (.ref b) H Q :=
  ⟨a, b, xs, ys, rfl, rfl, ha.sq, hb.sq, sml _ hl, fun e => q H b (Same.refl H) (by rw [e]; exact hb), fun _ e => q H a (Same.refl H) (by rw [e, List.append_nil]; exact ha), fun _ _ p hp => q _ p (Same.new hp) (.inl upd_same)⟩
/-- what is first among what may be, all of it among the other -/
theorem among_eq {n : Nat} {a b : Wo} (ha : WoOk n a) (hb : WoOk n b) (n8 : n ≤ 8) : ((b.1 || !a.1) && (a.2.filter fun k => !decide (k ∈ b.2)).isEmpty) = decide (uni a b = b) := by
  have e : (uni a b = b) ↔ ((b.1 || !a.1) = true ∧ (a.2.filter fun k => !decide (k ∈ b.2)) = []) := by
    rw [uni_eq ha hb n8]
    constructor
    · intro h
      refine ⟨?_, List.filter_eq_nil_iff.mpr fun k hk => ?_⟩
      · cases ea : a.1 with
        | false => simp
        | true => rw [show b.1 = true from h (.num 0) ea]; rfl
      · rw [decide_eq_true (show k ∈ b.2 from h (.way k) hk)]
        exact Bool.false_ne_true
    · rintro ⟨h1, h2⟩ x hx
      cases x with
      | num z =>
        have hx : a.1 = true := hx
        rw [hx] at h1
        show b.1 = true
        simpa using h1
      | way k =>
        have := List.filter_eq_nil_iff.mp h2 k hx
        show k ∈ b.2
        by_cases c : k ∈ b.2
        · exact c
        · rw [decide_eq_false c] at this
          exact absurd rfl this
  by_cases c : uni a b = b
  · rw [decide_eq_true c]
    obtain ⟨h1, h2⟩ := e.mp c
    rw [h1, h2]
    rfl
  · rw [decide_eq_false c, Bool.and_eq_false_iff]
    by_cases h1 : (b.1 || !a.1) = true
    · right
      cases h : (a.2.filter fun k => !decide (k ∈ b.2)) with
      | nil => exact absurd (e.mpr ⟨h1, h⟩) c
      | cons _ _ => rfl
    · left
      simpa using h1
end Ov
/-! ### a body's worth and its wants by the tree (k09) -/
namespace Ov
open PySem PySem.Spec PyProof.Rows L2
mutual
def wvT (p : Pap) (c : Wo) : W → Wo
  | .mk o g as => wop p c o g (wvTs p c as)
def wvTs (p : Pap) (c : Wo) : List W → List Wo
  | [] => []
  | a :: r => wvT p c a :: wvTs p c r
end
def ownW (o : Op) (g : Int) (vs : List Wo) : List (Nat × Wo) := match o with
  | .call => [(g.toNat, vs.getLastD no)]
  | .through => (vs.getD 0 no).2.map fun f => (f, vs.getLastD no)
  | _ => []
mutual
def wnT (p : Pap) (c : Wo) : W → List (Nat × Wo)
  | .mk o g as => wnTs p c as ++ ownW o g (wvTs p c as)
def wnTs (p : Pap) (c : Wo) : List W → List (Nat × Wo)
  | [] => []
  | a :: r => wnT p c a ++ wnTs p c r
end
theorem wvT_mk (p : Pap) (c : Wo) (o : Op) (g : Int) (as : List W) : wvT p c (.mk o g as) = wop p c o g (wvTs p c as) := by rw [wvT]
theorem wnT_mk (p : Pap) (c : Wo) (o : Op) (g : Int) (as : List W) : wnT p c (.mk o g as) = wnTs p c as ++ ownW o g (wvTs p c as) := by rw [wnT]
theorem starts_wv {p : Pap} {c : Wo} {full : List Wo} : ∀ {as : List W} {b : Nat}, (∀ (j : Nat) (a : W), as[j]? = some a → ∃ k, (starts b as)[j]? = some k ∧ full.getD k no = wvT p c a) → (starts b as).map (fun j => full.getD j no) = wvTs p c as
  | [], b, _ => by rw [wvTs]; rfl
  | a :: as, b, h => by
    obtain ⟨k, e, hk⟩ := h 0 a rfl
    have e : b = k := Option.some.inj e
    show full.getD b no :: (starts (b + a.size) as).map (fun j => full.getD j no) = _
    rw [wvTs, e, hk, ← e, starts_wv fun j a' e' => h (j + 1) a' e']
section
variable {n : Nat} {p : Pap} {c : Wo} {b : W}
theorem sub_wv (hb : WOk n 7 b) : ∀ (d : Nat) (w : W) (i : Nat), WOk n d w → SubAt (b.rows 0) i w → (sol p c 0 (b.rows 0)).getD i no = wvT p c w
  | 0, w, _, h, _ => absurd h wok0
  | d + 1, w, i, h, hsub => by
    cases h with
    | @mk _ o g as h1 h2 h3 =>
    have hr := hsub.row
    have ok := rows0_ok hb i _ hr
    rw [wvT_mk, List.getD_eq_getElem?_getD, sol_at hr ok]
    show wop p c o g ((starts (i + 1) as).map fun j => (sol p c 0 (b.rows 0)).getD j no) = _
    rw [starts_wv fun j a e => by
      obtain ⟨k, e1, e2⟩ := hsub.arm e
      exact ⟨k, e1, sub_wv hb d a k (h3 a (List.mem_of_getElem? e)) e2⟩]
theorem hand_app (rs qs : List Row) (full : List Wo) : hand (rs ++ qs) full = hand rs full ++ hand qs full := List.flatMap_append
theorem rowss_wn {p : Pap} {c : Wo} {full : List Wo} {e : Nat × Wo} : ∀ {as : List W} {b : Nat}, (∀ (j : Nat) (a : W), as[j]? = some a → ∃ k, (starts b as)[j]? = some k ∧ (e ∈ hand (a.rows k) full ↔ e ∈ wnT p c a)) → (e ∈ hand (W.rowss b as) full ↔ e ∈ wnTs p c as)
  | [], b, _ => by rw [W.rowss, wnTs]; exact Iff.rfl
  | a :: as, b, h => by
    obtain ⟨k, e1, hk⟩ := h 0 a rfl
    have e1 : b = k := Option.some.inj e1
    rw [W.rowss, wnTs, hand_app, List.mem_append, List.mem_append, e1, hk, ← e1, rowss_wn fun j a' e' => h (j + 1) a' e']
theorem ents_own {full : List Wo} {o : Op} {g : Int} {as : List Nat} {vs : List Wo} (hv : as.map (fun j => full.getD j no) = vs) (hl : as.length = o.arity) : (ents full (o, g, as)).map (fun c => (c, full.getD (as.getLastD 0) no)) = ownW o g vs := by
  subst hv
  have last : ∀ {l : List Nat}, l ≠ [] → (l.map fun j => full.getD j no).getLastD no = full.getD (l.getLastD 0) no := fun {l} h => by
    obtain ⟨m, x, rfl⟩ := last_ex h
    rw [List.map_append, List.map_cons, List.map_nil, List.getLastD_concat, List.getLastD_concat]
  cases o with
  | call =>
    have ne : as ≠ [] := fun z => by rw [z] at hl; cases hl
    show [(g.toNat, _)] = [(g.toNat, _)]
    rw [last ne]
  | through =>
    have ne : as ≠ [] := fun z => by rw [z] at hl; cases hl
    have h0 : (as.map fun j => full.getD j no).getD 0 no = full.getD (as.getD 0 0) no := by
      cases as with
      | nil => exact absurd rfl ne
      | cons x r => rfl
    show (full.getD (as.getD 0 0) no).2.map _ = ((as.map fun j => full.getD j no).getD 0 no).2.map _
    rw [h0, last ne]
  | num => rfl
  | arg => rfl
  | way => rfl
  | plus => rfl
  | less => rfl
  | times => rfl
  | ife => rfl
  | thn => rfl
  | say => rfl
theorem sub_wn (hb : WOk n 7 b) {e : Nat × Wo} : ∀ (d : Nat) (w : W) (i : Nat), WOk n d w → SubAt (b.rows 0) i w → (e ∈ hand (w.rows i) (sol p c 0 (b.rows 0)) ↔ e ∈ wnT p c w)
  | 0, w, _, h, _ => absurd h wok0
  | d + 1, w, i, h, hsub => by
    cases h with
    | @mk _ o g as h1 h2 h3 =>
    have hv := starts_wv (p := p) (c := c) (full := sol p c 0 (b.rows 0)) (as := as) (b := i + 1) fun j a ea => by
      obtain ⟨k, e1, e2⟩ := hsub.arm ea
      exact ⟨k, e1, sub_wv hb d a k (h3 a (List.mem_of_getElem? ea)) e2⟩
    have hw := rowss_wn (p := p) (c := c) (full := sol p c 0 (b.rows 0)) (e := e) (as := as) (b := i + 1) fun j a ea => by
      obtain ⟨k, e1, e2⟩ := hsub.arm ea
      exact ⟨k, e1, sub_wn hb d a k (h3 a (List.mem_of_getElem? ea)) e2⟩
    rw [wnT_mk, W.rows_mk]
    have ex : hand ((o, g, starts (i + 1) as) :: W.rowss (i + 1) as) (sol p c 0 (b.rows 0)) = (ents (sol p c 0 (b.rows 0)) (o, g, starts (i + 1) as)).map (fun c' => (c', (sol p c 0 (b.rows 0)).getD ((starts (i + 1) as).getLastD 0) no)) ++ hand (W.rowss (i + 1) as) (sol p c 0 (b.rows 0)) := List.flatMap_cons
    rw [ex, ents_own hv ((starts_len _ _).trans h1), List.mem_append, List.mem_append, hw]
    exact Or.comm
end
/-- what the law looks at: all worths among what is told, all wants among what comes -/
def lawWants (bs : List W) (p : Pap) : Nat → List (Nat × Wo)
  | 0 => [(0, nu)]
  | k + 1 => lawWants bs p k ++ if p.came k = no then [] else ((bs[k]?).map fun b => wnT p (p.came k) b).getD []
section
variable {pr : List (Int × W)} {p : Pap}
theorem full_wv (h : PrOk pr) {f : Nat} {b : W} (e : (bods pr)[f]? = some b) : (fullOf p f b).getD 0 no = wvT p (p.came f) b := by
  have hb := bods_ok h b (List.mem_of_getElem? e)
  exact sub_wv hb 7 b 0 hb (SubAt.all b)
theorem full_wn (h : PrOk pr) {f : Nat} {b : W} (e : (bods pr)[f]? = some b) {x : Nat × Wo} : x ∈ hand (b.rows 0) (fullOf p f b) ↔ x ∈ wnT p (p.came f) b := by
  have hb := bods_ok h b (List.mem_of_getElem? e)
  exact sub_wn hb 7 b 0 hb (SubAt.all b)
theorem mem_lawWants (bs : List W) (p : Pap) {x : Nat × Wo} : ∀ k, x ∈ lawWants bs p k ↔ x = (0, nu) ∨ ∃ f b, f < k ∧ bs[f]? = some b ∧ p.came f ≠ no ∧ x ∈ wnT p (p.came f) b
  | 0 => by
    rw [lawWants, List.mem_singleton]
    exact ⟨.inl, fun z => z.elim id fun ⟨f, _, y, _⟩ => absurd y (Nat.not_lt_zero f)⟩
  | k + 1 => by
    rw [lawWants, List.mem_append, mem_lawWants bs p k]
    constructor
    · rintro ((z | ⟨f, b, y, z⟩) | z)
      · exact .inl z
      · exact .inr ⟨f, b, by omega, z⟩
      · split at z
        · cases z
        · rename_i q
          cases e : bs[k]? with
          | none => rw [e] at z; cases z
          | some b =>
            rw [e] at z
            exact .inr ⟨k, b, by omega, e, q, z⟩
    · rintro (z | ⟨f, b, y, e, q, z⟩)
      · exact .inl (.inl z)
      · by_cases c : f = k
        · subst c
          right
          rw [if_neg q, e]
          exact z
        · exact .inl (.inr ⟨f, b, by omega, e, q, z⟩)
/-- the law's look says just that the paper asks for no more than it tells -/
theorem law_le (h : PrOk pr) (hp : PapOk pr.length p) : (asked (bods pr) p).le p ↔ (∀ f b, (bods pr)[f]? = some b → p.came f ≠ no → (wvT p (p.came f) b).le (p.tells f)) ∧ ∀ x ∈ lawWants (bods pr) p pr.length, x.2.le (p.came x.1) := by
  constructor
  · intro hle
    refine ⟨fun f b e ne => ?_, fun x hx => ?_⟩
    · have z := (hle f).2
      rw [asked_tells h hp e, if_neg ne, full_wv h e] at z
      exact z
    · rcases (mem_lawWants _ _ _).mp hx with rfl | ⟨f, b, _, e, ne, hx⟩
      · exact fun y hy => (hle 0).1 y ((asked_came h hp).mpr (.inl ⟨rfl, hy⟩))
      · exact fun y hy => (hle x.1).1 y ((asked_came h hp).mpr (.inr ⟨f, x.2, ⟨b, e, ne, (full_wn h e).mpr hx⟩, hy⟩))
  · rintro ⟨h1, h2⟩ f
    constructor
    · intro x hx
      rcases (asked_came h hp).mp hx with ⟨rfl, hy⟩ | ⟨f', a, ⟨b, e, ne, hh⟩, hx⟩
      · exact h2 (0, nu) ((mem_lawWants _ _ _).mpr (.inl rfl)) x hy
      · have hf : f' < pr.length := by
          have := (List.getElem?_eq_some_iff.mp e).1
          rwa [bods_len] at this
        exact h2 (f, a) ((mem_lawWants _ _ _).mpr (.inr ⟨f', b, hf, e, ne, (full_wn h e).mp hh⟩)) x hx
    · by_cases hf : f < pr.length
      · have hf2 : f < (bods pr).length := by rw [bods_len]; exact hf
        have e := List.getElem?_eq_getElem hf2
        rw [asked_tells h hp e]
        by_cases c : p.came f = no
        · rw [if_pos c]
          exact no_le _
        · rw [if_neg c, full_wv h e]
          exact h1 f _ e c
      · rw [(Pap.none (asked_ok h hp) (by omega)).2]
        exact no_le _
theorem holdsB_le {n : Nat} (n8 : n ≤ 8) : ∀ {q p : Pap}, (∀ x ∈ q, WoOk n x.1 ∧ WoOk n x.2) → (∀ x ∈ p, WoOk n x.1 ∧ WoOk n x.2) → q.length = p.length → (holdsB q p = true ↔ ∀ f : Nat, ((q.getD f (no, no)).1).le (p.getD f (no, no)).1 ∧ ((q.getD f (no, no)).2).le (p.getD f (no, no)).2)
  | [], [], _, _, _ => ⟨fun _ f => ⟨Wo.le.refl _, Wo.le.refl _⟩, fun _ => rfl⟩
  | [], _ :: _, _, _, h => by cases h
  | _ :: _, [], _, _, h => by cases h
  | x :: q, y :: p, hq, hp, hl => by
    have ih := holdsB_le n8 (q := q) (p := p) (fun z hz => hq z (List.mem_cons_of_mem _ hz)) (fun z hz => hp z (List.mem_cons_of_mem _ hz)) (Nat.succ.inj hl)
    have ox := hq x List.mem_cons_self
    have oy := hp y List.mem_cons_self
    have ex : holdsB (x :: q) (y :: p) = (decide (uni x.1 y.1 = y.1) && (decide (uni x.2 y.2 = y.2) && holdsB q p)) := rfl
    rw [ex, Bool.and_eq_true, Bool.and_eq_true, decide_eq_true_iff, decide_eq_true_iff, uni_eq ox.1 oy.1 n8, uni_eq ox.2 oy.2 n8, ih]
    constructor
    · rintro ⟨h1, h2, h3⟩ f
      cases f with
      | zero => exact ⟨h1, h2⟩
      | succ f => exact h3 f
    · intro h
      exact ⟨(h 0).1, (h 0).2, fun f => h (f + 1)⟩
theorem holds_le (h : PrOk pr) (hp : PapOk pr.length p) : holdsB (asked (bods pr) p) p = true ↔ (asked (bods pr) p).le p :=
  holdsB_le h.l8 (asked_ok h hp).ok hp.ok ((asked_ok h hp).len.trans hp.len.symm)
end
end Ov
/-! ### papers of lists or tuples, the law's own look: promises (k09) -/
namespace Ov
open PySem PySem.Spec PyProof.Rows L2
/-- a tuple, or a list other than l -/
def SqA (K : PySem.W.Frag) (H : Hp) (l : Addr) (a : Addr) (xs : List V) : Prop := TupAt K H a xs ∨ (a ≠ l ∧ H a = some (.lst xs))
/-- a pair of worths, as a tuple or a list; l: the list that is written meanwhile -/
def SgAt (K : PySem.W.Frag) (H : Hp) (l : Addr) (v : V) (s : Wo × Wo) : Prop := ∃ b x y, v = .ref b ∧ SqA K H l b [x, y] ∧ WoAt K H x s.1 ∧ WoAt K H y s.2
def PgAt (K : PySem.W.Frag) (H : Hp) (l : Addr) (v : V) (p : Pap) : Prop := ∃ a vs, v = .ref a ∧ SqA K H l a vs ∧ Paired (SgAt K H l) vs p
section
variable {K : PySem.W.Frag} {H H' : Hp} {l : Addr} {ws : List V}
theorem SqA.but {a : Addr} {xs : List V} (e : H l = some (.lst ws)) (b : ButL l H H') (h : SqA K H l a xs) : SqA K H' l a xs := by
  rcases h with h | ⟨n, h⟩
  · exact .inl (h.keep (b.keep e))
  · exact .inr ⟨n, b a _ n h⟩
theorem SgAt.but {v : V} {s : Wo × Wo} (e : H l = some (.lst ws)) (b : ButL l H H') (h : SgAt K H l v s) : SgAt K H' l v s :=
  let ⟨c, x, y, e1, h1, h2, h3⟩ := h
  ⟨c, x, y, e1, h1.but e b, h2.keep (b.keep e), h3.keep (b.keep e)⟩
theorem PgAt.but {v : V} {p : Pap} (e : H l = some (.lst ws)) (b : ButL l H H') (h : PgAt K H l v p) : PgAt K H' l v p :=
  let ⟨a, vs, e1, h1, h2⟩ := h
  ⟨a, vs, e1, h1.but e b, L2.Paired.mapP h2 fun _ _ z => z.but e b⟩
theorem SqA.ix {a : Addr} {xs : List V} {i : Int} {x : V} {Q : VK} (h : SqA K H l a xs) (e : atI xs i = some x) (q : Q x H) : rIxA K (.ref a) (.int i) H Q := by
  rcases h with h | ⟨_, h⟩
  · exact .inr ⟨a, xs, i, x, rfl, rfl, h.sq, e, q⟩
  · exact .inl ⟨a, xs, i, x, rfl, rfl, SqL.of h, e, q⟩
theorem PpAt.pg {v : V} {p : Pap} (h : PpAt K H v p) (l : Addr) : PgAt K H l v p :=
  let ⟨a, vs, e1, h1, h2⟩ := h
  ⟨a, vs, e1, .inl h1, L2.Paired.mapP h2 fun _ _ ⟨b, x, y, e, g, r⟩ => ⟨b, x, y, e, .inl g, r⟩⟩
end
theorem ents8 {n : Nat} {vs : List Wo} (n8 : n ≤ 8) (h : ∀ x ∈ vs, WoOk n x) (o : Op) (g : Int) : (ownW o g vs).length ≤ 8 := by
  cases o with
  | call => exact Nat.le_of_ble_eq_true rfl
  | through =>
    show ((vs.getD 0 no).2.map _).length ≤ 8
    rw [List.length_map]
    exact (getD_ok h 0).len n8
  | num => exact Nat.zero_le _
  | arg => exact Nat.zero_le _
  | way => exact Nat.zero_le _
  | plus => exact Nat.zero_le _
  | less => exact Nat.zero_le _
  | times => exact Nat.zero_le _
  | ife => exact Nat.zero_le _
  | thn => exact Nat.zero_le _
  | say => exact Nat.zero_le _
mutual
theorem wvT_ok {n : Nat} {p : Pap} {c : Wo} (hp : PapOk n p) (hc : WoOk n c) (n8 : n ≤ 8) : ∀ {d : Nat} (w : W), WOk n d w → WoOk n (wvT p c w)
  | d, .mk o g as, h => by
    cases h with
    | @mk d' _ _ _ h1 h2 h3 =>
    rw [wvT_mk]
    exact wop_ok hp hc n8 h2 (wvTs_ok hp hc n8 (d := d') as h3)
theorem wvTs_ok {n : Nat} {p : Pap} {c : Wo} (hp : PapOk n p) (hc : WoOk n c) (n8 : n ≤ 8) : ∀ {d : Nat} (as : List W), (∀ a ∈ as, WOk n d a) → ∀ x ∈ wvTs p c as, WoOk n x
  | _, [], _, x, hx => by rw [wvTs] at hx; cases hx
  | d, a :: as, h, x, hx => by
    rw [wvTs] at hx
    rcases List.mem_cons.mp hx with e | e
    · rw [e]
      exact wvT_ok hp hc n8 (d := d) a (h a List.mem_cons_self)
    · exact wvTs_ok hp hc n8 (d := d) as (fun z hz => h z (List.mem_cons_of_mem _ hz)) x e
end
theorem wvTs_snoc (p : Pap) (c : Wo) : ∀ (as : List W) (a : W), wvTs p c (as ++ [a]) = wvTs p c as ++ [wvT p c a]
  | [], a => by rw [List.nil_append, wvTs, wvTs, wvTs]; rfl
  | x :: as, a => by rw [List.cons_append, wvTs, wvTs, wvTs_snoc p c as a]; rfl
theorem wnTs_snoc (p : Pap) (c : Wo) : ∀ (as : List W) (a : W), wnTs p c (as ++ [a]) = wnTs p c as ++ wnT p c a
  | [], a => by rw [List.nil_append, wnTs, wnTs, wnTs]; simp
  | x :: as, a => by rw [List.cons_append, wnTs, wnTs, wnTs_snoc p c as a, List.append_assoc]
theorem wvTs_len (p : Pap) (c : Wo) : ∀ as : List W, (wvTs p c as).length = as.length
  | [] => by rw [wvTs]; rfl
  | a :: as => by rw [wvTs, List.length_cons, wvTs_len p c as, List.length_cons]
theorem paired_last {α β : Type} {R : α → β → Prop} {l : List α} {x : α} {m : List β} {d : β} (h : Paired R (l ++ [x]) m) : R x (m.getLastD d) := by
  have hl := Paired.length h
  rw [List.length_append, List.length_singleton] at hl
  obtain ⟨m0, y, rfl⟩ := last_ex (l := m) (fun z => by rw [z] at hl; cases hl)
  rw [List.length_append, List.length_singleton] at hl
  obtain ⟨y', e, r⟩ := Paired.get2 h (i := l.length) (x := x) (by rw [List.getElem?_append_right (Nat.le_refl _), Nat.sub_self]; rfl)
  rw [List.getElem?_append_right (by omega), show l.length - m0.length = 0 by omega] at e
  have e := Option.some.inj e
  rw [List.getLastD_concat]
  exact e ▸ r
def spMaybe (K : PySem.W.Frag) (d : Nat) : Sp := fun vs H Q _ => ∃ (pz v cv : V) (l : Addr) (n : Nat) (p : Pap) (c : Wo) (u : W) (ws : List V) (es : List (Nat × Wo)), vs = [pz, .ref l, v, cv] ∧ PgAt K H l pz p ∧ PapOk n p ∧ n ≤ 8 ∧ H l = some (.lst ws) ∧ Paired (HnAt K H) ws es ∧
  WAt H v u ∧ WOk n d u ∧ WoAt K H cv c ∧ WoOk n c ∧ ws.length + 8 * u.size ≤ 4000 ∧
  ∀ H' v' ws', ButL l H H' → H' l = some (.lst ws') → Paired (HnAt K H') ws' (es ++ wnT p c u) → ws'.length ≤ ws.length + 8 * u.size → WoAt K H' v' (wvT p c u) → Q v' H'
def spLawHolds (K : PySem.W.Frag) : Sp := fun vs H Q _ => ∃ (v pz : V) (pr : List (Int × W)) (p : Pap) , vs = [v, pz] ∧ PrAt H v pr ∧ PrOk pr ∧ PpAt K H pz p ∧ PapOk pr.length p ∧ ∀ H' b, Same H H' → (b = true ↔ (asked (bods pr) p).le p) → Q (.bl b) H'
def dHn (e : Nat × Wo) : PyData := .tuple [.int (e.1 : Int), dWo e.2]
theorem HnAt.dp {K : PySem.W.Frag} {H : Hp} {v : V} {e : Nat × Wo} (h : HnAt K H v e) : Dp K H v (dHn e) := by
  obtain ⟨t, x, rfl, h1, h2⟩ := h
  exact .tup (SqT.of h1) (.cons (.int _) (.cons h2.dp .nil))
theorem hns_eqv (l : List (Nat × Wo)) : PyData.eqv (.list (l.map dHn)) (.list []) = l.isEmpty := by
  cases l <;> simp [PyData.eqv, PyData.eqvAll]
theorem hns_sh (l : List (Nat × Wo)) : SeqAt.shaped (.list (l.map dHn)) = true := by
  have c1 : ∀ e, PyData.canLay0 (dHn e) = true := fun e => by
    show (PyData.canLay0 (.int (e.1 : Int)) && (PyData.canLay0 (dWo e.2) && PyData.canLayAll0 [])) = true
    rw [can_dWo]
    rfl
  have c2 : ∀ e, PyData.depth (dHn e) ≤ 3 := fun e => by
    show max (PyData.depth (.int (e.1 : Int))) (max (PyData.depth (dWo e.2)) (PyData.depthAll [])) + 1 ≤ 3
    exact Nat.succ_le_succ (Nat.max_le.mpr ⟨Nat.zero_le _, Nat.max_le.mpr ⟨dep_dWo _, Nat.zero_le _⟩⟩)
  unfold SeqAt.shaped
  rw [show PyData.canLay0 (.list (l.map dHn)) = true from canAll_map c1 l, decide_eq_true (show PyData.depth (.list (l.map dHn)) ≤ 64 from Nat.le_trans (Nat.succ_le_succ (depthAll_map c2 l)) (by decide))]
  rfl
theorem lawWants_ok {pr : List (Int × W)} {p : Pap} (h : PrOk pr) (hp : PapOk pr.length p) {k : Nat} : ∀ x ∈ lawWants (bods pr) p k, x.1 < pr.length ∧ WoOk pr.length x.2 := fun x hx => by
  rcases (mem_lawWants _ _ _).mp hx with rfl | ⟨f, b, _, e, ne, hx⟩
  · exact ⟨h.l1, nu_ok _⟩
  · have hb := bods_ok h b (List.mem_of_getElem? e)
    exact hand_ok (rows0_ok hb) (sol0_ok hp h.l8 hb f) x ((full_wn h e).mpr hx)
/-- a paper with less than another -/
def Fewer (n : Nat) (p q : Pap) : Prop := PapOk n q ∧ q.le p ∧ q ≠ p
def spFewer (K : PySem.W.Frag) : Sp := fun vs H Q _ => ∃ (pz : V) (n : Nat) (p : Pap), vs = [pz] ∧ PpAt K H pz p ∧ PapOk n p ∧ n ≤ 8 ∧
  ∀ H' r fs, Same H H' → H r = none → H' r = some (.lst fs) → (∀ v ∈ fs, ∃ q, PpAt K H' v q ∧ Fewer n p q) → Q (.ref r) H'
theorem wnT_len {n : Nat} {p : Pap} {c : Wo} (hp : PapOk n p) (hc : WoOk n c) (n8 : n ≤ 8) {ws ws' : List V} (h : ws'.length ≤ ws.length + 8 * 40) {k : Nat} (hk : ws.length ≤ 1 + 320 * k) : ws'.length ≤ 1 + 320 * (k + 1) := by omega
end Ov
/-! ### papers with less (k09) -/
namespace Ov
open PySem PySem.Spec PyProof.Rows L2
def LessW (n : Nat) (a b : Wo) : Prop := WoOk n b ∧ b.le a ∧ b ≠ a
theorem less_num {n : Nat} {a : Wo} (h : WoOk n a) (e : a.1 = true) : LessW n a (false, a.2) :=
  ⟨⟨h.up, h.lt⟩, fun x hx => by
    cases x with
    | num z => cases hx
    | way f => exact hx, fun z => by rw [← z] at e; cases e⟩
theorem less_way {n : Nat} {a : Wo} (h : WoOk n a) {k : Nat} (hk : k ∈ a.2) : LessW n a (a.1, a.2.filter fun j => !decide (j = k)) :=
  ⟨⟨h.up.filter _, fun j hj => h.lt j (List.mem_filter.mp hj).1⟩, fun x hx => by
    cases x with
    | num z => exact hx
    | way f => exact (List.mem_filter.mp hx).1, fun z => by
    have e : a.2.filter (fun j => !decide (j = k)) = a.2 := congrArg Prod.snd z
    have := List.filter_eq_self.mp e k hk
    rw [decide_eq_true rfl] at this
    cases this⟩
section
variable {n : Nat} {p : Pap} {k : Nat} {s t : Wo × Wo}
theorem pap_set (hp : PapOk n p) (ht : WoOk n t.1 ∧ WoOk n t.2) : PapOk n (p.set k t) := ⟨by rw [List.length_set]; exact hp.len, fun x hx => by
  rcases List.mem_or_eq_of_mem_set hx with z | z
  · exact hp.ok x z
  · rw [z]; exact ht⟩
theorem pap_set_le (e : p[k]? = some s) (h1 : t.1.le s.1) (h2 : t.2.le s.2) : Pap.le (p.set k t) p := fun f => by
  unfold Pap.came Pap.tells
  rw [List.getD_eq_getElem?_getD, List.getD_eq_getElem?_getD, List.getElem?_set]
  by_cases q : k = f
  · subst q
    have hk := (List.getElem?_eq_some_iff.mp e).1
    rw [if_pos rfl, if_pos hk, e]
    exact ⟨h1, h2⟩
  · rw [if_neg q]
    exact ⟨Wo.le.refl _, Wo.le.refl _⟩
theorem pap_set_ne (e : p[k]? = some s) (h : t ≠ s) : p.set k t ≠ p := fun z => by
  have hk := (List.getElem?_eq_some_iff.mp e).1
  have y : (p.set k t)[k]? = some t := by rw [List.getElem?_set, if_pos rfl, if_pos hk]
  rw [z, e] at y
  exact h (Option.some.inj y).symm
theorem fewer_0 (hp : PapOk n p) (e : p[k]? = some s) {b : Wo} (h : LessW n s.1 b) : Fewer n p (p.set k (b, s.2)) := by
  have os := hp.ok s (List.mem_of_getElem? e)
  exact ⟨pap_set hp ⟨h.1, os.2⟩, pap_set_le e h.2.1 (Wo.le.refl _), pap_set_ne e fun z => h.2.2 (congrArg Prod.fst z)⟩
theorem fewer_1 (hp : PapOk n p) (e : p[k]? = some s) {b : Wo} (h : LessW n s.2 b) : Fewer n p (p.set k (s.1, b)) := by
  have os := hp.ok s (List.mem_of_getElem? e)
  exact ⟨pap_set hp ⟨os.1, h.1⟩, pap_set_le e (Wo.le.refl _) h.2.1, pap_set_ne e fun z => h.2.2 (congrArg Prod.snd z)⟩
theorem pap_cut (hk : k < p.length) : p.take k ++ [t] ++ p.drop (k + 1) = p.set k t := by
  rw [List.set_eq_take_append_cons_drop, if_pos hk, List.append_assoc]
  rfl
end
/-- none with less holds -/
theorem Least.not_fewer {pr : List (Int × W)} {p q : Pap} (h : Least pr p) (f : Fewer pr.length p q) : ¬ (asked (bods pr) q).le q := fun z => by
  have h1 := h.least q f.1 z
  have h2 := Pap.le.climb f.1 h.ok f.2.1 (Ne.symm f.2.2)
  have h3 := (pap_sz_le h.ok.ok f.1.ok (by rw [h.ok.len, f.1.len]) h1).1
  omega
end Ov
/-! ### a paper's rows as lists that are written (k08, k09) -/
namespace Ov
open PySem PySem.Spec PyProof.Rows L2
theorem paired_by {α β : Type} {R : α → β → Prop} : ∀ {l : List α} {m : List β}, l.length = m.length → (∀ (i : Nat) x y, l[i]? = some x → m[i]? = some y → R x y) → Paired R l m
  | [], [], _, _ => .nil
  | [], _ :: _, h, _ => by cases h
  | _ :: _, [], h, _ => by cases h
  | x :: l, y :: m, h, f => .cons (f 0 x y rfl rfl) (paired_by (Nat.succ.inj h) fun i a b h1 h2 => f (i + 1) a b h1 h2)
theorem paired_mem {α β : Type} {R S : α → β → Prop} {l : List α} {m : List β} (h : Paired R l m) (f : ∀ x ∈ l, ∀ y, R x y → S x y) : Paired S l m :=
  paired_by (Paired.length h) fun i x y h1 h2 => by
    obtain ⟨y', e, r⟩ := Paired.get2 h h1
    rw [h2] at e
    cases e
    exact f x (List.mem_of_getElem? h1) y r
theorem paired_mapL {α β γ : Type} {R : γ → β → Prop} {f : α → γ} : ∀ {l : List α} {m : List β}, Paired (fun x y => R (f x) y) l m → Paired R (l.map f) m
  | _, _, .nil => .nil
  | _, _, .cons h r => .cons h (paired_mapL r)
theorem slA_by {K : PySem.W.Frag} {a : Addr} {xs : List V} {lo hi : Option Int} {H : Hp} {Q : VK} (ha : TupAt K H a xs) (q : ∀ H' p, Same H H' → TupAt K H' p (cutV xs lo hi) → Q (.ref p) H') : rSlA K (.ref a) lo hi H Q := by
  refine ⟨a, xs, rfl, ha.sq, fun ⟨h1, h2⟩ => q H a (Same.refl H) ?_, fun _ p hp => q _ p (Same.new hp) (.inl upd_same)⟩
  unfold cutV
  rw [h1, h2, List.drop_zero, Nat.sub_zero, List.take_length]
  exact ha
theorem slA_to {K : PySem.W.Frag} {a : Addr} {xs : List V} {k : Nat} {H : Hp} {Q : VK} (ha : TupAt K H a xs) (hk : k ≤ xs.length) (q : ∀ H' p, Same H H' → TupAt K H' p (xs.take k) → Q (.ref p) H') : rSlA K (.ref a) none (some (k : Int)) H Q :=
  slA_by ha fun H' p s h => q H' p s (by rw [cut_to xs k hk] at h; exact h)
theorem slA_from {K : PySem.W.Frag} {a : Addr} {xs : List V} {k : Nat} {H : Hp} {Q : VK} (ha : TupAt K H a xs) (hk : k ≤ xs.length) (q : ∀ H' p, Same H H' → TupAt K H' p (xs.drop k) → Q (.ref p) H') : rSlA K (.ref a) (some (k : Int)) none H Q :=
  slA_by ha fun H' p s h => q H' p s (by rw [cut_from xs k hk] at h; exact h)
theorem cut_set {α : Type} {l : List α} {k : Nat} {x : α} (hk : k < l.length) : l.take k ++ [x] ++ l.drop (k + 1) = l.set k x := by
  rw [List.set_eq_take_append_cons_drop, if_pos hk, List.append_assoc]
  rfl
/-- the row b: a list of two worths -/
def RwB (K : PySem.W.Frag) (H : Hp) (b : Addr) (s : Wo × Wo) : Prop := ∃ x y, H b = some (.lst [x, y]) ∧ WoAt K H x s.1 ∧ WoAt K H y s.2
/-- the rows of a paper: lists at bs, apart from one another and from h, c -/
structure RwAt (K : PySem.W.Frag) (H : Hp) (h c a : Addr) (bs : List Addr) (q : Pap) : Prop where
  e : H a = some (.lst (bs.map V.ref))
  nd : bs.Nodup
  na : a ∉ bs
  nh : ∀ b ∈ a :: bs, b ≠ h ∧ b ≠ c
  r : Paired (RwB K H) bs q
section
variable {K : PySem.W.Frag} {H H' : Hp} {h c a : Addr} {bs : List Addr} {q : Pap}
theorem RwAt.of (R : RwAt K H h c a bs q) (k : Keep H H') (st : ∀ b ∈ a :: bs, ∀ o, H b = some o → H' b = some o) : RwAt K H' h c a bs q where
  e := st a List.mem_cons_self _ R.e
  nd := R.nd
  na := R.na
  nh := R.nh
  r := paired_mem R.r fun b hb s ⟨x, y, e, h1, h2⟩ => ⟨x, y, st b (List.mem_cons_of_mem _ hb) _ e, h1.keep k, h2.keep k⟩
theorem RwAt.same (R : RwAt K H h c a bs q) (s : Same H H') : RwAt K H' h c a bs q := R.of (Keep.same s) fun b _ o e => s b o e
theorem RwAt.but (R : RwAt K H h c a bs q) (b : But h c H H') (d : Dr H h c) : RwAt K H' h c a bs q := R.of (Keep.but b d) fun x hx o e => b x o (R.nh x hx).1 (R.nh x hx).2 e
theorem RwAt.butl {l : Addr} {ws : List V} (R : RwAt K H h c a bs q) (hl : l ∉ a :: bs) (el : H l = some (.lst ws)) (b : ButL l H H') : RwAt K H' h c a bs q :=
  R.of (b.keep el) fun x hx o e => b x o (fun z => hl (z ▸ hx)) e
theorem RwAt.pg {l : Addr} (R : RwAt K H h c a bs q) (hl : l ∉ a :: bs) : PgAt K H l (.ref a) q :=
  ⟨a, bs.map V.ref, rfl, .inr ⟨fun z => hl (by rw [z]; exact List.mem_cons_self), R.e⟩, paired_mapL (paired_mem R.r fun b hb s ⟨x, y, e, h1, h2⟩ => ⟨b, x, y, rfl, .inr ⟨fun z => hl (by rw [← z]; exact List.mem_cons_of_mem _ hb), e⟩, h1, h2⟩)⟩
theorem RwAt.at {k : Nat} {s : Wo × Wo} (R : RwAt K H h c a bs q) (hk : q[k]? = some s) : ∃ b x y, bs[k]? = some b ∧ (bs.map V.ref)[k]? = some (.ref b) ∧ b ∈ bs ∧ H b = some (.lst [x, y]) ∧ WoAt K H x s.1 ∧ WoAt K H y s.2 := by
  obtain ⟨b, hb, x, y, e, h1, h2⟩ := Paired.got R.r hk
  exact ⟨b, x, y, hb, by rw [List.getElem?_map, hb]; rfl, List.mem_of_getElem? hb, e, h1, h2⟩
theorem RwAt.put {k : Nat} {b : Addr} {x y : V} {zs : List V} {s : Wo × Wo} (R : RwAt K H h c a bs q) (hk : bs[k]? = some b) (eb : H b = some (.lst zs)) (hx : WoAt K H x s.1) (hy : WoAt K H y s.2) : RwAt K (upd H b (.lst [x, y])) h c a bs (q.set k s) := by
  have kp : Keep H (upd H b (.lst [x, y])) := Keep.updL eb
  have hb := List.mem_of_getElem? hk
  have nab : a ≠ b := fun z => R.na (z ▸ hb)
  have hl := Paired.length R.r
  refine ⟨by rw [upd_ne nab]; exact R.e, R.nd, R.na, R.nh, paired_by (by rw [List.length_set]; exact hl) fun i u t h1 h2 => ?_⟩
  by_cases e : k = i
  · subst e
    rw [hk] at h1
    cases h1
    have hlt := (List.getElem?_eq_some_iff.mp hk).1
    rw [List.getElem?_set, if_pos rfl, if_pos (by omega)] at h2
    cases h2
    exact ⟨x, y, upd_same, hx.keep kp, hy.keep kp⟩
  · rw [List.getElem?_set, if_neg e] at h2
    obtain ⟨t', e2, x2, y2, e3, h4, h5⟩ := Paired.get2 R.r h1
    rw [h2] at e2
    cases e2
    have nub : u ≠ b := fun z => by
      subst z
      obtain ⟨l1, g1⟩ := List.getElem?_eq_some_iff.mp hk
      obtain ⟨l2, g2⟩ := List.getElem?_eq_some_iff.mp h1
      rcases Nat.lt_or_gt_of_ne e with z | z
      · exact (List.pairwise_iff_getElem.mp R.nd k i l1 l2 z) (g1.trans g2.symm)
      · exact (List.pairwise_iff_getElem.mp R.nd i k l2 l1 z) (g2.trans g1.symm)
    exact ⟨x2, y2, by rw [upd_ne nub]; exact e3, h4.keep kp, h5.keep kp⟩
theorem dr_upd {b : Addr} {o : HO} (R : RwAt K H h c a bs q) (d : Dr H h c) (hb : b ∈ bs) : Dr (upd H b o) h c := d.upd (R.nh b (List.mem_cons_of_mem _ hb)).1 (R.nh b (List.mem_cons_of_mem _ hb)).2
end
end Ov
/-! ### rows[k][side] = both(rows[k][side], ..) (k08, k09, k11, k12) -/
namespace Ov
open PySem PySem.Spec PyProof.Rows L2
mutual
theorem wnT_ok {n : Nat} {p : Pap} {c : Wo} (hp : PapOk n p) (hc : WoOk n c) (n8 : n ≤ 8) : ∀ {d : Nat} (w : W), WOk n d w → ∀ x ∈ wnT p c w, x.1 < n ∧ WoOk n x.2
  | d, .mk o g as, h, x, hx => by
    cases h with
    | @mk d' _ _ _ h1 h2 h3 =>
    rw [wnT_mk] at hx
    rcases List.mem_append.mp hx with z | z
    · exact wnTs_ok hp hc n8 (d := d') as h3 x z
    · have hv := wvTs_ok hp hc n8 (d := d') as h3
      have last : WoOk n ((wvTs p c as).getLastD no) := by
        rcases List.eq_nil_or_concat (wvTs p c as) with e | ⟨m, y, e⟩
        · rw [e]; exact no_ok n
        · rw [List.concat_eq_append] at e
          rw [e, List.getLastD_concat]
          exact hv y (by rw [e]; exact List.mem_append_right _ (List.mem_singleton.mpr rfl))
      cases o with
      | call =>
        have hg : 0 ≤ g ∧ g < n := h2
        rw [List.mem_singleton.mp z]
        exact ⟨by show g.toNat < n; omega, last⟩
      | through =>
        obtain ⟨f, hf, rfl⟩ := List.mem_map.mp z
        exact ⟨(getD_ok hv 0).lt f hf, last⟩
      | num => cases z
      | arg => cases z
      | way => cases z
      | plus => cases z
      | less => cases z
      | times => cases z
      | ife => cases z
      | thn => cases z
      | say => cases z
theorem wnTs_ok {n : Nat} {p : Pap} {c : Wo} (hp : PapOk n p) (hc : WoOk n c) (n8 : n ≤ 8) : ∀ {d : Nat} (as : List W), (∀ a ∈ as, WOk n d a) → ∀ x ∈ wnTs p c as, x.1 < n ∧ WoOk n x.2
  | _, [], _, x, hx => by rw [wnTs] at hx; cases hx
  | d, a :: as, h, x, hx => by
    rw [wnTs] at hx
    rcases List.mem_append.mp hx with e | e
    · exact wnT_ok hp hc n8 (d := d) a (h a List.mem_cons_self) x e
    · exact wnTs_ok hp hc n8 (d := d) as (fun z hz => h z (List.mem_cons_of_mem _ hz)) x e
end
theorem row_asg {K : PySem.W.Frag} {ir ik : Nat} {TS TW : TE} {D : Ends} {σ : L2.St} {H : Hp} {h c ra : Addr} {bs : List Addr} {q : Pap} {n k s : Nat} {E : XK} (X : Hp → Prop)
    (hs : s < 2) (er : σ[ir]? = some (some (.ref ra))) (ek : σ[ik]? = some (some (.int (k : Int)))) (hTS : ∀ H Q, Q (.int (s : Int)) H → TS σ H Q) (R : RwAt K H h c ra bs q) (hq : PapOk n q) (n8 : n ≤ 8) (hk : k < n)
    (hTW : ∀ Qw : VK, (∀ H' v wo, RwAt K H' h c ra bs q → Keep H H' → X H' → WoAt K H' v wo → WoOk n wo → Qw v H') → TW σ H Qw)
    (hD : ∀ H1 H' q', X H1 → (∀ b, b ∉ bs → ∀ o, H1 b = some o → H' b = some o) → Keep H1 H' → RwAt K H' h c ra bs q' → PapOk n q' → D.nx σ H') :
    tAsg (tCall (spEither K) [] E (tCons (tOp (rIxL K) (tOp (rIxL K) (tVar ir) (tVar ik)) TS) (tCons TW tNil))) (gSub (tOp (rIxL K) (tVar ir) (tVar ik)) TS L2.rSetL) D σ H := by
  obtain ⟨sx, hsx⟩ : ∃ sx, q[k]? = some sx := ⟨_, List.getElem?_eq_getElem (by rw [hq.len]; exact hk)⟩
  have oks := hq.ok sx (List.mem_of_getElem? hsx)
  obtain ⟨b, x, y, hb, hbr, hbm, eb, hx, hy⟩ := R.at hsx
  obtain ⟨z, a, hz, ha, oka⟩ : ∃ z a, [x, y][s]? = some z ∧ WoAt K H z a ∧ WoOk n a := by
    match s, hs with
    | 0, _ => exact ⟨x, sx.1, rfl, hx, oks.1⟩
    | 1, _ => exact ⟨y, sx.2, rfl, hy, oks.2⟩
  refine ⟨_, er, _, ek, ra, _, _, _, rfl, rfl, SqL.of R.e, atI_nat hbr, hTS _ _ ⟨b, _, _, _, rfl, rfl, SqL.of eb, atI_nat hz, ?_⟩⟩
  refine hTW _ fun H1 v wo R1 k1 x1 hv hwo => ⟨z, v, n, a, wo, rfl, ha.keep k1, hv, oka, hwo, n8, fun H2 u s2 hu => ?_⟩
  have R2 := R1.same s2
  obtain ⟨b', x', y', hb', hbr', _, eb', hx', hy'⟩ := R2.at hsx
  rw [hb] at hb'
  cases hb'
  have ok2 := uni_ok oka hwo n8
  have nb : ∀ u, u ∉ bs → u ≠ b := fun u hu z => hu (z ▸ hbm)
  refine ⟨_, er, _, ek, ra, _, _, _, rfl, rfl, SqL.of R2.e, atI_nat hbr', hTS _ _ ?_⟩
  match s, hs with
  | 0, _ => exact ⟨b, [x', y'], 0, 0, rfl, rfl, eb', rfl, hD H1 _ _ x1 (fun u hu o e => by rw [upd_ne (nb u hu)]; exact s2 _ _ e) ((Keep.same s2).trans (Keep.updL eb')) (R2.put (s := (uni a wo, sx.2)) hb eb' hu hy') (pap_set hq ⟨ok2, oks.2⟩)⟩
  | 1, _ => exact ⟨b, [x', y'], 1, 1, rfl, rfl, eb', rfl, hD H1 _ _ x1 (fun u hu o e => by rw [upd_ne (nb u hu)]; exact s2 _ _ e) ((Keep.same s2).trans (Keep.updL eb')) (R2.put (s := (sx.1, uni a wo)) hb eb' hx' hu) (pap_set hq ⟨oks.1, ok2⟩)⟩
/-- the rows, the drawer, and what tuples tell -/
structure RwS (K : PySem.W.Frag) (Kp : Hp → Prop) (n : Nat) (h c ra : Addr) (bs : List Addr) (H : Hp) (q : Pap) : Prop where
  d : Dr H h c
  k : Kp H
  r : RwAt K H h c ra bs q
  ok : PapOk n q
section
variable {K : PySem.W.Frag} {Kp : Hp → Prop} {n : Nat} {h c ra : Addr} {bs : List Addr} {H H' : Hp} {q : Pap}
theorem RwS.same (S : RwS K Kp n h c ra bs H q) (hK : ∀ {H H'}, Keep H H' → Kp H → Kp H') (s : Same H H') : RwS K Kp n h c ra bs H' q := ⟨S.d.same s, hK (Keep.same s) S.k, S.r.same s, S.ok⟩
theorem RwS.but (S : RwS K Kp n h c ra bs H q) (hK : ∀ {H H'}, Keep H H' → Kp H → Kp H') (b : But h c H H') (d : Dr H' h c) : RwS K Kp n h c ra bs H' q := ⟨d, hK (Keep.but b S.d) S.k, S.r.but b S.d, S.ok⟩
theorem Dr.of {H H' : Hp} (d : Dr H h c) (st : ∀ b, b = h ∨ b = c → ∀ o, H b = some o → H' b = some o) : Dr H' h c :=
  let ⟨m, k, ns, h1, h2, h3⟩ := d
  ⟨m, k, ns, st _ (.inl rfl) _ h1, st _ (.inr rfl) _ h2, h3⟩
theorem RwS.butl {l : Addr} {ws : List V} (S : RwS K Kp n h c ra bs H q) (hK : ∀ {H H'}, Keep H H' → Kp H → Kp H') (hl : l ∉ ra :: bs) (lh : l ≠ h) (lc : l ≠ c) (el : H l = some (.lst ws)) (b : ButL l H H') : RwS K Kp n h c ra bs H' q :=
  ⟨Dr.of S.d fun x hx o e => b x o (hx.elim (fun z y => lh (y.symm.trans z)) fun z y => lc (y.symm.trans z)) e, hK (b.keep el) S.k, S.r.butl hl el b, S.ok⟩
theorem row_asgS {ir ik : Nat} {TS TW : TE} {D : Ends} {σ : L2.St} {k s : Nat} {E : XK} (Z : Hp → Prop) (S : RwS K Kp n h c ra bs H q) (hK : ∀ {H H'}, Keep H H' → Kp H → Kp H')
    (hs : s < 2) (er : σ[ir]? = some (some (.ref ra))) (ek : σ[ik]? = some (some (.int (k : Int)))) (hTS : ∀ H Q, Q (.int (s : Int)) H → TS σ H Q) (n8 : n ≤ 8) (hk : k < n)
    (hTW : ∀ Qw : VK, (∀ H' v wo, RwS K Kp n h c ra bs H' q → Keep H H' → Z H' → WoAt K H' v wo → WoOk n wo → Qw v H') → TW σ H Qw)
    (hD : ∀ H1 H' q', Z H1 → Keep H1 H' → (∀ b, b ∉ bs → ∀ o, H1 b = some o → H' b = some o) → RwS K Kp n h c ra bs H' q' → D.nx σ H') :
    tAsg (tCall (spEither K) [] E (tCons (tOp (rIxL K) (tOp (rIxL K) (tVar ir) (tVar ik)) TS) (tCons TW tNil))) (gSub (tOp (rIxL K) (tVar ir) (tVar ik)) TS L2.rSetL) D σ H := by
  refine row_asg (fun H' => Z H' ∧ Dr H' h c ∧ Kp H') hs er ek hTS S.r S.ok n8 hk (fun Qw g => hTW Qw fun H' v wo S' k' z' hv ho => g H' v wo S'.r k' ⟨z', S'.d, S'.k⟩ hv ho) fun H1 H' q' ⟨z1, d1, p1⟩ st kp R' ok' => ?_
  refine hD H1 H' q' z1 kp st ⟨Dr.of d1 fun x hx o e => st x (fun hm => ?_) o e, hK kp p1, R', ok'⟩
  have nn := S.r.nh x (List.mem_cons_of_mem _ hm)
  rcases hx with z | z
  · exact nn.1 z
  · exact nn.2 z
theorem RwAt.mem (R : RwAt K H h c ra bs q) {b : Addr} (hb : b ∈ bs) : ∃ x y, H b = some (.lst [x, y]) := by
  obtain ⟨s1, _, x1, y1, e1, _⟩ := Paired.get2 R.r (List.getElem?_eq_getElem (List.idxOf_lt_length_of_mem hb))
  rw [List.getElem_idxOf] at e1
  exact ⟨x1, y1, e1⟩
theorem RwAt.fresh (R : RwAt K H h c ra bs q) {l : Addr} (hl : H l = none) : l ∉ ra :: bs := fun z => by
  rcases List.mem_cons.mp z with y | y
  · rw [y, R.e] at hl
    cases hl
  · obtain ⟨x1, y1, e1⟩ := R.mem y
    rw [e1] at hl
    cases hl
/-- [list(pair) for pair in paper], as far as it is done -/
def MkI (K : PySem.W.Frag) (H0 : Hp) (ra : Addr) (p : Pap) (i : Nat) (H' : Hp) : Prop := ∃ bs : List Addr, Same H0 H' ∧ H' ra = some (.lst (bs.map V.ref)) ∧ bs.Nodup ∧ ra ∉ bs ∧ (∀ b ∈ bs, H0 b = none) ∧ Paired (RwB K H') bs (p.take i)
theorem MkI.zero {p : Pap} (hra : H ra = none) : MkI K H ra p 0 (upd H ra (.lst [])) := ⟨[], Same.new hra, upd_same, .nil, (fun z => nomatch z), (fun _ z => nomatch z), .nil⟩
theorem MkI.same {p : Pap} {i : Nat} (M : MkI K H ra p i H') : Same H H' := let ⟨_, s, _⟩ := M; s
theorem MkI.turn {H8 : Hp} {p : Pap} {i j : Nat} {σ : L2.St} {x : V} {s : Wo × Wo} (M : MkI K H ra p i H8) (hra : H ra = none) (hpl : p.length ≤ 1000) (hs0 : p[i]? = some s) (hx : ShAt K H x s) (ej : σ[j]? = some (some x)) :
    tCB (Evl.rListS K) (tCons (tVar j) tNil) σ H8 fun y H4 => ∃ acc, H4 ra = some (.lst acc) ∧ acc.length < sizeLine ∧ MkI K H ra p (i + 1) (upd H4 ra (.lst (acc ++ [y]))) := by
  obtain ⟨bs, s8, e8, nd8, nr8, fr8, ps8⟩ := M
  obtain ⟨b', xx, yy, rfl, hb', hxx, hyy⟩ := hx.keep (Keep.same s8)
  have hbl := Paired.length ps8
  rw [List.length_take] at hbl
  refine ⟨_, ej, b', _, rfl, .inr hb'.sq, fun l hl => ⟨_, by rw [upd_ne (ne_of_none e8 hl)]; exact e8, sm _ (by rw [List.length_map]; omega), bs ++ [l], ?_⟩⟩
  have sl := Same.new (o := .lst [xx, yy]) hl
  have nrl := ne_of_none e8 hl
  have el : (upd H8 l (.lst [xx, yy])) l = some (.lst [xx, yy]) := upd_same
  have erl := sl _ _ e8
  have hl7 : H l = none := Same.free s8 hl
  have nlb : l ∉ bs := fun z => by
    obtain ⟨s1, _, x1, y1, e1, _⟩ := Paired.get2 ps8 (List.getElem?_eq_getElem (List.idxOf_lt_length_of_mem z))
    rw [List.getElem_idxOf, hl] at e1
    cases e1
  have s8l := s8.trans sl
  have k8 : Keep H8 (upd (upd H8 l (.lst [xx, yy])) ra (.lst (bs.map V.ref ++ [.ref l]))) := (Keep.same sl).trans (Keep.updL erl)
  revert sl el erl s8l k8
  generalize upd H8 l (.lst [xx, yy]) = H9
  intro sl el erl s8l k8
  refine ⟨Ov.Same.updn s8l hra, by rw [upd_same, List.map_append]; rfl, List.nodup_append.mpr ⟨nd8, List.pairwise_singleton _ _, fun a ha b hb z => nlb (by rw [← List.mem_singleton.mp hb, ← z]; exact ha)⟩, ?_, ?_, ?_⟩
  · intro z
    rcases List.mem_append.mp z with z | z
    · exact nr8 z
    · exact nrl (List.mem_singleton.mp z)
  · intro b hb
    rcases List.mem_append.mp hb with z | z
    · exact fr8 b z
    · rw [List.mem_singleton.mp z]; exact hl7
  · rw [List.take_add_one, hs0]
    refine paired_app (paired_mem ps8 fun b hb s ⟨x1, y1, e1, h1, h2⟩ => ⟨x1, y1, ?_, h1.keep k8, h2.keep k8⟩) (.cons ⟨xx, yy, ?_, hxx.keep k8, hyy.keep k8⟩ .nil)
    · rw [upd_ne (fun z => by rw [z] at hb; exact nr8 hb)]
      exact sl _ _ e1
    · rw [upd_ne nrl.symm]
      exact el
theorem MkI.done {H8 : Hp} {p : Pap} (M : MkI K H ra p p.length H8) (hK : ∀ {H H'}, Keep H H' → Kp H → Kp H') (hra : H ra = none) (d : Dr H h c) (k : Kp H) (ok : PapOk n p) : ∃ bs, RwS K Kp n h c ra bs H8 p ∧ ∀ b ∈ bs, H b = none := by
  obtain ⟨bs, s8, e8, nd8, nr8, fr8, ps8⟩ := M
  rw [List.take_length] at ps8
  exact ⟨bs, ⟨d.same s8, hK (Keep.same s8) k, ⟨e8, nd8, nr8, fun b hb => Dr.new d (by
    rcases List.mem_cons.mp hb with z | z
    · rw [z]; exact hra
    · exact fr8 b z), ps8⟩, ok⟩, fr8⟩
/-- tuple([tuple(pair) for pair in rows]), as far as it is done -/
def TkI (K : PySem.W.Frag) (H0 : Hp) (D : Addr) (q : Pap) (i : Nat) (H' : Hp) : Prop := ∃ vs : List V, Same H0 H' ∧ H' D = some (.lst vs) ∧ Paired (ShAt K H') vs (q.take i)
theorem TkI.zero {D : Addr} {q : Pap} (hD : H D = none) : TkI K H D q 0 (upd H D (.lst [])) := ⟨[], Same.new hD, upd_same, .nil⟩
theorem TkI.same {D : Addr} {i : Nat} (M : TkI K H D q i H') : Same H H' := let ⟨_, s, _⟩ := M; s
theorem TkI.turn {H8 : Hp} {D : Addr} {i j : Nat} {σ : L2.St} {x : V} (M : TkI K H D q i H8) (hD : H D = none) (R : RwAt K H h c ra bs q) (hql : q.length ≤ 1000) (hx : (bs.map V.ref)[i]? = some x) (ej : σ[j]? = some (some x)) :
    tCB (rTupS K) (tCons (tVar j) tNil) σ H8 fun y H4 => ∃ acc, H4 D = some (.lst acc) ∧ acc.length < sizeLine ∧ TkI K H D q (i + 1) (upd H4 D (.lst (acc ++ [y]))) := by
  obtain ⟨vs, s8, e8, ps8⟩ := M
  have hbl := Paired.length ps8
  rw [List.length_take] at hbl
  rw [List.getElem?_map] at hx
  obtain ⟨b, hb, rfl⟩ := Option.map_eq_some_iff.mp hx
  obtain ⟨s, hs, x1, y1, e1, h1, h2⟩ := Paired.get2 R.r hb
  have e8b := s8 _ _ e1
  refine ⟨_, ej, b, _, rfl, .inl ⟨SqL.of e8b, fun l hl => ⟨_, by rw [upd_ne (ne_of_none e8 hl)]; exact e8, sm _ (by omega), vs ++ [.ref l], ?_⟩⟩⟩
  have sl := Same.new (o := .tup [x1, y1]) hl
  have el : (upd H8 l (.tup [x1, y1])) l = some (.tup [x1, y1]) := upd_same
  have erl := sl _ _ e8
  have s8l := s8.trans sl
  have k8 : Keep H8 (upd (upd H8 l (.tup [x1, y1])) D (.lst (vs ++ [.ref l]))) := (Keep.same sl).trans (Keep.updL erl)
  have k9 := Keep.updL (ys := vs ++ [.ref l]) erl
  refine ⟨Ov.Same.updn s8l hD, upd_same, ?_⟩
  rw [List.take_add_one, hs]
  exact paired_app (L2.Paired.mapP ps8 fun _ _ z => z.keep k8) (.cons ⟨l, x1, y1, rfl, .inl (k9 _ _ el), (h1.keep (Keep.same s8)).keep k8, (h2.keep (Keep.same s8)).keep k8⟩ .nil)
theorem TkI.done {H8 : Hp} {D : Addr} {Q : VK} (M : TkI K H D q q.length H8) (hQ : ∀ H' f, Same H H' → PpAt K H' (.ref f) q → Q (.ref f) H') : rTupS K [.ref D] H8 Q := by
  obtain ⟨vs, s8, e8, ps8⟩ := M
  rw [List.take_length] at ps8
  refine ⟨D, vs, rfl, .inl ⟨SqL.of e8, fun f hf => hQ _ f (s8.trans (Same.new hf)) ⟨f, vs, rfl, .inl upd_same, L2.Paired.mapP ps8 fun _ _ z => z.keep (Keep.same (Same.new hf))⟩⟩⟩
end
end Ov
/-! ### what is no paper (k08, k23) -/
namespace Ov
open PySem PySem.Spec PyProof.Rows L2
def risesB (ns : List Int) : Bool := (ns.zip (ns.drop 1)).all fun p => decide (p.1 < p.2)
def wfB (n : Nat) (ns : List Int) : Bool := (ns.all fun z => decide (0 ≤ z ∧ z ≤ (n : Int) - 1)) && risesB ns
/-- what stands for worths, and whether it fits -/
inductive WvAt (K : PySem.W.Frag) (H : Hp) (n : Nat) : V → Bool → Prop
  | len {a : Addr} {xs : List V} : TupAt K H a xs → xs.length ≠ 2 → xs.length ≤ 900 → WvAt K H n (.ref a) false
  | num {a : Addr} {i : Int} {y : V} : TupAt K H a [.int i, y] → WvAt K H n (.ref a) false
  | wo {a q : Addr} {b : Bool} {ns : List Int} : TupAt K H a [.bl b, .ref q] → TupAt K H q (ns.map V.int) → ns.length ≤ 900 → WvAt K H n (.ref a) (wfB n ns)
inductive ShvAt (K : PySem.W.Frag) (H : Hp) (n : Nat) : V → Bool → Prop
  | len {a : Addr} {xs : List V} : TupAt K H a xs → xs.length ≠ 2 → xs.length ≤ 900 → ShvAt K H n (.ref a) false
  | two {a : Addr} {x y : V} {b c : Bool} : TupAt K H a [x, y] → WvAt K H n x b → WvAt K H n y c → ShvAt K H n (.ref a) (b && c)
def PvAt (K : PySem.W.Frag) (H : Hp) (n : Nat) (v : V) (b : Bool) : Prop := ∃ a vs bs, v = .ref a ∧ TupAt K H a vs ∧ Paired (ShvAt K H n) vs bs ∧ vs.length ≤ 900 ∧ b = (decide (vs.length = n) && bs.all id)
section
variable {K : PySem.W.Frag} {H H' : Hp} {n : Nat} {v : V} {b : Bool}
theorem WvAt.keep (k : Keep H H') (h : WvAt K H n v b) : WvAt K H' n v b := by
  cases h with
  | len h1 h2 h3 => exact .len (h1.keep k) h2 h3
  | num h1 => exact .num (h1.keep k)
  | wo h1 h2 h3 => exact .wo (h1.keep k) (h2.keep k) h3
theorem ShvAt.keep (k : Keep H H') (h : ShvAt K H n v b) : ShvAt K H' n v b := by
  cases h with
  | len h1 h2 h3 => exact .len (h1.keep k) h2 h3
  | two h1 h2 h3 => exact .two (h1.keep k) (h2.keep k) (h3.keep k)
theorem PvAt.keep (k : Keep H H') (h : PvAt K H n v b) : PvAt K H' n v b :=
  let ⟨a, vs, bs, e, h1, h2, h3⟩ := h
  ⟨a, vs, bs, e, h1.keep k, L2.Paired.mapP h2 fun _ _ z => z.keep k, h3⟩
theorem rises_ok : ∀ {l : List Nat}, l.Pairwise (· < ·) → risesB (l.map fun (k : Nat) => (k : Int)) = true
  | [], _ => rfl
  | [_], _ => rfl
  | a :: b :: l, h => by
    have q := List.pairwise_cons.mp h
    have ih := rises_ok q.2
    have h1 := q.1 b List.mem_cons_self
    unfold risesB at ih ⊢
    show (decide ((a : Int) < (b : Int)) && _) = true
    rw [decide_eq_true (by omega)]
    exact ih
theorem wfB_fits {a : Wo} (ok : WoOk n a) : wfB n (a.2.map fun (k : Nat) => (k : Int)) = true := by
  unfold wfB
  rw [rises_ok ok.up, Bool.and_true, List.all_eq_true]
  intro z hz
  obtain ⟨k, hk, rfl⟩ := List.mem_map.mp hz
  have := ok.lt k hk
  exact decide_eq_true ⟨by omega, by omega⟩
theorem WoAt.wv {a : Wo} (h : WoAt K H v a) (ok : WoOk n a) (n8 : n ≤ 8) : WvAt K H n v true := by
  obtain ⟨p, q, rfl, h1, h2⟩ := h
  have := ok.len n8
  have z := WvAt.wo (n := n) (ns := a.2.map fun (k : Nat) => (k : Int)) h1 (by rw [nV_map] at h2; exact h2) (by rw [List.length_map]; omega)
  rw [wfB_fits ok] at z
  exact z
theorem ShAt.shv {s : Wo × Wo} (h : ShAt K H v s) (ok : WoOk n s.1 ∧ WoOk n s.2) (n8 : n ≤ 8) : ShvAt K H n v true := by
  obtain ⟨p, x, y, rfl, h1, h2, h3⟩ := h
  exact .two (b := true) (c := true) h1 (h2.wv ok.1 n8) (h3.wv ok.2 n8)
theorem PpAt.shvs {p : Pap} {vs : List V} (h : Paired (ShAt K H) vs p) (ok : PapOk n p) (n8 : n ≤ 8) : Paired (ShvAt K H n) vs (List.replicate p.length true) :=
  paired_by (by rw [List.length_replicate]; exact Paired.length h) fun i x y h1 h2 => by
    obtain ⟨s, hs, r⟩ := Paired.get2 h h1
    rw [List.getElem?_replicate] at h2
    split at h2
    · cases h2
      exact r.shv (ok.ok s (List.mem_of_getElem? hs)) n8
    · cases h2
/-- what is said of a value by its kind: the tuples -/
theorem WvAt.ty (h : WvAt K H n v b) : ∃ a xs, v = .ref a ∧ TupAt K H a xs := by
  cases h with
  | len h1 h2 h3 => exact ⟨_, _, rfl, h1⟩
  | num h1 => exact ⟨_, _, rfl, h1⟩
  | wo h1 h2 h3 => exact ⟨_, _, rfl, h1⟩
end
def spRisesB (K : PySem.W.Frag) : Sp := fun vs H Q _ => ∃ (a : Addr) (ns : List Int), vs = [.ref a] ∧ TupAt K H a (ns.map V.int) ∧ ns.length ≤ 900 ∧ ∀ H', Same H H' → Q (.bl (risesB ns)) H'
def spWorthsFitB (K : PySem.W.Frag) : Sp := fun vs H Q _ => ∃ (v : V) (n : Nat) (b : Bool), vs = [v, .int (n : Int)] ∧ WvAt K H n v b ∧ ∀ H', Same H H' → Q (.bl b) H'
def spSheetFitsB (K : PySem.W.Frag) : Sp := fun vs H Q _ => ∃ (v : V) (n : Nat) (b : Bool), vs = [v, .int (n : Int)] ∧ ShvAt K H n v b ∧ ∀ H', Same H H' → Q (.bl b) H'
def spCheckPaperX (K : PySem.W.Frag) : Sp := fun vs H _ E => ∃ (v pz : V) (pr : List (Int × W)), vs = [v, pz] ∧ PrAt H v pr ∧ PrOk pr ∧ PvAt K H pr.length pz false ∧ OutC K "BadPaper" H E
def spHoldsX (K : PySem.W.Frag) : Sp := spCheckPaperX K
end Ov
namespace Ov
open PySem PySem.Spec PyProof.Rows L2
def spShortsX (K : PySem.W.Frag) : Sp := fun vs H _ E => ∃ (v t pz : V) (pr : List (Int × W)) (ps : List (List Nat)) (st : List Int), vs = [v, t, pz] ∧ preT H v t pr ps st ∧ PvAt K H pr.length pz false ∧ OutC K "BadPaper" H E
end Ov
namespace Ov
open PySem PySem.Spec PyProof.Rows L2
def spLawAny (K : PySem.W.Frag) : Sp := fun vs H Q _ => ∃ (h c : Addr) (n : Nat), vs = [.ref h, .int (n : Int)] ∧ Dr H h c ∧ n ≤ 8 ∧ ∀ H' v a, But h c H H' → Dr H' h c → WoAt K H' v a → WoOk n a → Q v H'
def spTurned (K : PySem.W.Frag) : Sp := fun vs H Q _ => ∃ (h c : Addr) (n : Nat) (pz : V) (p : Pap), vs = [.ref h, pz, .int (n : Int)] ∧ Dr H h c ∧ 1 ≤ n ∧ n ≤ 8 ∧ PpAt K H pz p ∧ PapOk n p ∧ ∀ H' v q, But h c H H' → Dr H' h c → PpAt K H' v q → PapOk n q → Q v H'
def spOdd (K : PySem.W.Frag) : Sp := fun vs H Q _ => ∃ (h c : Addr) (n : Nat) (pz : V) (p : Pap), vs = [.ref h, pz, .int (n : Int)] ∧ Dr H h c ∧ 1 ≤ n ∧ n ≤ 8 ∧ PpAt K H pz p ∧ PapOk n p ∧ ∀ H' v, But h c H H' → Dr H' h c → PvAt K H' n v false → Q v H'
end Ov
namespace Ov
open PySem PySem.Spec PyProof.Rows L2
theorem repTZ_by {K : PySem.W.Frag} {t : Addr} {r : Int} {x : V} {H : Hp} {Q : VK} (he : H t = some (.tup [x])) (h0 : 0 ≤ r) (h1 : r < 2) (q : ∀ H' p, Same H H' → TupAt K H' p (List.replicate r.toNat x) → Q (.ref p) H') : rRepTZ K (.ref t) (.int r) H Q := by
  rcases (by omega : r = 0 ∨ r = 1) with rfl | rfl
  · exact .inr ⟨t, _, rfl, rfl, SqT.of he, (fun z => nomatch z), fun p hp => q _ p (Same.new hp) (.inl upd_same)⟩
  · exact .inl (.inr ⟨t, _, rfl, rfl, SqT.of he, q H t (Same.refl H) (.inl he)⟩)
theorem andV_next {i : Nat} {a : Bool} {tb : TE} {σ : L2.St} {H : Hp} {Q : VK} {h c : Addr} (e : σ[i]? = some (some (.bl a))) (d : Dr H h c) (hb : ∀ Q' : VK, (∀ bb H', But h c H H' → Dr H' h c → Q' (.bl bb) H') → tb σ H Q')
    (q : ∀ bb H', But h c H H' → Dr H' h c → Q (.bl bb) H') : tAndV (tVar i) tb σ H Q := by
  refine ⟨_, e, a, rfl, ?_⟩
  cases a with
  | true => exact iteT (hb Q q)
  | false => exact iteF (q false H (But.refl H) d)
section
variable {K : PySem.W.Frag} {Kp : Hp → Prop} {n : Nat} {h c ra : Addr} {bs : List Addr} {H : Hp} {q : Pap}
theorem row_setS {ir ik k s : Nat} {TS : TE} {σ : L2.St} {v : V} {wo : Wo} {Q : L2.St → Hp → Prop} (S : RwS K Kp n h c ra bs H q) (hK : ∀ {H H'}, Keep H H' → Kp H → Kp H') (hs : s < 2) (er : σ[ir]? = some (some (.ref ra))) (ek : σ[ik]? = some (some (.int (k : Int))))
    (hTS : ∀ H Q, Q (.int (s : Int)) H → TS σ H Q) (hk : k < n) (hv : WoAt K H v wo) (ok : WoOk n wo) (hD : ∀ H' q', Keep H H' → (∀ b, b ∉ bs → ∀ o, H b = some o → H' b = some o) → RwS K Kp n h c ra bs H' q' → Q σ H') :
    gSub (tOp (rIxL K) (tVar ir) (tVar ik)) TS L2.rSetL v σ H Q := by
  obtain ⟨sx, hsx⟩ : ∃ sx, q[k]? = some sx := ⟨_, List.getElem?_eq_getElem (by rw [S.ok.len]; exact hk)⟩
  have oks := S.ok.ok sx (List.mem_of_getElem? hsx)
  obtain ⟨b, x, y, hb, hbr, hbm, eb, hx, hy⟩ := S.r.at hsx
  have nb : ∀ u, u ∉ bs → u ≠ b := fun u hu z => hu (z ▸ hbm)
  have fin : ∀ {x' y' : V} {s' : Wo × Wo}, WoAt K H x' s'.1 → WoAt K H y' s'.2 → WoOk n s'.1 ∧ WoOk n s'.2 → Q σ (upd H b (.lst [x', y'])) := fun {x' y' s'} h1 h2 h3 => by
    have st : ∀ u, u ∉ bs → ∀ o, H u = some o → upd H b (.lst [x', y']) u = some o := fun u hu o e => by rw [upd_ne (nb u hu)]; exact e
    have kp : Keep H (upd H b (.lst [x', y'])) := Keep.updL eb
    refine hD _ (q.set k s') kp st ⟨dr_upd S.r S.d hbm, hK kp S.k, S.r.put hb eb h1 h2, pap_set S.ok h3⟩
  refine ⟨_, er, _, ek, ra, _, _, _, rfl, rfl, SqL.of S.r.e, atI_nat hbr, hTS _ _ ?_⟩
  match s, hs with
  | 0, _ => exact ⟨b, [x, y], 0, 0, rfl, rfl, eb, rfl, fin (s' := (wo, sx.2)) hv hy ⟨ok, oks.2⟩⟩
  | 1, _ => exact ⟨b, [x, y], 1, 1, rfl, rfl, eb, rfl, fin (s' := (sx.1, wo)) hx hv ⟨oks.1, ok⟩⟩
end
end Ov
namespace Ov
open PySem PySem.Spec PyProof.Rows L2
section
variable {K : PySem.W.Frag} {H : Hp} {n : Nat} {v x y : V}
theorem wf_n : wfB n [(n : Int)] = false := by
  unfold wfB
  rw [List.all_cons, decide_eq_false (by omega)]
  rfl
theorem wf_00 : wfB n [0, 0] = false := by
  unfold wfB
  rw [show risesB [0, 0] = false by decide, Bool.and_false]
theorem wf_10 : wfB n [1, 0] = false := by
  unfold wfB
  rw [show risesB [1, 0] = false by decide, Bool.and_false]
theorem wf_m1 : wfB n [-1] = false := by
  unfold wfB
  rw [List.all_cons, decide_eq_false (by omega)]
  rfl
theorem shv_l {a : Addr} (h : H a = some (.tup [x, y])) (hx : WvAt K H n x false) (hy : WvAt K H n y true) : ShvAt K H n (.ref a) false := .two (.inl h) hx hy
theorem shv_r {a : Addr} (h : H a = some (.tup [x, y])) (hx : WvAt K H n x true) (hy : WvAt K H n y false) : ShvAt K H n (.ref a) false := .two (.inl h) hx hy
theorem wv_of {a q : Addr} {b : Bool} {ns : List Int} (h : H a = some (.tup [.bl b, .ref q])) (h2 : H q = some (.tup (ns.map V.int))) (hl : ns.length ≤ 900) (e : wfB n ns = false) : WvAt K H n (.ref a) false := by
  rw [← e]
  exact .wo (.inl h) (.inl h2) hl
end
end Ov
namespace Ov
open PySem PySem.Spec PyProof.Rows L2
section
variable {K : PySem.W.Frag} {σ : L2.St} {za : Addr} {n k : Nat} {p : Pap} {sx : Wo × Wo}
abbrev OP (K : PySem.W.Frag) (za : Addr) (p : Pap) : Hp → Prop := fun H => PpAt K H (.ref za) p
theorem cl_op : ClP (OP K za p) := fun _ _ s h => h.keep (Keep.same s)
theorem cl_wv {b : Bool} : ClV (fun H v => WvAt K H n v b) := fun _ _ _ s h => h.keep (Keep.same s)
theorem cl_shv {b : Bool} : ClV (fun H v => ShvAt K H n v b) := fun _ _ _ s h => h.keep (Keep.same s)
abbrev sideE (K : PySem.W.Frag) (j : Int) : TE := tOp (rIxT K) (tOp (rIxT K) (tVar 1) (tVar 3)) (tC (V.int j))
theorem ev_side {j : Nat} (hj : j < 2) (e1 : σ[1]? = some (some (.ref za))) (e3 : σ[3]? = some (some (.int (k : Int)))) (hsx : p[k]? = some sx) (ok : WoOk n sx.1 ∧ WoOk n sx.2) (n8 : n ≤ 8) : EvS σ (OP K za p) (sideE K j) (fun H v => WvAt K H n v true) := by
  refine ⟨fun H Q h q => ?_, cl_wv⟩
  obtain ⟨z, vz, e, hz, hzs⟩ := h
  cases e
  obtain ⟨u, hu, b, x, y, rfl, hb, hx, hy⟩ := Paired.got hzs hsx
  refine ⟨_, e1, _, e3, za, vz, _, _, rfl, rfl, hz.sq, atI_nat hu, b, _, _, _, rfl, rfl, hb.sq, atI_nat (j := j) (v := if j = 0 then x else y) ?_, q H _ (Same.refl H) ?_⟩
  · match j, hj with
    | 0, _ => rfl
    | 1, _ => rfl
  · match j, hj with
    | 0, _ => exact hx.wv ok.1 n8
    | 1, _ => exact hy.wv ok.2 n8
theorem tupA2 {H : Hp} {v : V} {A B : VP} (h : TupA [A, B] H v) : ∃ p x y, v = .ref p ∧ H p = some (.tup [x, y]) ∧ A H x ∧ B H y := by
  obtain ⟨p, vs, e, h, a⟩ := h
  cases a with
  | cons a r =>
    cases r with
    | cons b r =>
      cases r
      exact ⟨p, _, _, e, h, a, b⟩
theorem tupA1 {H : Hp} {v : V} {A : VP} (h : TupA [A] H v) : ∃ p x, v = .ref p ∧ H p = some (.tup [x]) ∧ A H x := by
  obtain ⟨p, vs, e, h, a⟩ := h
  cases a with
  | cons a r =>
    cases r
    exact ⟨p, _, e, h, a⟩
theorem tupA0 {H : Hp} {v : V} (h : TupA [] H v) : ∃ p, v = .ref p ∧ H p = some (.tup []) := by
  obtain ⟨p, vs, e, h, a⟩ := h
  cases a
  exact ⟨p, e, h⟩
/-- (b, (x,)) -/
theorem wv1 {H : Hp} {v : V} {b : Bool} {z : Int} (e : wfB n [z] = false) (h : TupA [fun _ x => x = V.bl b, TupA [fun _ x => x = V.int z]] H v) : WvAt K H n v false := by
  obtain ⟨p, x, y, rfl, h, rfl, hy⟩ := tupA2 h
  obtain ⟨q, u, rfl, h2, rfl⟩ := tupA1 hy
  exact wv_of (ns := [z]) h h2 (Nat.le_of_ble_eq_true rfl) e
theorem wv2 {H : Hp} {v : V} {b : Bool} {z u : Int} (e : wfB n [z, u] = false) (h : TupA [fun _ x => x = V.bl b, TupA [fun _ x => x = V.int z, fun _ x => x = V.int u]] H v) : WvAt K H n v false := by
  obtain ⟨p, x, y, rfl, h, rfl, hy⟩ := tupA2 h
  obtain ⟨q, u, u2, rfl, h2, rfl, rfl⟩ := tupA2 hy
  exact wv_of (ns := [_, _]) h h2 (Nat.le_of_ble_eq_true rfl) e
theorem sh_l {H : Hp} {v : V} (h : TupA [fun H v => WvAt K H n v false, fun H v => WvAt K H n v true] H v) : ShvAt K H n v false := by
  obtain ⟨p, x, y, rfl, h, hx, hy⟩ := tupA2 h
  exact shv_l h hx hy
theorem sh_r {H : Hp} {v : V} (h : TupA [fun H v => WvAt K H n v true, fun H v => WvAt K H n v false] H v) : ShvAt K H n v false := by
  obtain ⟨p, x, y, rfl, h, hx, hy⟩ := tupA2 h
  exact shv_r h hx hy
/-- the first four sheets, the other four -/
theorem ev_odd1 (e1 : σ[1]? = some (some (.ref za))) (e2 : σ[2]? = some (some (.int (n : Int)))) (e3 : σ[3]? = some (some (.int (k : Int)))) (hsx : p[k]? = some sx) (ok : WoOk n sx.1 ∧ WoOk n sx.2) (n8 : n ≤ 8) :
    EvA σ (OP K za p) (tCons (tTup (tCons (tTup (tCons (tC (V.bl true)) (tCons (tTup (tCons (tVar 2) tNil)) tNil))) (tCons (sideE K 1) tNil)))
      (tCons (tTup (tCons (sideE K 0) (tCons (tTup (tCons (tC (V.bl true)) (tCons (tTup (tCons (tC (V.int 0)) (tCons (tC (V.int 0)) tNil))) tNil))) tNil)))
      (tCons (tTup (tCons (tTup (tCons (tC (V.int 1)) (tCons (tTup tNil) tNil))) (tCons (sideE K 1) tNil)))
      (tCons (tSl (rSlA K) (tOp (rIxT K) (tVar 1) (tVar 3)) tNoPart (tPart (tC (V.int 1)))) tNil)))) (List.replicate 4 fun H v => ShvAt K H n v false) := by
  have s0 := ev_side (K := K) (j := 0) (n := n) (by decide) e1 e3 hsx ok n8
  have s1 := ev_side (K := K) (j := 1) (n := n) (by decide) e1 e3 hsx ok n8
  have c : ClP (OP K za p) := cl_op
  refine eva_cons c ((evs_tup (eva_cons c ((evs_tup (eva_cons c evs_c (eva_cons c (evs_tup (eva_cons c (evs_var e2) eva_nil)) eva_nil))).imp cl_wv (wv1 wf_n)) (eva_cons c s1 eva_nil))).imp cl_shv sh_l) ?_
  refine eva_cons c ((evs_tup (eva_cons c s0 (eva_cons c ((evs_tup (eva_cons c evs_c (eva_cons c (evs_tup (eva_cons c evs_c (eva_cons c evs_c eva_nil))) eva_nil))).imp cl_wv (wv2 wf_00)) eva_nil))).imp cl_shv sh_r) ?_
  refine eva_cons c ((evs_tup (eva_cons c ((evs_tup (eva_cons c evs_c (eva_cons c (evs_tup eva_nil) eva_nil))).imp cl_wv (fun {H v} h => ?_)) (eva_cons c s1 eva_nil))).imp cl_shv sh_l) ?_
  · obtain ⟨p, x, y, rfl, h, rfl, hy⟩ := tupA2 h
    exact .num (.inl h)
  refine eva_cons c ⟨fun H Q h q => ?_, cl_shv⟩ eva_nil
  obtain ⟨z, vz, e, hz, hzs⟩ := h
  cases e
  obtain ⟨u, hu, b, x, y, rfl, hb, hx, hy⟩ := Paired.got hzs hsx
  refine ⟨_, e1, _, e3, za, vz, _, _, rfl, rfl, hz.sq, atI_nat hu, ?_⟩
  refine ⟨1, rfl, slA_to (k := 1) hb (show 1 ≤ 2 by decide) fun H' p s h => q H' _ s (.len h (fun z => nomatch z) (Nat.le_of_ble_eq_true rfl))⟩
theorem ev_odd2 (e1 : σ[1]? = some (some (.ref za))) (e3 : σ[3]? = some (some (.int (k : Int)))) (hsx : p[k]? = some sx) (ok : WoOk n sx.1 ∧ WoOk n sx.2) (n8 : n ≤ 8) :
    EvA σ (OP K za p) (tCons (tTup (tCons (sideE K 0) (tCons (tTup (tCons (tC (V.bl true)) tNil)) tNil)))
      (tCons (tTup (tCons (sideE K 0) (tCons (tTup (tCons (tC (V.bl false)) (tCons (tTup (tCons (tUn (rU fun i => V.int (-i)) (tC (V.int 1))) tNil)) tNil))) tNil)))
      (tCons (tTup (tCons (tTup (tCons (tC (V.bl true)) (tCons (tTup (tCons (tC (V.int 1)) (tCons (tC (V.int 0)) tNil))) tNil))) (tCons (sideE K 1) tNil)))
      (tCons (tTup tNil) tNil)))) (List.replicate 4 fun H v => ShvAt K H n v false) := by
  have s0 := ev_side (K := K) (j := 0) (n := n) (by decide) e1 e3 hsx ok n8
  have s1 := ev_side (K := K) (j := 1) (n := n) (by decide) e1 e3 hsx ok n8
  have c : ClP (OP K za p) := cl_op
  refine eva_cons c ((evs_tup (eva_cons c s0 (eva_cons c ((evs_tup (eva_cons c evs_c eva_nil)).imp cl_wv (fun {H v} h => ?_)) eva_nil))).imp cl_shv sh_r) ?_
  · obtain ⟨p, x, rfl, h, rfl⟩ := tupA1 h
    exact .len (.inl h) (fun z => nomatch z) (Nat.le_of_ble_eq_true rfl)
  refine eva_cons c ((evs_tup (eva_cons c s0 (eva_cons c ((evs_tup (eva_cons c evs_c (eva_cons c (evs_tup (eva_cons c evs_neg eva_nil)) eva_nil))).imp cl_wv (wv1 wf_m1)) eva_nil))).imp cl_shv sh_r) ?_
  refine eva_cons c ((evs_tup (eva_cons c ((evs_tup (eva_cons c evs_c (eva_cons c (evs_tup (eva_cons c evs_c (eva_cons c evs_c eva_nil))) eva_nil))).imp cl_wv (wv2 wf_10)) (eva_cons c s1 eva_nil))).imp cl_shv sh_l) ?_
  refine eva_cons c ((evs_tup eva_nil).imp cl_shv (fun {H v} h => ?_)) eva_nil
  obtain ⟨p, e, h2⟩ := tupA0 h
  subst e
  exact .len (.inl h2) (fun z => nomatch z) (Nat.le_of_ble_eq_true rfl)
end
end Ov
namespace Ov
open PySem PySem.Spec PyProof.Rows L2
theorem alla_rep {H : Hp} {A : VP} : ∀ {m : Nat} {vs : List V}, AllA H vs (List.replicate m A) → vs.length = m ∧ ∀ v ∈ vs, A H v
  | 0, _, h => by
    cases h
    exact ⟨rfl, fun _ z => nomatch z⟩
  | m + 1, _, h => by
    cases h with
    | cons a r =>
      obtain ⟨h1, h2⟩ := alla_rep r
      exact ⟨congrArg Nat.succ h1, fun v hv => by
        rcases List.mem_cons.mp hv with e | e
        · rw [e]; exact a
        · exact h2 v e⟩
theorem all_set_false : ∀ {l : List Bool} {k : Nat}, k < l.length → (l.set k false).all id = false
  | [], _, h => absurd h (Nat.not_lt_zero _)
  | _ :: _, 0, _ => rfl
  | b :: l, k + 1, h => by
    rw [List.set_cons_succ, List.all_cons, all_set_false (Nat.lt_of_succ_lt_succ h), Bool.and_false]
section
variable {K : PySem.W.Frag} {σ : L2.St} {za : Addr} {n k : Nat} {p : Pap}
theorem cl_pv {b : Bool} : ClV (fun H v => PvAt K H n v b) := fun _ _ _ s h => h.keep (Keep.same s)
theorem shv_rep {H : Hp} {vs : List V} (hv : ∀ v ∈ vs, ShvAt K H n v true) : Paired (ShvAt K H n) vs (List.replicate vs.length true) :=
  paired_by (by rw [List.length_replicate]) fun i x y h1 h2 => by
    rw [List.getElem?_replicate] at h2
    split at h2
    · cases h2
      exact hv x (List.mem_of_getElem? h1)
    · cases h2
theorem pv_len {H : Hp} {a : Addr} {vs : List V} (h : TupAt K H a vs) (hv : ∀ v ∈ vs, ShvAt K H n v true) (hl : vs.length ≤ 900) (ne : vs.length ≠ n) : PvAt K H n (.ref a) false :=
  ⟨a, vs, List.replicate vs.length true, rfl, h, shv_rep hv, hl, by rw [decide_eq_false ne]; rfl⟩
theorem pv_set {H : Hp} {a : Addr} {vs : List V} {x : V} (h : TupAt K H a (vs.set k x)) (hv : ∀ v ∈ vs, ShvAt K H n v true) (hx : ShvAt K H n x false) (hn : vs.length = n) (n8 : n ≤ 8) (hk : k < n) : PvAt K H n (.ref a) false :=
  ⟨a, vs.set k x, (List.replicate vs.length true).set k false, rfl, h, Ov.paired_set (shv_rep hv) hx k, by rw [List.length_set]; omega, by rw [all_set_false (by rw [List.length_replicate]; omega), Bool.and_false]⟩
theorem shv_all {H : Hp} {vs : List V} (h : Paired (ShAt K H) vs p) (ok : PapOk n p) (n8 : n ≤ 8) : ∀ v ∈ vs, ShvAt K H n v true := fun v hv => by
  obtain ⟨i, e⟩ := List.getElem?_of_mem hv
  obtain ⟨s, hs, r⟩ := Paired.get2 h e
  exact r.shv (ok.ok s (List.mem_of_getElem? hs)) n8
theorem ev_odd3 (e1 : σ[1]? = some (some (.ref za))) (ok : PapOk n p) (n1 : 1 ≤ n) (n8 : n ≤ 8) :
    EvA σ (OP K za p) (tCons (tOp (rCatA K) (tVar 1) (tSl (rSlA K) (tVar 1) tNoPart (tPart (tC (V.int 1))))) (tCons (tSl (rSlA K) (tVar 1) (tPart (tC (V.int 1))) tNoPart) (tCons (tTup tNil) tNil))) (List.replicate 3 fun H v => PvAt K H n v false) := by
  have c : ClP (OP K za p) := cl_op
  refine eva_cons c ⟨fun H Q h q => ?_, cl_pv⟩ (eva_cons c ⟨fun H Q h q => ?_, cl_pv⟩ (eva_cons c ((evs_tup eva_nil).imp cl_pv fun {H v} h => ?_) eva_nil))
  · obtain ⟨z, vz, e, hz, hzs⟩ := h
    cases e
    have hl := Paired.length hzs
    rw [ok.len] at hl
    have sv := shv_all hzs ok n8
    refine ⟨_, e1, _, e1, 1, rfl, slA_to (k := 1) hz (by omega) fun H1 p1 s1 h1 => ?_⟩
    refine cat_by (hz.keep (Keep.same s1)) h1 (by rw [List.length_take]; omega) fun H2 p2 s2 h2 => ?_
    have k2 := Keep.same (s1.trans s2)
    refine q H2 _ (s1.trans s2) (pv_len h2 (fun v hv => ?_) (by rw [List.length_append, List.length_take]; omega) (by rw [List.length_append, List.length_take]; omega))
    rcases List.mem_append.mp hv with y | y
    · exact (sv v y).keep k2
    · exact (sv v (List.mem_of_mem_take y)).keep k2
  · obtain ⟨z, vz, e, hz, hzs⟩ := h
    cases e
    have hl := Paired.length hzs
    rw [ok.len] at hl
    have sv := shv_all hzs ok n8
    refine ⟨_, e1, 1, rfl, ?_⟩
    dsimp only [tNoPart]
    refine slA_from (k := 1) hz (by omega) fun H1 p1 s1 h1 => ?_
    exact q H1 _ s1 (pv_len h1 (fun v hv => (sv v (List.mem_of_mem_drop hv)).keep (Keep.same s1)) (by rw [List.length_drop]; omega) (by rw [List.length_drop]; omega))
  · obtain ⟨p, e, h2⟩ := tupA0 h
    subst e
    exact pv_len (.inl h2) (fun _ z => nomatch z) (Nat.le_of_ble_eq_true rfl) (by show 0 ≠ n; omega)
end
end Ov
/-! ### lambdas that are kept: made, called behind the def that made them -/
namespace Ov
open PySem PySem.Spec PyProof.Rows L2 LamX
/-- what a call without arguments binds -/
def LamB (fd : FuncData) : Option (Addr × Str) → Prop
  | none => bindArgs fd ⟨[], []⟩ = pure []
  | some (t, b) => ∃ kk, bindArgs fd ⟨[], []⟩ = seqItems? (.ref t) >>= kk ∧ ∀ u, kk (some #[u]) = pure [(b, u)]
/-- a lambda at f -/
def LamF (f : Addr) (q : Str) (body : Expr) (scope : Scope) (cl : List (Str × Addr)) (c' : Addr) (bd : Option (Addr × Str)) (h : Heap) : Prop :=
  ∃ fd : FuncData, h.get? f = some { cls := .type "function", data := .func fd } ∧ fd.scope = scope ∧ fd.body = .expr body ∧ fd.closure = cl ∧ fd.code = .ref c' ∧ fd.qualname = q ∧ fd.globals = mainGlobals ∧ fd.builtins = builtinsNs ∧ LamB fd bd
def LamO (f : Addr) (q : Str) (body : Expr) (scope : Scope) (cl : List (Str × Addr)) (c' : Addr) (bd : Option (Addr × Str)) : HO := .ext (LamF f q body scope cl c' bd)
theorem lamF_stay {f : Addr} {q : Str} {body : Expr} {scope : Scope} {cl : List (Str × Addr)} {c' : Addr} {bd : Option (Addr × Str)} (h1 h2 : Heap) (x : LamF f q body scope cl c' bd h1) (st : ∀ o, h1.get? f = some o → h2.get? f = some o) : LamF f q body scope cl c' bd h2 := by
  obtain ⟨fd, e, r⟩ := x
  exact ⟨fd, st _ e, r⟩
/-- a cell of a frame that is over, with v -/
def CellO (c : Addr) (v : V) : HO := .ext fun h => ∃ u, RelV v u ∧ h.IsCell c (some u)
theorem cell_stay {c : Addr} {v : V} (h1 h2 : Heap) (x : ∃ u, RelV v u ∧ h1.IsCell c (some u)) (st : ∀ o, h1.get? c = some o → h2.get? c = some o) : ∃ u, RelV v u ∧ h2.IsCell c (some u) := by
  obtain ⟨u, r, o, e, d⟩ := x
  exact ⟨u, r, o, st _ e, d⟩
section
variable {X : Cx} {pins : List (Addr × Obj)} {σ : L2.St} {H : Hp} {s : Shared} {T : List (Addr × Str)} {P c' : Addr} {ps : Array Value} {q : Str} {ob : Obj} {h' : Heap} {tk : Nat} {φ : Heap → Prop}
theorem mk_lay (I : Inv X pins σ H { s with heap := h', toks := tk }) (hφ : φ (h'.push ob)) (st : ∀ h1 h2 : Heap, φ h1 → (∀ o, h1.get? h'.objs.size = some o → h2.get? h'.objs.size = some o) → φ h2) (hb : ob.isFreed = false) :
    Inv X pins σ (upd H h'.objs.size (.ext φ)) { s with heap := h'.push ob, toks := tk } :=
  I.laid (t' := tk) (fun b u e => Heap.get?_push_of_some _ e) (Nat.le_refl _) ⟨hφ, ⟨ob, Heap.get?_push_size _ hb⟩, st⟩
/-- a new code object, a new function -/
theorem mk_new {pos : Pos} (I : Inv X pins σ H s) (hu : ∀ p ∈ T, p.1 = P → p.2 = q) (hT : Tabs T H) (hP : H P = some (.tbl ps)) (ht : TriplesOk ps.toList)
    (ha : ∀ (pos : Pos) (cv : Value), codeAmong pos ps.toList = some cv → ∃ c, cv = .ref c ∧ H c = some (CodeO c q)) (hx : Heap.ExtBut P s.heap h') (hge : s.heap.objs.size ≤ c')
    (hrec : h'.CodeRec (.ref c') q) (htb : h'.get? P = some (W.tabObj (ps ++ #[rawInt pos.line, rawInt pos.col, .ref c']))) (hφ : φ (h'.push ob)) (st : ∀ h1 h2 : Heap, φ h1 → (∀ o, h1.get? h'.objs.size = some o → h2.get? h'.objs.size = some o) → φ h2) (hb : ob.isFreed = false) :
    ∃ H1, Inv X pins σ (upd H1 h'.objs.size (.ext φ)) { s with heap := h'.push ob, toks := tk } ∧ ExtN H H1 ∧ Tabs T H1 ∧ H1 c' = some (CodeO c' q) ∧ H1 h'.objs.size = none := by
  obtain ⟨c2, oc, vs, t, e2, hoc, hd, hv⟩ := hrec
  cases e2
  have nC : H c' = none := HOk.fresh I.hok hge
  have I1 := inv_table (t' := tk) (q := q) (more := #[rawInt ↑pos.line, rawInt ↑pos.col, Value.ref c']) I hP (fun b o hb e => hx b o hb e) htb hge ⟨oc, vs, t, hoc, hd, hv⟩
  have hE : ExtN H (upd (upd H P (.tbl (ps ++ #[rawInt ↑pos.line, rawInt ↑pos.col, Value.ref c']))) c' (CodeO c' q)) := fun b o e n => by
    have b1 : b ≠ c' := ne_of_none e nC
    have b2 : b ≠ P := fun z => by
      rw [z, hP] at e
      exact n ps (Option.some.inj e).symm
    rw [upd_ne b1, upd_ne b2]
    exact e
  refine ⟨_, mk_lay I1 hφ st hb, hE, fun p hp => ?_, upd_same, HOk.fresh I1.hok (Nat.le_refl _)⟩
  have n2 : P ≠ c' := ne_of_none hP nC
  by_cases hb : p.1 = P
  · rw [hu p hp hb, hb]
    refine ⟨ps ++ #[rawInt ↑pos.line, rawInt ↑pos.col, Value.ref c'], by rw [upd_ne n2]; exact upd_same, by rw [Array.toList_append]; exact TriplesOk_snoc _ _ _ _ ht, fun p' cv hcv => ?_⟩
    rw [Array.toList_append] at hcv
    rcases among_app ps.toList ht hcv with z | z
    · obtain ⟨c0, e1, e2⟩ := ha p' cv z
      exact ⟨c0, e1, hE c0 _ e2 codeO_ne⟩
    · exact ⟨c', z, upd_same⟩
  · obtain ⟨ps', a1, a2, a3⟩ := hT p hp
    refine ⟨ps', by rw [upd_ne (ne_of_none a1 nC), upd_ne hb]; exact a1, a2, fun p' cv hcv => ?_⟩
    obtain ⟨c0, e1, e2⟩ := a3 p' cv hcv
    exact ⟨c0, e1, hE c0 _ e2 codeO_ne⟩
end
/-- lambda: body -/
def tLamP (T : List (Addr × Str)) (q : Str) (body : Expr) (scope : Scope) (cl : List (Str × Addr)) : TE := fun _ H Q => Tabs T H ∧ ∀ f c' H1, ExtN H H1 → Tabs T H1 → H1 c' = some (CodeO c' q) → H1 f = none → Q (.ref f) (upd H1 f (LamO f q body scope cl c' none))
/-- lambda b=n: body -/
def tLamQ (T : List (Addr × Str)) (q : Str) (body : Expr) (scope : Scope) (cl : List (Str × Addr)) (n : Int) (b : Str) : TE := fun _ H Q => Tabs T H ∧ ∀ f c' t H1, ExtN H H1 → Tabs T H1 → H1 c' = some (CodeO c' q) → H1 t = some (.tup [.int n]) → H1 f = none → Q (.ref f) (upd H1 f (LamO f q body scope cl c' (some (t, b))))
section
variable {X : Cx} {T : List (Addr × Str)} {c P : Addr} {params : Arguments} {body : Expr} {scope : Scope} {pos : Pos}
theorem pe_lamP (TB : TabB X.base X.mg c P) (hcode : X.env.code = .ref c) (hm : (P, X.env.qual ++ Str.ofString "<lambda>") ∈ T) (hu : ∀ p ∈ T, p.1 = P → p.2 = X.env.qual ++ Str.ofString "<lambda>") (hdef : defaultsOf params X.env = ([], []))
    (hfree : ∀ y ∈ scope.names, y.2 = .free → ∃ c, List.lookup y.1 X.env.cells = some c) (hbind : ∀ (q : Str) (cl : List (Str × Addr)) (pm cv ctv : Value), bindArgs (W.kla_fn "<lambda>" q params body scope cl pm cv ctv) ⟨[], []⟩ = pure []) :
    PE X (.Lambda params body scope pos) (tLamP T (X.env.qual ++ Str.ofString "<lambda>") body scope (cloFrom X.env.cells scope.names [])) := by
  refine ⟨fun pins s σ H Q I h => ?_⟩
  obtain ⟨hT, h⟩ := h
  obtain ⟨ps, hP, ht, ha⟩ := hT _ hm
  refine W.kla_eval hdef ?_
  have bP := Heap.BuiltinsAt.keeps TB.bm I.bk
  have hP' : s.heap.get? P = some (W.tabObj ps) := I.hok P (.tbl ps) hP
  have lf : ∀ (h' : Heap) (c' : Addr) (ctv pm : Value), LamF h'.objs.size (X.env.qual ++ Str.ofString "<lambda>") body scope (cloFrom X.env.cells scope.names []) c' none (h'.push (W.kla_obj "<lambda>" (X.env.qual ++ Str.ofString "<lambda>") params body scope (cloFrom X.env.cells scope.names []) pm c' ctv)) := fun h' c' ctv pm =>
    ⟨_, Heap.get?_push_size h' rfl, rfl, rfl, rfl, rfl, rfl, rfl, rfl, hbind _ _ _ _ _⟩
  cases hc : codeAmong pos ps.toList with
  | none =>
    refine W.kla_makeFunction (closure_ok hfree) I.ok.glob (I.mod.glob.keeps I.bk) hcode (TB.code.keeps I.bk) hP' ht hc TB.gP bP fun c' ctv h' tk hx hge hlt hrec htb => ?_
    obtain ⟨H1, I1, e1, t1, k1, n1⟩ := mk_new (tk := tk) I hu hT hP ht ha hx hge hrec htb (lf h' c' ctv ((X.mg (Str.ofString "__name__")).getD .none)) lamF_stay rfl
    exact ⟨.ref h'.objs.size, _, I1, rfl, h _ c' H1 e1 t1 k1 n1⟩
  | some cv =>
    obtain ⟨c', e, hco⟩ := ha pos cv hc
    subst e
    refine W.kla_makeFunctionHit (closure_ok hfree) I.ok.glob (I.mod.glob.keeps I.bk) hcode (TB.code.keeps I.bk) hP' ht hc bP fun ctv h' tk hx hsz => ?_
    have I1 := mk_lay (I.kept (t' := tk) hx) (lf h' c' ctv ((X.mg (Str.ofString "__name__")).getD .none)) lamF_stay rfl
    exact ⟨.ref h'.objs.size, _, I1, rfl, h _ c' H (ExtN.refl H) hT hco (HOk.fresh I.hok hsz)⟩
theorem pe_lamQ {j : Nat} {p1 : Pos} {n : Int} {b : Str} (TB : TabB X.base X.mg c P) (hcode : X.env.code = .ref c) (hm : (P, X.env.qual ++ Str.ofString "<lambda>") ∈ T) (hu : ∀ p ∈ T, p.1 = P → p.2 = X.env.qual ++ Str.ofString "<lambda>")
    (hdf : params.defaults = [.Constant (.int n) j p1]) (hkd : params.kw_defaults = []) (hfree : ∀ y ∈ scope.names, y.2 = .free → ∃ c, List.lookup y.1 X.env.cells = some c)
    (hbind : ∀ q cl t doc pm c' ctv, ∃ kk, bindArgs (W.kdv_fn "<lambda>" q params (.expr body) scope cl (.ref t) doc pm (.ref c') ctv) ⟨[], []⟩ = seqItems? (.ref t) >>= kk ∧ ∀ u, kk (some #[u]) = pure [(b, u)]) :
    PE X (.Lambda params body scope pos) (tLamQ T (X.env.qual ++ Str.ofString "<lambda>") body scope (cloFrom X.env.cells scope.names []) n b) := by
  refine ⟨fun pins s σ H Q I h => ?_⟩
  obtain ⟨hT0, h⟩ := h
  refine W.kdv_lam (by rw [hdf]; rfl) hkd ?_
  rw [hdf]
  refine W.kdv_all1 (thn ((pe_int (X := X) (i := n) (j := j) (pos := p1)).run pins s σ H (fun v H1 => v = .int n ∧ H1 = H) I ⟨rfl, rfl⟩) fun u s1 z => ?_)
  obtain ⟨v, H1, I1, ru, rfl, rfl⟩ := z
  refine W.kdv_all0 ?_
  rw [makeFunction_eq]
  simp only [List.zip_nil_right, List.filterMap_nil, List.isEmpty_nil, if_true, List.isEmpty_cons]
  rw [if_neg (by decide)]
  refine wpAny_bind (wpAny_newTextTuple ?_)
  simp only [pure_bind]
  have nT := HOk.fresh I1.hok (Nat.le_refl s1.heap.objs.size)
  have I2 : Inv X pins σ (upd H1 s1.heap.objs.size (.tup [.int n])) { heap := s1.heap.push { cls := .type "tuple", data := .seq [u].toArray }, gens := s1.gens, drawn := s1.drawn, toks := s1.toks, os := s1.os } :=
    I1.laid (fun b o e => Heap.get?_push_of_some _ e) (Nat.le_refl _) ⟨(by show 1 ≤ sizeLine; decide), [u], .cons ru .nil, _, Heap.get?_push_size _ rfl, rfl, 0, rfl⟩
  have ext : ∀ b o, H1 b = some o → (upd H1 s1.heap.objs.size (.tup [.int n])) b = some o := fun b o e => by
    rw [upd_ne (ne_of_none e nT)]
    exact e
  have hT := hT0.ext ext
  have eT : (upd H1 s1.heap.objs.size (.tup [.int n])) s1.heap.objs.size = some (.tup [.int n]) := upd_same
  have x0 := ExtN.of ext
  revert I2 hT eT x0
  generalize upd H1 s1.heap.objs.size (.tup [.int n]) = H2
  intro I2 hT eT x0
  obtain ⟨ps, hP, ht, ha⟩ := hT _ hm
  have bP := Heap.BuiltinsAt.keeps TB.bm I2.bk
  have hP' := I2.hok P (.tbl ps) hP
  have lf : ∀ (h' : Heap) (c' : Addr) (ctv pm doc : Value), LamF h'.objs.size (X.env.qual ++ Str.ofString "<lambda>") body scope (cloFrom X.env.cells scope.names []) c' (some (s1.heap.objs.size, b)) (h'.push (W.kdv_obj "<lambda>" (X.env.qual ++ Str.ofString "<lambda>") params (.expr body) scope (cloFrom X.env.cells scope.names []) (.ref s1.heap.objs.size) doc pm c' ctv)) := fun h' c' ctv pm doc =>
    ⟨_, Heap.get?_push_size h' rfl, rfl, rfl, rfl, rfl, rfl, rfl, rfl, hbind _ _ _ _ _ _ _⟩
  cases hc : codeAmong pos ps.toList with
  | none =>
    refine W.kdv_makeTail (closure_ok hfree) I2.ok.glob (I2.mod.glob.keeps I2.bk) hcode (TB.code.keeps I2.bk) hP' ht hc TB.gP bP fun c' ctv doc h' tk hx hge hlt hrec htb => ?_
    obtain ⟨H3, I3, e3, t3, k3, n3⟩ := mk_new (tk := tk) I2 hu hT hP ht ha hx hge hrec htb (lf h' c' ctv ((X.mg (Str.ofString "__name__")).getD .none) doc) lamF_stay rfl
    exact ⟨.ref h'.objs.size, _, I3, rfl, h _ c' _ H3 (x0.trans e3) t3 k3 (e3 _ _ eT (fun ps z => by cases z)) n3⟩
  | some cv =>
    obtain ⟨c', e, hco⟩ := ha pos cv hc
    subst e
    refine W.kdv_makeTailHit (closure_ok hfree) I2.ok.glob (I2.mod.glob.keeps I2.bk) hcode (TB.code.keeps I2.bk) hP' ht hc bP fun ctv doc h' tk hx hsz => ?_
    have I3 := mk_lay (I2.kept (t' := tk) hx) (lf h' c' ctv ((X.mg (Str.ofString "__name__")).getD .none) doc) lamF_stay rfl
    exact ⟨.ref h'.objs.size, _, I3, rfl, h _ c' _ H2 x0 hT hco eT (HOk.fresh I2.hok hsz)⟩
end
end Ov
/-! ### a def whose cells live on in the lambdas that it hands back -/
namespace Ov
open PySem PySem.Spec PyProof.Rows L2 LamX
/-- statements that end by a return, the slots then told -/
structure PSR (X : Cx) (bs : List Stmt) (t : (V → L2.St → Hp → Prop) → L2.St → Hp → Prop) : Prop where
  run : ∀ (pins : List (Addr × Obj)) (s : Shared) (σ : L2.St) (H : Hp) (R : V → L2.St → Hp → Prop), Inv X pins σ H s → t R σ H →
    wpAny (model X.prog X.w) X.A (execs bs X.env) (fun fl s' => ∃ u v σ' H', fl = .ret u ∧ Inv X pins σ' H' s' ∧ RelV v u ∧ R v σ' H') X.xe s
theorem psr_ret {X : Cx} {e : Expr} {te : TE} {pos : Pos} (he : PE X e te) : PSR X [.Return (some e) pos] (fun R σ H => te σ H fun v H' => R v σ H') := by
  refine ⟨fun pins s σ H R I h => wpAny_execs_cons ?_⟩
  exact wpAny_Return_some (thn (he.run pins s σ H _ I h) fun u s1 ⟨v, H1, I1, r1, q1⟩ => ⟨u, v, σ, H1, rfl, I1, r1, q1⟩)
theorem psr_cons {X : Cx} {b : Stmt} {bs : List Stmt} {tb : TS} {t : (V → L2.St → Hp → Prop) → L2.St → Hp → Prop} (hb : PS X b tb) (hs : PSR X bs t) :
    PSR X (b :: bs) (fun R σ H => tb { nx := t R, rt := fun _ _ => False, bk := fun _ _ => False, ct := fun _ _ => False } σ H) := by
  refine ⟨fun pins s σ H R I h => wpAny_execs_cons (thn (hb.run pins s σ H _ I h) fun f s1 q => ?_)⟩
  cases f with
  | next =>
    obtain ⟨σ', H', I', q⟩ := q
    exact hs.run pins s1 σ' H' R I' q
  | ret v =>
    obtain ⟨_, _, _, _, _, q⟩ := q
    exact q.elim
  | brk =>
    obtain ⟨_, _, _, q⟩ := q
    exact q.elim
  | cont =>
    obtain ⟨_, _, _, q⟩ := q
    exact q.elim
/-- the cells cs put in -/
def putC (H : Hp) (cs : List (Addr × V)) : Hp := fun b => match cs.lookup b with
  | some v => some (CellO b v)
  | none => H b
theorem putC_none {H : Hp} {cs : List (Addr × V)} {b : Addr} (h : cs.lookup b = none) : putC H cs b = H b := by unfold putC; rw [h]
theorem putC_some {H : Hp} {cs : List (Addr × V)} {b : Addr} {v : V} (h : cs.lookup b = some v) : putC H cs b = some (CellO b v) := by unfold putC; rw [h]
/-- what is known when such a def ends: the cells, with what they hold -/
def RQ (N : List Str) (scope : Scope) (cells : List (Str × Addr)) (Q : VK) : V → L2.St → Hp → Prop := fun v σ' H' => ∃ cs : List (Addr × V),
  (∀ b u, cs.lookup b = some u → ∃ (i : Nat) (y : Str), N[i]? = some y ∧ List.lookup y scope.names = some .cell ∧ List.lookup y cells = some b ∧ σ'[i]? = some (some u)) ∧ ((∀ b o, H' b = some o → cs.lookup b = none) → Q v (putC H' cs))
theorem fn_ofR {CX : CXT} {P : Program} {w : World} {K : PySem.W.Frag} {mg : Str → Option Value} {base : Heap} {k : Nat} {f : Addr} {name qual : Str} {params : Arguments} {body : List Stmt} {scope : Scope} {dV kV doc pm cdv ct oc : Value} {an od : Option Addr}
    {osl : Array (Option Value)} {N ps : List Str} {sp : Sp} (lk : K.lookup f = some ⟨oc, od, .func (PySem.W.fnOf name qual params body scope dV kV doc pm an cdv ct), osl⟩) (hcd : PySem.W.codeIn K cdv qual = true) (S : FnScope N ps scope) (len : ∀ vs H Q E, sp vs H Q E → vs.length = ps.length)
    (hbody : ∀ (A : Around) (outer : List Env) (s : Shared) (H : Hp) (vs : List V) (Q : VK) (E : XK), Room k (A.deeper (PyProof.Rows.envOfC qual scope s.heap.objs.size f cdv)) → sp vs H Q E →
      ∃ t, PSR (cxOf CX P w K mg base N qual scope f cdv A outer s H E) body t ∧ t (RQ N scope (cellsFrom (s.heap.objs.size + 1) scope.names []) Q) (L2.start N vs) H) :
    FnOk P w K mg base CX (k + 1) f (PySem.W.fnOf name qual params body scope dV kV doc pm an cdv ct) ps sp := by
  refine ⟨len, fun A outer s H args us vs Q E hr e0 hb r hsp => ?_⟩
  have hl := len _ _ _ _ hsp
  have KX : K.In s.heap := e0.mod.kin.keeps fun b o e => (e0.bs b o e).1
  have lim : s.heap.NoLimit := e0.mod.nolimit.keeps fun b o e => (e0.bs b o e).1
  have hkind : ∀ y ∈ ps.zip us, List.lookup y.1 scope.names = some .local ∨ (List.lookup y.1 scope.names = some .cell ∧ (List.lookup y.1 (cellsFrom (s.heap.objs.size + 1) scope.names [])).isSome = true) := fun y hy => by
    obtain ⟨n, v⟩ := y
    rcases S.par n (List.of_mem_zip hy).1 with q | q
    · exact .inl q
    · exact .inr ⟨q, PySem.W.cellsFrom_some _ _ _ (.inl q)⟩
  refine codeAny_call_function hr.depth (KX _ _ lk) rfl S.co S.gen rfl (PySem.W.codeRec_of KX hcd) (hb _ _ _ _ ?_)
  refine wpAny_newFunctionEnv_cells S.kind hkind fun env he s1 x => ?_
  subst he
  refine ⟨lim.keeps x.toInCall.keep, codeAny_func ?_⟩
  obtain ⟨t, ht, hq⟩ := hbody A outer s H vs Q E (hr.deeper _) hsp
  have I := inv_start (CX := CX) (E := E) S hr.hd e0 hl r x
  refine wpAny_mono (ht.run [] s1 (L2.start N vs) H _ I hq) (fun fl s' hs => ?_) fun e s' hs => hs
  obtain ⟨u, v, σ', H', rfl, J, rv, cs, hcs, q⟩ := hs
  have ne : ∀ b o, H' b = some o → cs.lookup b = none := fun b o e => by
    cases z : cs.lookup b with
    | none => rfl
    | some u =>
      obtain ⟨i, y, _, _, h3, _⟩ := hcs b u z
      rw [J.freeC y b h3] at e
      cases e
  have q := q ne
  have old : ∀ b o, s.heap.get? b = some o → cs.lookup b = none := fun b o e => by
    cases z : cs.lookup b with
    | none => rfl
    | some u =>
      obtain ⟨i, y, _, _, h3, _⟩ := hcs b u z
      have := J.ok.cab y b rfl h3
      exact absurd (Nat.lt_of_lt_of_le (Heap.lt_size e) this) (Nat.lt_irrefl _)
  have B := J.base
  refine ⟨v, putC H' cs, J.os, J.bare, ⟨B.keep, B.slot, fun b o e n hx => ?_, B.there, fun b xs e => ?_, fun b o u e => ?_, fun b ps e => ?_⟩, fun b o e => ?_, rv, q⟩
  · rw [putC_none (old b o e)]
    exact B.free b o e n hx
  · have z := B.tups b xs e
    rw [putC_none (ne _ _ z)]
    exact z
  · have z := B.frzs b o u e
    rw [putC_none (ne _ _ z)]
    exact z
  · obtain ⟨more, z⟩ := B.tbls b ps e
    exact ⟨more, by rw [putC_none (ne _ _ z)]; exact z⟩
  · cases z : cs.lookup b with
    | none =>
      rw [putC_none z] at e
      exact (J.hok b o e).stay (fun c u _ h => h) (fun c h => by rw [putC_none (ne _ _ h)]; exact h) fun c xs h => by rw [putC_none (ne _ _ h)]; exact h
    | some u =>
      rw [putC_some z] at e
      cases e
      obtain ⟨i, y, h1, h2, h3, h4⟩ := hcs b u z
      obtain ⟨m, _, hl'⟩ := J.loc
      obtain ⟨w', rw', lk'⟩ := hl' i y u h1 h4 (.inr (.inl h2))
      have kind : (PyProof.Rows.envOfC qual scope s.heap.objs.size f cdv).kindOf y = some .cell := h2
      rcases lk' with ⟨k', _⟩ | ⟨_, c2, e2, hc2⟩
      · have k'' : List.lookup y scope.names = some .local := k'
        rw [h2] at k''
        cases k''
      · rw [show List.lookup y (cellsFrom (s.heap.objs.size + 1) scope.names []) = some c2 from e2] at h3
        cases h3
        obtain ⟨o, ho, hd⟩ := id hc2
        exact ⟨⟨w', rw', hc2⟩, ⟨o, ho⟩, cell_stay⟩
end Ov
/-! ### a kept lambda is called -/
namespace Ov
open PySem PySem.Spec PyProof.Rows L2 LamX
/-- a kept lambda: what it captured stands in cells of a frame that is over -/
structure KL where
  q : Str
  body : Expr
  scope : Scope
  cs : List (Str × Addr × V)
  c' : Addr
  bd : Option (Addr × Str)
  n : Int
abbrev KL.cl (L : KL) : List (Str × Addr) := L.cs.map fun x => (x.1, x.2.1)
abbrev KL.as (L : KL) : List Addr := L.cs.map fun x => x.2.1
abbrev KL.N (L : KL) : List Str := L.cs.map fun x => x.1
abbrev KL.σ (L : KL) : L2.St := L.cs.map fun x => some x.2.2
structure KLAt (L : KL) (f : Addr) (H : Hp) : Prop where
  f : H f = some (LamO f L.q L.body L.scope L.cl L.c' L.bd)
  c : H L.c' = some (CodeO L.c' L.q)
  t : ∀ t b, L.bd = some (t, b) → H t = some (.tup [.int L.n])
  cs : ∀ x ∈ L.cs, H x.2.1 = some (CellO x.2.1 x.2.2)
  nd : L.as.Nodup
theorem KLAt.ext {L : KL} {f : Addr} {H H' : Hp} (h : KLAt L f H) (e : ExtN H H') : KLAt L f H' :=
  ⟨e _ _ h.f (fun ps z => by unfold LamO at z; cases z), e _ _ h.c codeO_ne, fun t b z => e _ _ (h.t t b z) (fun ps y => by cases y), fun x hx => e _ _ (h.cs x hx) (fun ps z => by unfold CellO at z; cases z), h.nd⟩
/-- the scope of such a lambda: names that are captured, its parameter -/
structure LamSE (scope : Scope) (N : List Str) (b : Option Str) : Prop where
  kind : scope.kind = .function
  co : scope.isCoroutine = false
  gen : scope.isGenerator = false
  own : ∀ y ∈ scope.names, y.2 ≠ .cell ∧ (y.2 = .free → y.1 ∈ N)
  par : ∀ x, b = some x → List.lookup x scope.names = some .local
  fr : ∀ x ∈ N, List.lookup x scope.names = some .free
  nd : N.Nodup
def lamSEB (scope : Scope) (N : List Str) (b : Option Str) : Bool :=
  decide (scope.kind = .function) && !scope.isCoroutine && !scope.isGenerator && (scope.names.all fun y => !decide (y.2 = .cell) && (!decide (y.2 = .free) || decide (y.1 ∈ N))) && (match b with | none => true | some x => decide (List.lookup x scope.names = some .local)) &&
    (N.all fun x => decide (List.lookup x scope.names = some .free)) && decide N.Nodup
theorem lamSE_by {scope : Scope} {N : List Str} {b : Option Str} (h : lamSEB scope N b = true) : LamSE scope N b := by
  unfold lamSEB at h
  simp only [Bool.and_eq_true, Bool.or_eq_true, Bool.not_eq_true', decide_eq_true_eq, decide_eq_false_iff_not, List.all_eq_true] at h
  obtain ⟨⟨⟨⟨⟨⟨h1, h2⟩, h3⟩, h4⟩, h5⟩, h6⟩, h7⟩ := h
  refine ⟨h1, h2, h3, fun y hy => ⟨(h4 y hy).1, fun e => ?_⟩, fun x e => ?_, h6, h7⟩
  · rcases (h4 y hy).2 with z | z
    · exact absurd e z
    · exact z
  · subst e
    simpa using h5
def remC (H : Hp) (as : List Addr) : Hp := fun b => if b ∈ as then none else H b
def putL (H' H : Hp) (as : List Addr) : Hp := fun b => if b ∈ as then H b else H' b
theorem remC_in {H : Hp} {as : List Addr} {b : Addr} (h : b ∈ as) : remC H as b = none := by unfold remC; rw [if_pos h]
theorem remC_out {H : Hp} {as : List Addr} {b : Addr} (h : b ∉ as) : remC H as b = H b := by unfold remC; rw [if_neg h]
theorem putL_in {H' H : Hp} {as : List Addr} {b : Addr} (h : b ∈ as) : putL H' H as b = H b := by unfold putL; rw [if_pos h]
theorem putL_out {H' H : Hp} {as : List Addr} {b : Addr} (h : b ∉ as) : putL H' H as b = H' b := by unfold putL; rw [if_neg h]
section
variable {P : Program} {w : World} {H H' : Hp} {h h' : Heap} {as : List Addr}
/-- what stands at the cells -/
def AreC (H : Hp) (as : List Addr) : Prop := ∀ a ∈ as, ∃ v, H a = some (CellO a v)
theorem AreC.out (c : AreC H as) {b : Addr} {o : HO} (e : H b = some o) (n : ∀ v, o ≠ CellO b v) : b ∉ as := fun z => by
  obtain ⟨v, hv⟩ := c b z
  rw [e] at hv
  exact n v (Option.some.inj hv)
theorem AreC.none (c : AreC H as) {b : Addr} (e : H b = Option.none) : b ∉ as := fun z => by
  obtain ⟨v, hv⟩ := c b z
  rw [e] at hv
  cases hv
theorem hok_rem (c : AreC H as) (x : HOk P w H h) : HOk P w (remC H as) h := fun b o e => by
  by_cases hb : b ∈ as
  · rw [remC_in hb] at e
    cases e
  · rw [remC_out hb] at e
    refine (x b o e).stay (fun _ _ _ q => q) (fun d q => ?_) fun d xs q => ?_
    · rw [remC_out (c.out q fun v z => by unfold CellO at z; cases z)]
      exact q
    · rw [remC_out (c.out q fun v z => by unfold CellO at z; cases z)]
      exact q
theorem hok_put (c : AreC H as) (x : HOk P w H h) (x' : HOk P w H' h') (n : ∀ a ∈ as, H' a = Option.none) (k : ∀ a ∈ as, ∀ o, h.get? a = some o → h'.get? a = some o) : HOk P w (putL H' H as) h' := fun b o e => by
  have ne : ∀ d o, H' d = some o → d ∉ as := fun d o q z => by rw [n d z] at q; cases q
  by_cases hb : b ∈ as
  · rw [putL_in hb] at e
    obtain ⟨v, hv⟩ := c b hb
    rw [hv] at e
    cases e
    obtain ⟨h1, ⟨o, h2⟩, h3⟩ := x b _ hv
    exact ⟨h3 h h' h1 (k b hb), ⟨o, k b hb o h2⟩, h3⟩
  · rw [putL_out hb] at e
    exact (x' b o e).stay (fun _ _ _ q => q) (fun d q => by rw [putL_out (ne _ _ q)]; exact q) fun d xs q => by rw [putL_out (ne _ _ q)]; exact q
theorem un_put {fs : List Addr} (c : AreC H as) (u : Un fs [] (remC H as) H' h h') : Un fs [] H (putL H' H as) h h' where
  keep := fun b o e n hf hx => u.keep b o e (by rw [remC_out (c.none n)]; exact n) hf hx
  slot := fun b o e n hf hx => u.slot b o e (by rw [remC_out (c.none n)]; exact n) hf hx
  free := fun b o e n hx => by
    rw [putL_out (c.none n)]
    exact u.free b o e (by rw [remC_out (c.none n)]; exact n) hx
  there := u.there
  tups := fun b xs e => by
    have nb := c.out e fun v z => by unfold CellO at z; cases z
    rw [putL_out nb]
    exact u.tups b xs (by rw [remC_out nb]; exact e)
  frzs := fun b o x e => by
    have nb := c.out e fun v z => by unfold CellO at z; cases z
    rw [putL_out nb]
    exact u.frzs b o x (by rw [remC_out nb]; exact e)
  tbls := fun b ps e => by
    have nb := c.out e fun v z => by unfold CellO at z; cases z
    obtain ⟨more, z⟩ := u.tbls b ps (by rw [remC_out nb]; exact e)
    exact ⟨more, by rw [putL_out nb]; exact z⟩
theorem cell_obj (c : AreC H as) (x : HOk P w H h) {a : Addr} (ha : a ∈ as) : ∃ o, h.get? a = some o := by
  obtain ⟨v, hv⟩ := c a ha
  exact (x a _ hv).2.1
theorem cx_put {outer : List Env} {s s' : Shared} {E : XK} {u : Value} (c : AreC H as) (x : HOk P w H s.heap) (nf : ∀ a ∈ as, a ∉ frs outer) (h : L2.CX P w outer (remC H as) s (fun cls d H' => E cls d (putL H' H as)) u s') : L2.CX P w outer H s E u s' := by
  obtain ⟨a, B, H', cls, d, rfl, fl, hok, ub, na, os, ag, hE⟩ := h
  have kp : ∀ b ∈ as, ∀ o, s.heap.get? b = some o → B.get? b = some o := fun b hb o e => ub.keep b o e (remC_in hb) (nf b hb)
  have nn : ∀ b ∈ as, H' b = Option.none := fun b hb => by
    obtain ⟨o, e⟩ := cell_obj c x hb
    exact ub.free b o e (remC_in hb)
  have nae : a ∉ as := fun z => by
    obtain ⟨o, e⟩ := cell_obj c x z
    have := kp a z o e
    rw [fl.2.1] at this
    cases this
  refine ⟨a, B, putL H' H as, cls, d, rfl, fl, hok_put c x hok nn kp, ⟨fun b o e n hf => ?_, ub.slot, fun b o e n => ?_, ub.there, fun b xs e => ?_, fun b o xs e => ?_, fun b ps e => ?_⟩, by rw [putL_out nae]; exact na, os, ag, hE⟩
  · exact ub.keep b o e (by rw [remC_out (c.none n)]; exact n) hf
  · rw [putL_out (c.none n)]
    exact ub.free b o e (by rw [remC_out (c.none n)]; exact n)
  · have nb := c.out e fun v z => by unfold CellO at z; cases z
    rw [putL_out nb]
    exact ub.tups b xs (by rw [remC_out nb]; exact e)
  · have nb := c.out e fun v z => by unfold CellO at z; cases z
    rw [putL_out nb]
    exact ub.frzs b o xs (by rw [remC_out nb]; exact e)
  · have nb := c.out e fun v z => by unfold CellO at z; cases z
    obtain ⟨more, z⟩ := ub.tbls b ps (by rw [remC_out nb]; exact e)
    exact ⟨more, by rw [putL_out nb]; exact z⟩
theorem env0_rem {K : PySem.W.Frag} {mg : Str → Option Value} {base : Heap} {A : Around} {outer : List Env} {s : Shared} (c : AreC H as) (e : Env0 P w K mg base A outer s H) : Env0 P w K mg base A outer s (remC H as) :=
  ⟨e.frames, e.mod, fun b o q => ⟨(e.bs b o q).1, by rw [remC_out (c.none (e.bs b o q).2)]; exact (e.bs b o q).2⟩, e.bsz, e.funs, fun b hb => by rw [remC_out (c.none (e.frf b hb))]; exact e.frf b hb, hok_rem c e.hok, e.bare⟩
end
abbrev lamEnvE (L : KL) (a f : Addr) : Env := PySem.W.envX L.q L.scope a f (.ref L.c') L.cl
/-- the context of its body -/
def lamCxE (P : Program) (w : World) (K : PySem.W.Frag) (mg : Str → Option Value) (base : Heap) (A : Around) (outer : List Env) (s : Shared) (H : Hp) (E : XK) (L : KL) (f : Addr) : Cx where
  prog := P
  w := w
  K := K
  mg := mg
  base := base
  A := A.deeper (lamEnvE L s.heap.objs.size f)
  N := L.N
  s_0 := s
  H_0 := H
  env := lamEnvE L s.heap.objs.size f
  outer := outer
  stack := lamEnvE L s.heap.objs.size f :: outer
  ex := []
  fn := fun _ => false
  calm := true
  pn := []
  xe := fun e s' => wpAny (model P w) (A.deeper (lamEnvE L s.heap.objs.size f)) (leaving (lamEnvE L s.heap.objs.size f) e) (fun _ s'' => L2.CX P w outer H s E e s'') (fun e' s'' => L2.CX P w outer H s E e' s'') s'
theorem look_nodup : ∀ {cs : List (Str × Addr × V)} {x : Str × Addr × V}, (cs.map fun x => x.1).Nodup → x ∈ cs → List.lookup x.1 (cs.map fun x => (x.1, x.2.1)) = some x.2.1
  | [], _, _, h => nomatch h
  | y :: cs, x, nd, h => by
    have q := List.pairwise_cons.mp nd
    rw [List.map_cons, List.lookup_cons]
    rcases List.mem_cons.mp h with e | e
    · rw [e, beq_self_eq_true]
    · have n : y.1 ≠ x.1 := q.1 x.1 (List.mem_map.mpr ⟨x, e, rfl⟩)
      rw [beq_eq_false_iff_ne.mpr (Ne.symm n)]
      exact look_nodup q.2 e
theorem mem_cl {cs : List (Str × Addr × V)} {y : Str} {c : Addr} (h : List.lookup y (cs.map fun x => (x.1, x.2.1)) = some c) : ∃ x ∈ cs, x.1 = y ∧ x.2.1 = c := by
  obtain ⟨x, hx, e⟩ := List.mem_map.mp (mem_of_lookup h)
  exact ⟨x, hx, congrArg Prod.fst e, congrArg Prod.snd e⟩
theorem one_at_nodup {cs : List (Str × Addr × V)} (nd : (cs.map fun x => x.2.1).Nodup) {x y : Str × Addr × V} (hx : x ∈ cs) (hy : y ∈ cs) (e : x.2.1 = y.2.1) : x = y := by
  induction cs with
  | nil => cases hx
  | cons z cs ih =>
    have q := List.pairwise_cons.mp nd
    rcases List.mem_cons.mp hx with e1 | e1
    · rcases List.mem_cons.mp hy with e2 | e2
      · rw [e1, e2]
      · exact absurd (by rw [← e1]; exact e) (q.1 y.2.1 (List.mem_map.mpr ⟨y, e2, rfl⟩))
    · rcases List.mem_cons.mp hy with e2 | e2
      · exact absurd (by rw [← e2]; exact e.symm) (q.1 x.2.1 (List.mem_map.mpr ⟨x, e1, rfl⟩))
      · exact ih q.2 e1 e2
theorem lam_startE {P : Program} {w : World} {K : PySem.W.Frag} {mg : Str → Option Value} {base : Heap} {A : Around} {outer : List Env} {s : Shared} {H : Hp} {E : XK} {L : KL} {f : Addr} {h₁ : Heap} {tk : Nat} {m : Str → Option Value} {b : Option Str}
    (e0 : Env0 P w K mg base A outer s H) (hd : A.handled = none) (S : LamSE L.scope L.N b) (nd : L.as.Nodup) (hc : ∀ x ∈ L.cs, H x.2.1 = none ∧ ∃ u, RelV x.2.2 u ∧ s.heap.IsCell x.2.1 (some u))
    (hns : h₁.Ns s.heap.objs.size m) (kp : ∀ b o, s.heap.get? b = some o → h₁.get? b = some o) :
    Inv (lamCxE P w K mg base A outer s H E L f) [] L.σ H { heap := h₁, gens := s.gens, drawn := s.drawn, toks := tk, os := s.os } := by
  have noA : ∀ b : Addr, ¬ b ∈ ([] : List Addr) := fun b z => nomatch z
  have cellK : ∀ x ∈ L.cs, ∃ u, RelV x.2.2 u ∧ h₁.IsCell x.2.1 (some u) := fun x hx => by
    obtain ⟨_, u, r, o, e, d⟩ := hc x hx
    exact ⟨u, r, o, kp _ _ e, d⟩
  refine ⟨⟨e0.mod, S.kind, rfl, rfl, Nat.le_refl _, fun y z c e1 e2 => ?_, fun y hy => ?_, (fun _ _ z => nomatch z), fun _ => hd, Around.frames_deeper e0.frames, .inr ⟨rfl, rfl⟩, fun b z => absurd z (noA b), e0.bs, e0.bsz, fun b _ _ => noA b, fun b z => absurd z (noA b), e0.funs, e0.frf⟩, rfl, e0.bare, Un.kept kp, ⟨m, hns, fun i y v e1 e2 e3 => ?_⟩, fun y c e => ?_, HOk.fresh e0.hok (Nat.le_refl _), fun y c e => ?_, (fun p hp => nomatch hp), HOk.kept e0.hok kp, (by show L.σ.length = L.N.length; rw [List.length_map, List.length_map])⟩
  · obtain ⟨x1, h1, rfl, rfl⟩ := mem_cl e1
    obtain ⟨x2, h2, rfl, e⟩ := mem_cl e2
    rw [one_at_nodup nd h1 h2 e.symm]
  · rcases hy with hy | hy
    · exact absurd rfl (S.own (y, .cell) (mem_of_lookup hy)).1
    · obtain ⟨x, hx, e⟩ := List.mem_map.mp ((S.own (y, .free) (mem_of_lookup hy)).2 rfl)
      have e : x.1 = y := e
      subst e
      exact ⟨_, look_nodup S.nd hx⟩
  · have e1 : (L.cs.map fun x => x.1)[i]? = some y := e1
    have e2 : (L.cs.map fun x => (some x.2.2 : Option V))[i]? = some (some v) := e2
    rw [List.getElem?_map] at e1 e2
    obtain ⟨x, hx, rfl⟩ := Option.map_eq_some_iff.mp e1
    rw [hx] at e2
    cases e2
    have hm := List.mem_of_getElem? hx
    obtain ⟨u, r, hcell⟩ := cellK x hm
    exact ⟨u, r, .inr ⟨.inr (S.fr _ (List.mem_map.mpr ⟨x, hm, rfl⟩)), x.2.1, look_nodup S.nd hm, hcell⟩⟩
  · obtain ⟨x, hx, rfl, rfl⟩ := mem_cl e
    obtain ⟨u, _, h⟩ := cellK x hx
    exact ⟨_, h⟩
  · obtain ⟨x, hx, rfl, rfl⟩ := mem_cl e
    exact (hc x hx).1
theorem pe_actE {Z : Cx} {k i : Nat} {a : Str} {Wx : WX} {E : XK} {L : KL} {f : Addr} {tb : XK → TE} {p1 p2 : Pos} (S : LamSE L.scope L.N (L.bd.map Prod.snd)) (tk : Takes Z Wx) (hW : ∀ cls d σ' H', E cls d H' → Wx cls d σ' H') (hr : Room (k + 1) Z.A)
    (hbody : ∀ A outer s H E, Room k (A.deeper (lamEnvE L s.heap.objs.size f)) → PE (lamCxE Z.prog Z.w Z.K Z.mg Z.base A outer s H E L f) L.body (tb E)) (hN : Z.N[i]? = some a) (hv : Vis Z.env.scope a) (hd : (a == Str.ofString "__debug__") = false := by rfl) (hcd : (a == Str.ofString "__classdict__") = false := by rfl) :
    PE Z ((Expr.Name a p1).Call [] [] p2) fun σZ HZ Q => σZ[i]? = some (some (.ref f)) ∧ KLAt L f HZ ∧ tb (fun cls d H' => E cls d (putL H' HZ L.as)) L.σ (remC HZ L.as) fun v H' => Q v (putL H' HZ L.as) := by
  refine ⟨fun pinsZ sZ σZ HZ Q IZ h => ?_⟩
  obtain ⟨hs, hk, htb⟩ := h
  refine wpAny_Call_Name_kw (thn ((pe_var hN hv hd hcd).run pinsZ sZ σZ HZ (fun v H1 => v = .ref f ∧ H1 = HZ) IZ ⟨_, hs, rfl, rfl⟩) fun u s1 x => ?_)
  obtain ⟨v, H1, I1, r1, rfl, rfl⟩ := x
  obtain rfl : u = Value.ref f := r1
  obtain ⟨⟨fd, of1, e1, e2, e3, e4, e5, e6, e7, hbd⟩, _, _⟩ := I1.hok f _ hk.f
  refine PySem.W.callWith_F0 ⟨_, _, _, _, of1⟩ ?_
  obtain ⟨⟨oc, vs, tt, hoc, hdc, hvc⟩, _, _⟩ := I1.hok L.c' _ hk.c
  have are : AreC H1 L.as := fun b hb => by
    obtain ⟨x, hx, rfl⟩ := List.mem_map.mp hb
    exact ⟨_, hk.cs x hx⟩
  have nf : ∀ b ∈ L.as, b ∉ frs Z.stack := fun b hb z => by
    obtain ⟨v, hv⟩ := are b hb
    rw [I1.stkFree b z] at hv
    cases hv
  have e0 := env0_rem are I1.env0
  have hcell : ∀ x ∈ L.cs, remC H1 L.as x.2.1 = none ∧ ∃ u, RelV x.2.2 u ∧ s1.heap.IsCell x.2.1 (some u) := fun x hx =>
    ⟨remC_in (List.mem_map.mpr ⟨x, hx, rfl⟩), (I1.hok _ _ (hk.cs x hx)).1⟩
  have rc : codeAny (model Z.prog Z.w) Z.A (Code.call (.ref f) { }) (CR (L2.CX Z.prog Z.w) Z.stack Z.prog Z.w H1 s1 Q E) s1 := by
    refine PySem.W.kla_callFunE hr.depth of1 rfl (by rw [e1]; exact S.co) (by rw [e1]; exact S.gen) e2 (by rw [e4, e5]; exact ⟨L.c', oc, vs, tt, rfl, hoc, hdc, hvc⟩) ?_
    rw [e1, e3, e4, e5, e6, e7]
    have fin : ∀ (binds : List (Str × Value)), (∀ y ∈ binds, L.bd.map Prod.snd = some y.1) → wpAny (model Z.prog Z.w) Z.A.in1 (newFunctionEnv L.scope mainGlobals L.cl binds (L.q ++ Str.ofString ".<locals>.") (some f) (.ref L.c') none builtinsNs) (fun env s₂ => s₂.heap.NoLimit ∧ codeAny (model Z.prog Z.w) Z.A (.expr L.body env) (CR (L2.CX Z.prog Z.w) Z.stack Z.prog Z.w H1 s1 Q E) s₂) (fun e s' => CR (L2.CX Z.prog Z.w) Z.stack Z.prog Z.w H1 s1 Q E (.error e) s') s1 := fun binds hbs => by
      refine wpAny_newFunctionEnv (fun y hy => (S.own y hy).1) (fun y hy => S.par _ (hbs y hy)) (fun h₁ hns hsb => ⟨Heap.NoLimit.fresh I1.nolimit _ hsb, ?_⟩) S.kind
      have kp : ∀ b o, s1.heap.get? b = some o → h₁.get? b = some o := fun b o e => hsb.extBut b o (Nat.ne_of_lt (Heap.lt_size e)) (Heap.get?_push_of_some _ e)
      have J := lam_startE (E := fun cls d H' => E cls d (putL H' H1 L.as)) (L := L) (f := f) (tk := s1.toks + binds.length) e0 hr.hd S hk.nd hcell hns kp
      refine PySem.W.kla_codeExpr (wpAny_mono ((hbody _ _ s1 (remC H1 L.as) _ (hr.deeper (lamEnvE L s1.heap.objs.size f))).run [] _ L.σ _ _ J htb) (fun v s' hq => ?_) fun e s' hq => ?_)
      · obtain ⟨w', H', J', rv, q⟩ := hq
        have nn : ∀ b ∈ L.as, H' b = none := fun b hb => by
          obtain ⟨o, e⟩ := cell_obj are I1.hok hb
          exact J'.base.free b o e (remC_in hb) (fun z => nomatch z)
        exact ⟨w', putL H' H1 L.as, J'.os, J'.bare, un_put are J'.base, hok_put are I1.hok J'.hok nn fun b hb o e => J'.base.keep b o e (remC_in hb) (nf b hb) (fun z => nomatch z), rv, q⟩
      · exact wpAny_mono hq (fun _ s'' z => cx_put are I1.hok nf z) fun e' s'' z => cx_put are I1.hok nf z
    unfold LamB at hbd
    cases hb : L.bd with
    | none =>
      rw [hb] at hbd
      rw [show bindArgs fd { } = pure [] from hbd]
      exact wpAny_pure (fin [] fun y hy => nomatch hy)
    | some tb' =>
      obtain ⟨t, b⟩ := tb'
      rw [hb] at hbd
      obtain ⟨kk, g1, g2⟩ := hbd
      have ht := hk.t t b hb
      obtain ⟨_, its, rits, ot, hot, hot2, nt, hot3⟩ := I1.hok t _ ht
      obtain ⟨w1, rfl, rw1⟩ : ∃ w1, its = [w1] ∧ RelV (.int L.n) w1 := by
        cases rits with
        | cons r q =>
          cases q
          exact ⟨_, rfl, r⟩
      rw [show bindArgs fd { } = _ from g1]
      refine wpAny_bind (wpAny_seqItems hot hot3 ?_)
      show wpAny _ _ (kk (some #[w1])) _ _ _
      rw [g2]
      refine wpAny_pure (fin [(b, w1)] fun y hy => ?_)
      rw [List.mem_singleton.mp hy, hb]
      rfl
  refine wpAny_call (codeAny_mono rc fun r s' hq => ?_)
  cases r with
  | error e => exact passes_call tk hW pinsZ σZ H1 s1 e s' I1 hq
  | ok fl =>
    cases fl with
    | ret u => exact I1.after hq
    | next => exact hq.elim
    | brk => exact hq.elim
    | cont => exact hq.elim
end Ov
/-! ### a def that calls the kept lambda that it gets -/
namespace Ov
open PySem PySem.Spec PyProof.Rows L2 LamX
theorem PE.imp {X : Cx} {e : Expr} {t t' : TE} (h : PE X e t) (i : ∀ σ H Q, t' σ H Q → t σ H Q) : PE X e t' := ⟨fun pins s σ H Q I z => h.run pins s σ H Q I (i σ H Q z)⟩
/-- the lambda's body may be run anywhere -/
def KLBody (P : Program) (w : World) (K : PySem.W.Frag) (mg : Str → Option Value) (base : Heap) (k : Nat) (L : KL) (f : Addr) (tb : XK → TE) : Prop :=
  ∀ A outer s H E, Room k (A.deeper (lamEnvE L s.heap.objs.size f)) → PE (lamCxE P w K mg base A outer s H E L f) L.body (tb E)
/-- what its call gives -/
def klRead (L : KL) (f : Addr) (tb : XK → TE) : XK → Hp → VK → Prop := fun E H Q => KLAt L f H ∧ tb (fun cls d H' => E cls d (putL H' H L.as)) L.σ (remC H L.as) fun v H' => Q v (putL H' H L.as)
def spKept (P : Program) (w : World) (K : PySem.W.Frag) (mg : Str → Option Value) (base : Heap) (k : Nat) (TT : (XK → Hp → VK → Prop) → Hp → VK → Prop) : Sp := fun vs H Q _ => ∃ (L : KL) (f : Addr) (tb : XK → TE), vs = [.ref f] ∧ LamSE L.scope L.N (L.bd.map Prod.snd) ∧ KLBody P w K mg base k L f tb ∧ KLAt L f H ∧ TT (klRead L f tb) H Q
theorem fn_kept {P : Program} {w : World} {K : PySem.W.Frag} {mg : Str → Option Value} {base : Heap} {k : Nat} {TT : (XK → Hp → VK → Prop) → Hp → VK → Prop} {x a : Str} {g : Addr} {pg : Arguments} {bg : List Stmt} {sg : Scope} {dV kV doc pm cdv ct oc : Value} {an od : Option Addr} {osl : Array (Option Value)} {Ng : List Str}
    (lk : List.lookup g K = some { cls := oc, dict := od, data := .func (PySem.W.fnOf x x pg bg sg dV kV doc pm an cdv ct), slots := osl }) (hcg : PySem.W.codeIn K cdv x = true) (Sg : FnScope Ng [a] sg) (hNg : Ng[0]? = some a) (hva : Vis sg a)
    (hG : ∀ (X : Cx) (q : Str), X.prog = P → X.w = w → X.K = K → X.mg = mg → GivesTo X Ng x sg g cdv bg a q TT) (hd : (a == Str.ofString "__debug__") = false := by rfl) (hcd : (a == Str.ofString "__classdict__") = false := by rfl) :
    FnOk P w K mg base C8.CX0 (k + 2) g (PySem.W.fnOf x x pg bg sg dV kV doc pm an cdv ct) [a] (spKept P w K mg base k TT) := by
  refine ⟨fun vs H Q E ⟨L, f, tb, e, _⟩ => by rw [e]; rfl, fun A outer s H args us vs Q E hr e0 hb r hsp => ?_⟩
  obtain ⟨L, f, tb, rfl, S, hbody, hk, hT⟩ := hsp
  have rc := run_ofS (CX := C8.CX0) (E := C8.E0) (Q := Q) lk hcg Sg hr e0 hb r rfl fun hr' => by
    obtain ⟨t', ht', hq'⟩ := hG { cxOf C8.CX0 P w K mg base Ng x sg g cdv A outer s H C8.E0 with A := A, stack := outer } L.q rfl rfl rfl rfl f L.c' s H Q (klRead L f tb)
      (fun Wx pn xe E p1 p2 tk hW => PE.imp (pe_actE (k := k) (i := 0) S tk hW hr' hbody hNg hva hd hcd) fun σ H Q z => ⟨z.1, z.2.2⟩) hk.c hT
    exact ⟨t', PSs.nox ht', hq'⟩
  refine codeAny_mono rc fun r s2 hq => ?_
  cases r with
  | error e => exact hq.elim
  | ok fl => exact hq
end Ov
/-! ### what is no tree (k03, k23) -/
namespace Ov
open PySem PySem.Spec PyProof.Rows L2
/-- what stands for a part: an int, a row of ints -/
inductive PtV where
  | one (z : Int)
  | row (ns : List Int)
def PtAt (K : PySem.W.Frag) (H : Hp) (v : V) : PtV → Prop
  | .one z => v = .int z
  | .row ns => ∃ b, v = .ref b ∧ TupAt K H b (ns.map V.int) ∧ ns.length ≤ 900
def PtV.ns : PtV → List Int
  | .one _ => []
  | .row ns => ns
def inB (n : Nat) (ns : List Int) : Bool := ns.all fun z => decide (0 ≤ z ∧ z ≤ (n : Int) - 1)
def partB (n : Nat) : PtV → Bool
  | .one _ => false
  | .row ns => !decide (ns.length = 0) && (inB n ns && risesB ns)
def firstI (xs : List PtV) : List Int := xs.map fun x => x.ns.headD 0
def heldI (xs : List PtV) : List Int := (xs.map PtV.ns).flatten
def partsB (n : Nat) (xs : List PtV) : Bool := xs.all (partB n) && (risesB (firstI xs) && decide ((heldI xs).Perm ((List.range n).map fun (k : Nat) => (k : Int))))
/-- so many steps down -/
def downI (st : List Int) (z : Int) : Int := if z = -1 then -1 else (st[z.toNat]?).getD 0
def endI (st : List Int) : Nat → Int → Int
  | 0, z => z
  | k + 1, z => downI st (endI st k z)
def standB (m : Nat) (st : List Int) : Bool := decide (st.length = m) && (st.all (fun z => decide (-1 ≤ z ∧ z ≤ (m : Int) - 1)) && (List.range m).all fun i => decide (endI st m (i : Int) = -1))
/-- what stands for a tree: a tuple of another length; parts and stands -/
inductive TvAt (K : PySem.W.Frag) (H : Hp) (n : Nat) : V → Bool → Prop
  | len {a : Addr} {xs : List V} : TupAt K H a xs → xs.length ≠ 2 → xs.length ≤ 900 → TvAt K H n (.ref a) false
  | two {a p s : Addr} {vs : List V} {xs : List PtV} {st : List Int} : TupAt K H a [.ref p, .ref s] → TupAt K H p vs → Paired (PtAt K H) vs xs → vs.length ≤ 40 → (heldI xs).length ≤ 60 → TupAt K H s (st.map V.int) → st.length ≤ 40 → TvAt K H n (.ref a) (partsB n xs && standB xs.length st)
section
variable {K : PySem.W.Frag} {H H' : Hp} {n : Nat} {v : V} {b : Bool}
theorem PtAt.keep {x : PtV} (k : Keep H H') (h : PtAt K H v x) : PtAt K H' v x := by
  cases x with
  | one z => exact h
  | row ns =>
    obtain ⟨b, e, h1, h2⟩ := h
    exact ⟨b, e, h1.keep k, h2⟩
theorem TvAt.keep (k : Keep H H') (h : TvAt K H n v b) : TvAt K H' n v b := by
  cases h with
  | len h1 h2 h3 => exact .len (h1.keep k) h2 h3
  | two h1 h2 h3 h4 h5 h6 h7 => exact .two (h1.keep k) (h2.keep k) (L2.Paired.mapP h3 fun _ _ z => z.keep k) h4 h5 (h6.keep k) h7
end
def spRisesL : Sp := fun vs H Q _ => ∃ (a : Addr) (ns : List Int), vs = [.ref a] ∧ H a = some (.lst (ns.map V.int)) ∧ ns.length ≤ 900 ∧ ∀ H', Same H H' → Q (.bl (risesB ns)) H'
def spPartFitsB (K : PySem.W.Frag) : Sp := fun vs H Q _ => ∃ (v : V) (n : Nat) (x : PtV), vs = [v, .int (n : Int)] ∧ PtAt K H v x ∧ ∀ H', Same H H' → Q (.bl (partB n x)) H'
def spPartsFitB (K : PySem.W.Frag) : Sp := fun vs H Q _ => ∃ (a : Addr) (n : Nat) (us : List V) (xs : List PtV), vs = [.ref a, .int (n : Int)] ∧ TupAt K H a us ∧ Paired (PtAt K H) us xs ∧ us.length ≤ 40 ∧ (heldI xs).length ≤ 60 ∧ n ≤ 8 ∧ ∀ H', Same H H' → Q (.bl (partsB n xs)) H'
def spHasEndB (K : PySem.W.Frag) : Sp := fun vs H Q _ => ∃ (a : Addr) (st : List Int) (x : Nat), vs = [.ref a, .int (x : Int)] ∧ TupAt K H a (st.map V.int) ∧ (∀ z ∈ st, -1 ≤ z ∧ z ≤ (st.length : Int) - 1) ∧ x < st.length ∧ st.length ≤ 40 ∧ Q (.bl (decide (endI st st.length (x : Int) = -1))) H
def spStandsFitB (K : PySem.W.Frag) : Sp := fun vs H Q _ => ∃ (a : Addr) (st : List Int) (m : Nat), vs = [.ref a, .int (m : Int)] ∧ TupAt K H a (st.map V.int) ∧ st.length ≤ 40 ∧ ∀ H', Same H H' → Q (.bl (standB m st)) H'
def spCheckTreeX (K : PySem.W.Frag) : Sp := fun vs H _ E => ∃ (v t : V) (pr : List (Int × W)), vs = [v, t] ∧ PrAt H v pr ∧ PrOk pr ∧ TvAt K H pr.length t false ∧ OutC K "BadTree" H E
end Ov
namespace Ov
open PySem PySem.Spec PyProof.Rows L2
theorem eqvIntsB (a b : List Int) : PyData.eqv (.list (a.map PyData.int)) (.list (b.map PyData.int)) = decide (a = b) := by
  show PyData.eqvAll (a.map PyData.int) (b.map PyData.int) = _
  exact eqvAll_map (d := PyData.int) (fun x y => by
    by_cases c : x = y
    · subst c; rw [decide_eq_true rfl]; simp [PyData.eqv]
    · rw [decide_eq_false c]; simp [PyData.eqv, c]) a b
theorem sorted_perm {ns held : List Int} {n : Nat} (hp : ns.Perm held) (hs : ns.Pairwise (· ≤ ·)) : decide (ns = (List.range n).map fun (k : Nat) => (k : Int)) = decide (held.Perm ((List.range n).map fun (k : Nat) => (k : Int))) := by
  by_cases c : held.Perm ((List.range n).map fun (k : Nat) => (k : Int))
  · rw [decide_eq_true c]
    refine decide_eq_true (PySem.W.ksm_same (hp.trans c) hs ?_)
    rw [List.pairwise_map]
    exact List.Pairwise.imp (fun z => by omega) List.pairwise_lt_range
  · rw [decide_eq_false c]
    exact decide_eq_false fun z => c (by rw [← z]; exact hp.symm)
end Ov
namespace Ov
open PySem PySem.Spec PyProof.Rows L2
/-- a def that is handed a program and what is no tree of it, and m things more: refused -/
def spTX (K : PySem.W.Frag) (m : Nat) : Sp := fun vs H _ E => ∃ (v t : V) (pr : List (Int × W)) (r : List V), vs = v :: t :: r ∧ r.length = m ∧ PrAt H v pr ∧ PrOk pr ∧ TvAt K H pr.length t false ∧ OutC K "BadTree" H E
/-- .. the same of a method -/
def spTXm (K : PySem.W.Frag) (m : Nat) : Sp := fun vs H Q E => ∃ (a : V) (r : List V), vs = a :: r ∧ spTX K m r H Q E
end Ov
/-! ### t[::-1] of a tuple -/
namespace HT
open PySem PySem.Spec PyProof.Rows L2
section
variable {prog : Program} {w : World} {A : Around} {E : Value → Shared → Prop} {s : Shared}
theorem adjust_rev (n : Nat) : Builtin.Slice.sliceAdjust none none (-1) (n : Int) = ((n : Int) - 1, -1) := by
  unfold Builtin.Slice.sliceAdjust
  have h1 : ((-1 : Int) < 0) := by omega
  simp only [h1, if_true]
theorem places_rev (n : Nat) : Builtin.Slice.slicePlaces ((n : Int) - 1) (-1) (-1) = n := by
  unfold Builtin.Slice.slicePlaces
  have h1 : ¬ ((-1 : Int) > 0) := by omega
  simp only [h1, if_false, Int.neg_neg, Int.ediv_one]
  split <;> omega
theorem sliceApplied_rev {sl : Addr} {vl vu vs : Value} {n : Nat} {Q : Int × Int × Nat → Shared → Prop} (hs : s.heap.IsSliceOf sl vl vu vs) (pl : IsPart vl none) (pu : IsPart vu none) (ps : IsPart vs (some (-1)))
    (h : Q ((n : Int) - 1, -1, n) s) : wpAny (model prog w) A (Builtin.Slice.sliceApplied (.ref sl) (pure (n : Int))) Q E s := by
  obtain ⟨os, hos, hcs, hds⟩ := id hs
  unfold Builtin.Slice.sliceApplied Builtin.Slice.sliceFields
  refine wpAny_bind (wpAny_bind (wpAny_field hos hds (x := vl) rfl (wpAny_bind (wpAny_field hos hds (x := vu) rfl (wpAny_bind (wpAny_field hos hds (x := vs) rfl (wpAny_pure ?_)))))))
  refine wpAny_bind (slicePart_ ps ?_)
  show wpAny _ _ (if ((-1 : Int) == 0) = true then _ else _) _ _ s
  rw [if_neg (by decide)]
  refine wpAny_bind (slicePart_ pl (wpAny_bind (slicePart_ pu (wpAny_bind (wpAny_pure ?_)))))
  show wpAny _ _ (match Builtin.Slice.sliceAdjust none none (-1) (n : Int) with | (lo, hi) => pure (lo, (-1 : Int), Builtin.Slice.slicePlaces lo hi (-1))) _ _ s
  rw [adjust_rev n]
  show wpAny _ _ (pure ((n : Int) - 1, (-1 : Int), Builtin.Slice.slicePlaces ((n : Int) - 1) (-1) (-1))) _ _ s
  rw [places_rev]
  exact wpAny_pure h
theorem fm_congr {α β : Type} {f g : α → Option β} : ∀ {l : List α}, (∀ k ∈ l, f k = g k) → l.filterMap f = l.filterMap g
  | [], _ => rfl
  | a :: l, h => by
    rw [List.filterMap_cons, List.filterMap_cons, h a List.mem_cons_self, fm_congr fun k hk => h k (List.mem_cons_of_mem _ hk)]
theorem pick_rev (xs : Array Value) : ((List.range xs.size).filterMap fun (k : Nat) => xs[((xs.size : Int) - 1 + (k : Int) * (-1)).toNat]?).toArray = xs.toList.reverse.toArray := by
  have e : (List.range xs.size).filterMap (fun (k : Nat) => xs[((xs.size : Int) - 1 + (k : Int) * (-1)).toNat]?) = ((List.range xs.size).map fun k => xs.size - 1 - k).filterMap (xs[·]?) := by
    rw [List.filterMap_map]
    refine fm_congr fun k hk => ?_
    have := List.mem_range.mp hk
    have e : ((xs.size : Int) - 1 + (k : Int) * (-1)).toNat = xs.size - 1 - k := by omega
    rw [e]
    rfl
  rw [e, PySem.W.krv_range, List.filterMap_reverse, PySem.W.krv_all]
theorem getItem_tuple_rev {t sl : Addr} {items : Array Value} {vl vu vs : Value} {Q : Value → Shared → Prop} (ht : IsTup s.heap t items) (hs : s.heap.IsSliceOf sl vl vu vs) (pl : IsPart vl none) (pu : IsPart vu none) (ps : IsPart vs (some (-1)))
    (h : Q (.ref s.heap.objs.size) { s with heap := s.heap.push { cls := .type "tuple", data := .seq items.toList.reverse.toArray } })
    (hsz : items.size ≤ sizeLine) : wpAny (model prog w) A (getItem (.ref t) (.ref sl)) Q E s := by
  have htake : sizeOk (.seq items.toList.reverse.toArray) := by
    show items.toList.reverse.toArray.size ≤ sizeLine
    rw [List.size_toArray, List.length_reverse, Array.length_toList]
    omega
  obtain ⟨os, hos, hcs, hds⟩ := id hs
  have hTs : s.TypeIs (.ref sl) "slice" := ⟨os, hos, hcs⟩
  unfold getItem
  try with_reducible refine wpAny_holding ?_
  first | refine wpAny_bind (wpAny_pure ?_) | skip
  refine wpAny_bind (wpAny_sequenceKey ht.typeIs (by decide) ?_)
  refine wpAny_bind (wpAny_callSpecial?_slot (name := Str.ofString "__getitem__") ht.typeIs PyProof.Rows.slot_tuple_getitem
    (wpAny_call_entry PyProof.Rows.slot_tuple_getitem ht.typeIs entry_tuple_getitem ?_ (args_tuple_getitem _ _)))
  show wpAny _ _ (Builtin.Tuple.tupleItemsOf (.ref t) >>= _) _ _ s
  refine wpAny_bind (tupleItemsOf_ ht ?_)
  refine wpAny_bind (wpAny_typeOf hTs ?_)
  rw [if_pos (by decide)]
  refine wpAny_bind (sliceApplied_rev hs pl pu ps ?_)
  have hno : ¬ ((((items.size : Int) - 1 == 0 && (-1 : Int) == 1 && items.size == items.size)) = true) := by
    intro q
    rw [Bool.and_eq_true, Bool.and_eq_true] at q
    exact absurd q.1.2 (by decide)
  show wpAny _ _ (if (((items.size : Int) - 1 == 0 && (-1 : Int) == 1 && items.size == items.size)) = true then _ else _) _ _ s
  rw [if_neg hno, pick_rev]
  first
    | exact wpAny_bind (m := Builtin.Tuple.tupleExact _) (wpAny_newObj_type (wpAny_pure ⟨_, rfl, wpAny_pure h⟩) htake)
    | exact wpAny_bind (m := Builtin.Tuple.tupleExact _) (wpAny_newObj_type (wpAny_bind (wpAny_pure (wpAny_pure ⟨_, rfl, wpAny_pure h⟩))) htake)
    | exact wpAny_bind (wpAny_bind (m := Builtin.Tuple.tupleExact _) (wpAny_newObj_type (wpAny_pure (wpAny_pure ⟨_, rfl, wpAny_pure h⟩)) htake))
    | exact wpAny_bind (wpAny_bind (m := Builtin.Tuple.tupleExact _) (wpAny_newObj_type (wpAny_pure ⟨_, rfl, wpAny_pure h⟩) htake))
end
end HT
namespace Ov
open PySem PySem.Spec PyProof.Rows L2
section
variable {X : Cx} {K : PySem.W.Frag}
def tRevT (K : PySem.W.Frag) (te : TE) : TE := fun σ H Q => te σ H fun x H1 => ∃ a xs, x = .ref a ∧ SqT K H1 a xs ∧ ∀ p, H1 p = none → Q (.ref p) (upd H1 p (.tup xs.reverse))
theorem pe_revT (hK : X.K = K) {e : Expr} {te : TE} {k : Nat} {p1 p2 p3 pos : Pos} (he : PE X e te) : PE X (.Subscript e (.Slice none none (some (.UnaryOp .USub (.Constant (.int 1) k p1) p2)) p3) pos) (tRevT K te) := by
  subst hK
  refine ⟨fun pins s σ H Q I h => ?_⟩
  refine Subscript_ (thn (he.run pins s σ H _ I h) fun v s1 ⟨x, H1, I1, r1, q1⟩ => ?_)
  obtain ⟨a, xs, ex, hx, q⟩ := q1
  subst ex
  cases r1
  have hst : PO X (some (.UnaryOp .USub (.Constant (.int 1) k p1) p2)) (tPart (tUn (rU fun i => .int (-i)) (tC (.int 1)))) := po_some (pe_un un_neg pe_int)
  refine wpAny_Slice (thn (po_none.run pins s1 σ H1 (fun o H2 => o = none ∧ H2 = H1) I1 ⟨rfl, rfl⟩) fun vl s2 ⟨l, H2, I2, pl, el, e2⟩ => ?_)
  subst el e2
  refine thn (po_none.run pins s2 σ H2 (fun o H3 => o = none ∧ H3 = H2) I2 ⟨rfl, rfl⟩) fun vu s3 ⟨u, H3, I3, pu, eu, e3⟩ => ?_
  subst eu e3
  refine thn (hst.run pins s3 σ H3 (fun o H4 => o = some (-1) ∧ H4 = H3) I3 ⟨1, rfl, -1, rfl, rfl, rfl⟩) fun vs s4 ⟨o, H4, I4, ps, eo, e4⟩ => ?_
  subst eo e4
  have I5 : Inv X pins σ H4 { s4 with heap := s4.heap.push { cls := .type "slice", data := .fields #[vl, vu, vs] } } := I4.kept (t' := s4.toks) fun b ob q => Heap.get?_push_of_some _ q
  obtain ⟨its, r, ht, hz⟩ := I5.tuple hx
  have hlen : its.toArray.size = xs.length := by rw [List.size_toArray]; exact r.length.symm
  show wpAny (model X.prog X.w) X.A (subscriptTail e (.Slice none none (some (.UnaryOp .USub (.Constant (.int 1) k p1) p2)) p3) (.ref a) (.ref s4.heap.objs.size)) (EP X pins σ Q) X.xe { s4 with heap := s4.heap.push { cls := .type "slice", data := .fields #[vl, vu, vs] } }
  refine tail_any (ops := [.ref a, .ref s4.heap.objs.size]) ht.typeIs PyProof.Rows.slot_tuple_getitem.lookup ?_ (by with_unfolding_all rfl)
  refine HT.getItem_tuple_rev ht (Heap.IsSliceOf.new _ vl vu vs) pl pu ps ?_ (by rw [hlen]; exact hz)
  exact ⟨.ref _, _, I5.laid (t' := s4.toks) (o := .tup xs.reverse) (fun b ob q => Heap.get?_push_of_some _ q) (Nat.le_refl _) ⟨by rw [List.length_reverse]; exact hz, _, r.reverse, IsTup.new _ _⟩, rfl, q _ (I5.hok.fresh (Nat.le_refl _))⟩
end
end Ov
/-! ### tuples worked out of tuples; trees that are none (k03) -/
namespace Ov
open PySem PySem.Spec PyProof.Rows L2
theorem prd_take {α β : Type} {R : α → β → Prop} : ∀ {k : Nat} {l : List α} {m : List β}, Paired R l m → Paired R (l.take k) (m.take k)
  | 0, _, _, _ => .nil
  | _ + 1, _, _, .nil => .nil
  | _ + 1, _, _, .cons a r => .cons a (prd_take r)
theorem prd_drop {α β : Type} {R : α → β → Prop} : ∀ {k : Nat} {l : List α} {m : List β}, Paired R l m → Paired R (l.drop k) (m.drop k)
  | 0, _, _, h => h
  | _ + 1, _, _, .nil => .nil
  | k + 1, _ :: _, _ :: _, .cons _ r => prd_drop (k := k) r
theorem prd_app {α β : Type} {R : α → β → Prop} : ∀ {l l' : List α} {m m' : List β}, Paired R l m → Paired R l' m' → Paired R (l ++ l') (m ++ m')
  | _, _, _, _, .nil, h => h
  | _, _, _, _, .cons a r, h => .cons a (prd_app r h)
theorem prd_rev {α β : Type} {R : α → β → Prop} : ∀ {l : List α} {m : List β}, Paired R l m → Paired R l.reverse m.reverse
  | _, _, .nil => .nil
  | _, _, .cons a r => by
    rw [List.reverse_cons, List.reverse_cons]
    exact prd_app (prd_rev r) (.cons a .nil)
def ClR {α : Type} (R : Hp → V → α → Prop) : Prop := ∀ (H H' : Hp) (v : V) (x : α), Same H H' → R H v x → R H' v x
/-- a tuple of what is paired with xs -/
def TL {α : Type} (K : PySem.W.Frag) (R : Hp → V → α → Prop) (xs : List α) : VP := fun H v => ∃ p vs, v = .ref p ∧ TupAt K H p vs ∧ Paired (R H) vs xs
abbrev Rint : Hp → V → Int → Prop := fun _ v z => v = .int z
theorem cl_rint : ClR Rint := fun _ _ _ _ _ h => h
theorem cl_tl {α : Type} {K : PySem.W.Frag} {R : Hp → V → α → Prop} {xs : List α} (hR : ClR R) : ClV (TL K R xs) := fun _ _ _ s ⟨p, vs, e, h, hp⟩ => ⟨p, vs, e, h.keep (Keep.same s), L2.Paired.mapP hp fun _ _ z => hR _ _ _ _ s z⟩
abbrev tM1 : TE := tUn (rU fun i => V.int (-i)) (tC (V.int 1))
section
variable {α : Type} {K : PySem.W.Frag} {R : Hp → V → α → Prop} {σ : L2.St} {Pre : Hp → Prop} {te ta tb tk : TE} {xs ys : List α} {x : α} {k : Nat}
theorem evs_take (hR : ClR R) (he : EvS σ Pre te (TL K R xs)) (hk : ∀ (H : Hp) (Q : VK), Q (.int (k : Int)) H → tk σ H Q) (hl : k ≤ xs.length) : EvS σ Pre (tSl (rSlA K) te tNoPart (tPart tk)) (TL K R (xs.take k)) := ⟨fun H Q p q => he.run H _ p fun H1 v s1 h => by
  obtain ⟨a, vs, rfl, ha, hp⟩ := h
  exact hk _ _ ⟨_, rfl, slA_to ha (by rw [Paired.length hp]; exact hl) fun H2 p2 s2 h2 => q H2 _ (s1.trans s2) ⟨p2, _, rfl, h2, prd_take (L2.Paired.mapP hp fun _ _ z => hR _ _ _ _ s2 z)⟩⟩, cl_tl hR⟩
theorem evs_drop (hR : ClR R) (he : EvS σ Pre te (TL K R xs)) (hk : ∀ (H : Hp) (Q : VK), Q (.int (k : Int)) H → tk σ H Q) (hl : k ≤ xs.length) : EvS σ Pre (tSl (rSlA K) te (tPart tk) tNoPart) (TL K R (xs.drop k)) := ⟨fun H Q p q => he.run H _ p fun H1 v s1 h => by
  obtain ⟨a, vs, rfl, ha, hp⟩ := h
  refine hk _ _ ⟨_, rfl, ?_⟩
  dsimp only [tNoPart]
  exact slA_from ha (by rw [Paired.length hp]; exact hl) fun H2 p2 s2 h2 => q H2 _ (s1.trans s2) ⟨p2, _, rfl, h2, prd_drop (L2.Paired.mapP hp fun _ _ z => hR _ _ _ _ s2 z)⟩, cl_tl hR⟩
theorem cut_init {β : Type} (l : List V) : cutV l none (some (-1)) = l.take (l.length - 1) := by
  unfold cutV
  have e : HT.sIx l.length l.length (some (-1)) = l.length - 1 := by
    show (if (-1 : Int) < 0 then (-1 + (l.length : Int)).toNat else min (-1 : Int).toNat l.length) = _
    rw [if_pos (by decide)]
    omega
  rw [e]
  rfl
theorem evs_init (hR : ClR R) (he : EvS σ Pre te (TL K R xs)) : EvS σ Pre (tSl (rSlA K) te tNoPart (tPart tM1)) (TL K R (xs.take (xs.length - 1))) := ⟨fun H Q p q => he.run H _ p fun H1 v s1 h => by
  obtain ⟨a, vs, rfl, ha, hp⟩ := h
  refine ⟨1, rfl, -1, rfl, slA_by ha fun H2 p2 s2 h2 => q H2 _ (s1.trans s2) ⟨p2, _, rfl, h2, ?_⟩⟩
  rw [cut_init (β := V), Paired.length hp]
  exact prd_take (L2.Paired.mapP hp fun _ _ z => hR _ _ _ _ s2 z), cl_tl hR⟩
theorem evs_cat (hR : ClR R) (hP : ClP Pre) (ha : EvS σ Pre ta (TL K R xs)) (hb : EvS σ Pre tb (TL K R ys)) (hl : xs.length + ys.length ≤ 1000) : EvS σ Pre (tOp (rCatA K) ta tb) (TL K R (xs ++ ys)) := ⟨fun H Q p q => ha.run H _ p fun H1 v s1 h => hb.run H1 _ (hP _ _ s1 p) fun H2 u s2 h2 => by
  obtain ⟨a, vs, rfl, ha, hp⟩ := h
  obtain ⟨b, us, rfl, hb, hp2⟩ := h2
  exact cat_by (ha.keep (Keep.same s2)) hb (by rw [Paired.length hp, Paired.length hp2]; exact hl) fun H3 p3 s3 h3 => q H3 _ ((s1.trans s2).trans s3) ⟨p3, _, rfl, h3, prd_app (L2.Paired.mapP hp fun _ _ z => hR _ _ _ _ (s2.trans s3) z) (L2.Paired.mapP hp2 fun _ _ z => hR _ _ _ _ s3 z)⟩, cl_tl hR⟩
theorem evs_rev (hR : ClR R) (he : EvS σ Pre te (TL K R xs)) : EvS σ Pre (tRevT K te) (TL K R xs.reverse) := ⟨fun H Q p q => he.run H _ p fun H1 v s1 h => by
  obtain ⟨a, vs, rfl, ha, hp⟩ := h
  exact ⟨a, vs, rfl, ha.sq, fun p2 hp2 => q _ _ (s1.trans (Same.new hp2)) ⟨p2, _, rfl, .inl upd_same, prd_rev (L2.Paired.mapP hp fun _ _ z => hR _ _ _ _ (Same.new hp2) z)⟩⟩, cl_tl hR⟩
theorem evs_nilT (hR : ClR R) : EvS σ Pre (tTup tNil) (TL K R []) := (evs_tup eva_nil).imp (cl_tl hR) fun {H v} h => by
  obtain ⟨p, e, h⟩ := tupA0 h
  exact ⟨p, [], e, .inl h, .nil⟩
theorem evs_oneT (hR : ClR R) (hP : ClP Pre) (he : EvS σ Pre te (fun H v => R H v x)) : EvS σ Pre (tTup (tCons te tNil)) (TL K R [x]) := (evs_tup (eva_cons hP he eva_nil)).imp (cl_tl hR) fun {H v} h => by
  obtain ⟨p, y, e, h, hy⟩ := tupA1 h
  exact ⟨p, [y], e, .inl h, .cons hy .nil⟩
theorem evs_at (hR : ClR R) (he : EvS σ Pre te (TL K R xs)) (hk : ∀ (H : Hp) (Q : VK), Q (.int (k : Int)) H → tk σ H Q) (hx : xs[k]? = some x) : EvS σ Pre (tOp (rIxT K) te tk) (fun H v => R H v x) := ⟨fun H Q p q => he.run H _ p fun H1 v s1 h => by
  obtain ⟨a, vs, rfl, ha, hp⟩ := h
  obtain ⟨u, hu, hr⟩ := Paired.got hp hx
  exact hk _ _ ⟨a, vs, _, _, rfl, rfl, ha.sq, atI_nat hu, q H1 _ s1 hr⟩, fun _ _ _ s h => hR _ _ _ _ s h⟩
theorem evs_int {z : Int} (hk : ∀ (H : Hp) (Q : VK), Q (.int z) H → tk σ H Q) : EvS σ Pre tk (fun _ v => v = .int z) := ⟨fun H Q _ q => hk H Q (q H _ (Same.refl H) rfl), fun _ _ _ _ h => h⟩
end
def ptOf (ps : List (List Nat)) : List PtV := ps.map fun p => .row (p.map fun (k : Nat) => (k : Int))
theorem cl_pt {K : PySem.W.Frag} : ClR (PtAt K) := fun _ _ _ _ s h => h.keep (Keep.same s)
section
variable {K : PySem.W.Frag} {H : Hp} {n : Nat} {v : V} {xs : List PtV} {st ns : List Int}
theorem rint_map : ∀ {vs : List V} {ns : List Int}, Paired (Rint H) vs ns → vs = ns.map V.int
  | _, _, .nil => rfl
  | _, _, .cons a r => by rw [a, rint_map r]; rfl
theorem rint_of : ∀ (ns : List Int), Paired (Rint H) (ns.map V.int) ns
  | [] => .nil
  | _ :: r => .cons rfl (rint_of r)
theorem row_of (h : TL K Rint ns H v) (hl : ns.length ≤ 900) : PtAt K H v (.row ns) := by
  obtain ⟨p, vs, e, h, hp⟩ := h
  rw [rint_map hp] at h
  exact ⟨p, e, h, hl⟩
theorem of_row (h : PtAt K H v (.row ns)) : TL K Rint ns H v := by
  obtain ⟨p, e, h, hl⟩ := h
  exact ⟨p, _, e, h, rint_of ns⟩
/-- how many functions a tree's parts hold -/
def many (xs : List PtV) : Nat := (heldI xs).length
theorem many_app (xs ys : List PtV) : many (xs ++ ys) = many xs + many ys := by
  unfold many heldI
  rw [List.map_append, List.flatten_append, List.length_append]
theorem many_one (ns : List Int) : many [.row ns] = ns.length := by
  unfold many heldI
  show (List.flatten [ns]).length = _
  rw [List.flatten_cons, List.flatten_nil, List.append_nil]
theorem many_at {k : Nat} {x : PtV} (h : xs[k]? = some x) : many xs = many (xs.take k) + x.ns.length + many (xs.drop (k + 1)) := by
  obtain ⟨hk, e⟩ := List.getElem?_eq_some_iff.mp h
  have e2 : xs = xs.take k ++ [x] ++ xs.drop (k + 1) := by
    rw [List.append_assoc, List.singleton_append, ← e, List.getElem_cons_drop, List.take_append_drop]
  have e3 : many [x] = x.ns.length := by
    unfold many heldI
    show (List.flatten [x.ns]).length = _
    rw [List.flatten_cons, List.flatten_nil, List.append_nil]
  conv => lhs; rw [e2]
  rw [many_app, many_app, e3]
theorem many_rev (xs : List PtV) : many xs.reverse = many xs := by
  induction xs with
  | nil => rfl
  | cons x r ih =>
    rw [List.reverse_cons, many_app, ih, show x :: r = [x] ++ r from rfl, many_app]
    omega
theorem partsB_many (h : many xs ≠ n) : partsB n xs = false := by
  unfold partsB
  have e : decide ((heldI xs).Perm ((List.range n).map fun (k : Nat) => (k : Int))) = false := decide_eq_false fun z => h (by
    have := z.length_eq
    rw [List.length_map, List.length_range] at this
    exact this)
  rw [e, Bool.and_false, Bool.and_false]
theorem partsB_part {x : PtV} (hx : x ∈ xs) (e : partB n x = false) : partsB n xs = false := by
  unfold partsB
  have e : xs.all (partB n) = false := by
    rw [Bool.eq_false_iff]
    intro z
    rw [List.all_eq_true.mp z x hx] at e
    cases e
  rw [e, Bool.false_and]
theorem standB_len {m : Nat} (h : st.length ≠ m) : standB m st = false := by
  unfold standB
  rw [decide_eq_false h, Bool.false_and]
theorem standB_at {m : Nat} {z : Int} (hz : z ∈ st) (h : ¬ (-1 ≤ z ∧ z ≤ (m : Int) - 1)) : standB m st = false := by
  unfold standB
  have e : (st.all fun z => decide (-1 ≤ z ∧ z ≤ (m : Int) - 1)) = false := by
    rw [Bool.eq_false_iff]
    intro q
    exact h (of_decide_eq_true (List.all_eq_true.mp q z hz))
  rw [e, Bool.false_and, Bool.and_false]
theorem standB_end {m i : Nat} (hi : i < m) (h : endI st m (i : Int) ≠ -1) : standB m st = false := by
  unfold standB
  have e : ((List.range m).all fun i => decide (endI st m (i : Int) = -1)) = false := by
    rw [Bool.eq_false_iff]
    intro q
    exact h (of_decide_eq_true (List.all_eq_true.mp q i (List.mem_range.mpr hi)))
  rw [e, Bool.and_false, Bool.and_false]
theorem endI_self {k : Nat} (h : st[k]? = some (k : Int)) : ∀ m, endI st m (k : Int) = (k : Int)
  | 0 => rfl
  | m + 1 => by
    show downI st (endI st m (k : Int)) = _
    rw [endI_self h m]
    unfold downI
    rw [if_neg (by omega), Int.toNat_natCast, h]
    rfl
theorem endI_ring (h0 : st[0]? = some 1) (h1 : st[1]? = some 0) : ∀ m, endI st m 0 = 0 ∨ endI st m 0 = 1
  | 0 => .inl rfl
  | m + 1 => by
    show downI st (endI st m 0) = 0 ∨ downI st (endI st m 0) = 1
    unfold downI
    rcases endI_ring h0 h1 m with e | e
    · rw [e, if_neg (by decide)]
      right
      show (st[0]?).getD 0 = 1
      rw [h0]
      rfl
    · rw [e, if_neg (by decide)]
      left
      show (st[1]?).getD 0 = 0
      rw [h1]
      rfl
theorem tv_two (h : TupA [TL K (PtAt K) xs, TL K Rint st] H v) (e : partsB n xs = false ∨ standB xs.length st = false) (h1 : xs.length ≤ 40) (h2 : many xs ≤ 60) (h3 : st.length ≤ 40) : TvAt K H n v false := by
  obtain ⟨p, x, y, rfl, h, hx, hy⟩ := tupA2 h
  obtain ⟨a, vs, rfl, ha, hp⟩ := hx
  obtain ⟨b, us, rfl, hb, hp2⟩ := hy
  rw [rint_map hp2] at hb
  have z := TvAt.two (n := n) (.inl h) ha hp (by rw [Paired.length hp]; exact h1) h2 hb h3
  have e2 : (partsB n xs && standB xs.length st) = false := by
    rcases e with e | e
    · rw [e, Bool.false_and]
    · rw [e, Bool.and_false]
  rw [e2] at z
  exact z
theorem cl_tv {b : Bool} : ClV (fun H v => TvAt K H n v b) := fun _ _ _ s h => h.keep (Keep.same s)
end
/-- what is said of a tree's parts and stands -/
structure TF (n : Nat) (ps : List (List Nat)) (st : List Int) : Prop where
  n1 : 1 ≤ n
  n8 : n ≤ 8
  m1 : 1 ≤ ps.length
  m8 : ps.length ≤ 8
  ln : st.length = ps.length
  mn : many (ptOf ps) = n
  p1 : ∀ p ∈ ps, 1 ≤ p.length ∧ p.length ≤ 8
theorem ptOf_held (ps : List (List Nat)) : heldI (ptOf ps) = ps.flatten.map fun (k : Nat) => (k : Int) := by
  unfold heldI ptOf
  rw [List.map_map, List.map_flatten]
  rfl
theorem flat_lens : ∀ {ps : List (List Nat)}, (∀ p ∈ ps, p ≠ []) → ps.length ≤ ps.flatten.length ∧ ∀ p ∈ ps, p.length ≤ ps.flatten.length
  | [], _ => ⟨Nat.le_refl _, fun _ z => nomatch z⟩
  | p :: ps, h => by
    obtain ⟨i1, i2⟩ := flat_lens (ps := ps) fun q hq => h q (List.mem_cons_of_mem _ hq)
    have h1 := List.length_pos_iff.mpr (h p List.mem_cons_self)
    rw [List.flatten_cons, List.length_append, List.length_cons]
    refine ⟨by omega, fun q hq => ?_⟩
    rcases List.mem_cons.mp hq with e | e
    · rw [e]; omega
    · have := i2 q e
      omega
theorem TrOk.tf {n : Nat} {ps : List (List Nat)} {st : List Int} (h : TrOk n ps st) (n1 : 1 ≤ n) (n8 : n ≤ 8) : TF n ps st := by
  have hf := h.p.perm.length_eq
  rw [List.length_range] at hf
  obtain ⟨f1, f2⟩ := flat_lens h.p.ne
  refine ⟨n1, n8, ?_, by omega, h.len, ?_, fun p hp => ⟨List.length_pos_iff.mpr (h.p.ne p hp), Nat.le_trans (f2 p hp) (by omega)⟩⟩
  · rcases Nat.eq_zero_or_pos ps.length with z | z
    · rw [List.length_eq_zero_iff.mp z] at hf
      have : (0 : Nat) = n := hf
      omega
    · exact z
  · unfold many
    rw [ptOf_held, List.length_map, hf]
end Ov
/-! ### the sixteen trees that are none (k03) -/
namespace Ov
open PySem PySem.Spec PyProof.Rows L2
abbrev TO (K : PySem.W.Frag) (pa sa : Addr) (xs : List PtV) (st : List Int) : Hp → Prop := fun H => TL K (PtAt K) xs H (.ref pa) ∧ TL K Rint st H (.ref sa)
theorem cl_to {K : PySem.W.Frag} {pa sa : Addr} {xs : List PtV} {st : List Int} : ClP (TO K pa sa xs st) := fun _ _ s h => ⟨cl_tl cl_pt _ _ _ s h.1, cl_tl cl_rint _ _ _ s h.2⟩
theorem TO.keep {K : PySem.W.Frag} {H H' : Hp} {pa sa : Addr} {xs : List PtV} {st : List Int} (k : Keep H H') (h : TO K pa sa xs st H) : TO K pa sa xs st H' := by
  obtain ⟨⟨p, vs, e, h1, h2⟩, ⟨q, us, e', h3, h4⟩⟩ := h
  exact ⟨⟨p, vs, e, h1.keep k, L2.Paired.mapP h2 fun _ _ z => z.keep k⟩, ⟨q, us, e', h3.keep k, h4⟩⟩
abbrev tPlus1 : TE := tOp (rI0 fun i j => V.int (i + j)) (tVar 6) (tC (V.int 1))
abbrev tTo (K : PySem.W.Frag) (i : Nat) : TE := tSl (rSlA K) (tVar i) tNoPart (tPart (tVar 6))
abbrev tFr (K : PySem.W.Frag) (i : Nat) : TE := tSl (rSlA K) (tVar i) (tPart tPlus1) tNoPart
abbrev tPut (K : PySem.W.Frag) (i : Nat) (t : TE) : TE := tOp (rCatA K) (tOp (rCatA K) (tTo K i) (tTup (tCons t tNil))) (tFr K i)
abbrev tTwo (a b : TE) : TE := tTup (tCons a (tCons b tNil))
section
variable {K : PySem.W.Frag} {σ : L2.St} {pa sa : Addr} {n k f : Nat} {ps : List (List Nat)} {xs ys : List PtV} {st zs ns : List Int} {pk : List Nat} {ta tb te : TE} {z : Int}
theorem ev_two (ha : EvS σ (TO K pa sa xs st) ta (TL K (PtAt K) ys)) (hb : EvS σ (TO K pa sa xs st) tb (TL K Rint zs)) (e : partsB n ys = false ∨ standB ys.length zs = false) (h1 : ys.length ≤ 40) (h2 : many ys ≤ 60) (h3 : zs.length ≤ 40) :
    EvS σ (TO K pa sa xs st) (tTwo ta tb) (fun H v => TvAt K H n v false) :=
  (evs_tup (eva_cons cl_to ha (eva_cons cl_to hb eva_nil))).imp cl_tv fun h => tv_two h e h1 h2 h3
theorem ev_ps (e : σ[3]? = some (some (.ref pa))) : EvS σ (TO K pa sa xs st) (tVar 3) (TL K (PtAt K) xs) := ⟨fun H Q p q => ⟨_, e, q H _ (Same.refl H) p.1⟩, cl_tl cl_pt⟩
theorem ev_st (e : σ[4]? = some (some (.ref sa))) : EvS σ (TO K pa sa xs st) (tVar 4) (TL K Rint st) := ⟨fun H Q p q => ⟨_, e, q H _ (Same.refl H) p.2⟩, cl_tl cl_rint⟩
theorem hk6 (e : σ[6]? = some (some (.int (k : Int)))) : ∀ (H : Hp) (Q : VK), Q (.int (k : Int)) H → tVar 6 σ H Q := fun H Q q => ⟨_, e, q⟩
theorem hk61 (e : σ[6]? = some (some (.int (k : Int)))) : ∀ (H : Hp) (Q : VK), Q (.int ((k + 1 : Nat) : Int)) H → tPlus1 σ H Q := fun H Q q => ⟨_, e, _, _, rfl, rfl, q⟩
theorem ev_put {α : Type} {R : Hp → V → α → Prop} {l : List α} {x : α} {i : Nat} (hR : ClR R) (e6 : σ[6]? = some (some (.int (k : Int)))) (hl : EvS σ (TO K pa sa xs st) (tVar i) (TL K R l)) (hx : EvS σ (TO K pa sa xs st) te (fun H v => R H v x)) (hk : k < l.length) (h8 : l.length ≤ 900) :
    EvS σ (TO K pa sa xs st) (tPut K i te) (TL K R (l.set k x)) := by
  have z := evs_cat hR cl_to (evs_cat hR cl_to (evs_take hR hl (hk6 e6) (by omega)) (evs_oneT hR cl_to hx) (by rw [List.length_take]; show _ + 1 ≤ 1000; omega)) (evs_drop hR hl (hk61 e6) hk) (by rw [List.length_append, List.length_take, List.length_drop]; show _ + 1 + _ ≤ 1000; omega)
  rw [cut_set hk] at z
  exact z
theorem pt_len : (ptOf ps).length = ps.length := by unfold ptOf; rw [List.length_map]
theorem pt_at (h : ps[k]? = some pk) : (ptOf ps)[k]? = some (.row (pk.map fun (k : Nat) => (k : Int))) := by unfold ptOf; rw [List.getElem?_map, h]; rfl
/-- a part's functions are not as many -/
theorem many_set {x : PtV} (hx : xs[k]? = some x) (y : PtV) : many (xs.set k y) + x.ns.length = many xs + y.ns.length := by
  obtain ⟨hk, _⟩ := List.getElem?_eq_some_iff.mp hx
  have h1 := many_at hx
  have h2 := many_at (xs := xs.set k y) (k := k) (x := y) (List.getElem?_set_self hk)
  have e1 : (xs.set k y).take k = xs.take k := by rw [List.take_set_of_le (Nat.le_refl k)]
  have e2 : (xs.set k y).drop (k + 1) = xs.drop (k + 1) := by rw [List.drop_set_of_lt (Nat.lt_succ_self k)]
  rw [e1, e2] at h2
  omega
theorem ev_row (e3 : σ[3]? = some (some (.ref pa))) {tk : TE} (hk : ∀ (H : Hp) (Q : VK), Q (.int (k : Int)) H → tk σ H Q) (hp : ps[k]? = some pk) : EvS σ (TO K pa sa (ptOf ps) st) (tOp (rIxT K) (tVar 3) tk) (TL K Rint (pk.map fun (k : Nat) => (k : Int))) :=
  (evs_at cl_pt (ev_ps e3) hk (pt_at hp)).imp (cl_tl cl_rint) of_row
theorem ev_asrow (h : EvS σ (TO K pa sa xs st) te (TL K Rint ns)) (hl : ns.length ≤ 900) : EvS σ (TO K pa sa xs st) te (fun H v => PtAt K H v (.row ns)) := h.imp (fun _ _ _ s z => cl_pt _ _ _ _ s z) fun z => row_of z hl
/-- a part is put, of another length by one -/
theorem ev_put1 (F : TF n ps st) (e3 : σ[3]? = some (some (.ref pa))) (e4 : σ[4]? = some (some (.ref sa))) (e6 : σ[6]? = some (some (.int (k : Int)))) (hp : ps[k]? = some pk) (h : EvS σ (TO K pa sa (ptOf ps) st) te (TL K Rint ns)) (hl : ns.length = pk.length + 1) :
    EvS σ (TO K pa sa (ptOf ps) st) (tTwo (tPut K 3 te) (tVar 4)) (fun H v => TvAt K H n v false) := by
  have hk := (List.getElem?_eq_some_iff.mp hp).1
  have p8 := (F.p1 pk (List.mem_of_getElem? hp)).2
  have m8 := F.m8
  have n8 := F.n8
  have ln := F.ln
  have mm := many_set (pt_at hp) (.row ns)
  have mn := F.mn
  have e1 : (PtV.row (pk.map fun (k : Nat) => (k : Int))).ns.length = pk.length := List.length_map ..
  have e2 : (PtV.row ns).ns.length = ns.length := rfl
  rw [e1, e2] at mm
  refine ev_two (ev_put cl_pt e6 (ev_ps e3) (ev_asrow h (by omega)) (by rw [pt_len]; exact hk) (by rw [pt_len]; omega)) (ev_st e4) (.inl (partsB_many (by omega))) (by rw [List.length_set, pt_len]; omega) (by omega) (by omega)
/-- on what a part stands is put -/
theorem ev_putS (F : TF n ps st) (e3 : σ[3]? = some (some (.ref pa))) (e4 : σ[4]? = some (some (.ref sa))) (e6 : σ[6]? = some (some (.int (k : Int)))) (hk : k < ps.length) (h : EvS σ (TO K pa sa (ptOf ps) st) te (fun _ v => v = .int z)) (hl : z = (k : Int) ∨ ¬ (-1 ≤ z ∧ z ≤ (ps.length : Int) - 1)) :
    EvS σ (TO K pa sa (ptOf ps) st) (tTwo (tVar 3) (tPut K 4 te)) (fun H v => TvAt K H n v false) := by
  have m8 := F.m8
  have ln := F.ln
  have mn := F.mn
  have n8 := F.n8
  refine ev_two (ev_ps e3) (ev_put cl_rint e6 (ev_st e4) h (by omega) (by omega)) (.inr ?_) (by rw [pt_len]; omega) (by omega) (by rw [List.length_set]; omega)
  have es : (st.set k z)[k]? = some z := List.getElem?_set_self (by omega)
  rw [pt_len]
  rcases hl with rfl | hl
  · exact standB_end hk (by rw [endI_self es]; omega)
  · exact standB_at (List.mem_of_getElem? es) hl
theorem ones : ∀ {H : Hp} {vs : List V} {ns : List Int}, Paired (Rint H) vs ns → Paired (PtAt K H) vs (ns.map PtV.one)
  | _, _, _, .nil => .nil
  | _, _, _, .cons a r => .cons a (ones r)
theorem many_ones : ∀ {ns : List Int}, many (ns.map PtV.one) = 0
  | [] => rfl
  | n :: r => by
    have z := many_app [PtV.one n] (r.map PtV.one)
    rw [many_ones] at z
    exact z
end
section
variable {K : PySem.W.Frag} {σ : L2.St} {pa sa : Addr} {n k f : Nat} {ps : List (List Nat)} {st : List Int} {pk p0 : List Nat}
/-- the first six -/
theorem ev_t6 (F : TF n ps st) (e3 : σ[3]? = some (some (.ref pa))) (e4 : σ[4]? = some (some (.ref sa))) :
    EvA σ (TO K pa sa (ptOf ps) st) (tCons (tTup tNil) (tCons (tTup (tCons (tVar 3) tNil)) (tCons (tTup (tCons (tVar 3) (tCons (tVar 4) (tCons (tVar 4) tNil))))
      (tCons (tTwo (tVar 3) (tSl (rSlA K) (tVar 4) tNoPart (tPart tM1))) (tCons (tTwo (tVar 3) (tOp (rCatA K) (tVar 4) (tTup (tCons tM1 tNil)))) (tCons (tTwo (tTup tNil) (tTup tNil)) tNil)))))) (List.replicate 6 fun H v => TvAt K H n v false) := by
  have c : ClP (TO K pa sa (ptOf ps) st) := cl_to
  have P := ev_ps (K := K) (sa := sa) (xs := ptOf ps) (st := st) e3
  have S := ev_st (K := K) (pa := pa) (xs := ptOf ps) (st := st) e4
  have m8 := F.m8
  have m1 := F.m1
  have ln := F.ln
  have mn := F.mn
  have n8 := F.n8
  have n1 := F.n1
  refine eva_cons c ((evs_tup eva_nil).imp cl_tv fun {H v} h => ?_) ?_
  · obtain ⟨p, vs, rfl, h, a⟩ := h
    exact .len (.inl h) (by rw [Paired.length a]; exact fun z => nomatch z) (by rw [Paired.length a]; exact Nat.le_of_ble_eq_true rfl)
  refine eva_cons c ((evs_tup (eva_cons c P eva_nil)).imp cl_tv fun {H v} h => ?_) ?_
  · obtain ⟨p, vs, rfl, h, a⟩ := h
    exact .len (.inl h) (by rw [Paired.length a]; exact fun z => nomatch z) (by rw [Paired.length a]; exact Nat.le_of_ble_eq_true rfl)
  refine eva_cons c ((evs_tup (eva_cons c P (eva_cons c S (eva_cons c S eva_nil)))).imp cl_tv fun {H v} h => ?_) ?_
  · obtain ⟨p, vs, rfl, h, a⟩ := h
    exact .len (.inl h) (by rw [Paired.length a]; exact fun z => nomatch z) (by rw [Paired.length a]; exact Nat.le_of_ble_eq_true rfl)
  refine eva_cons c (ev_two P (evs_init cl_rint S) (.inr (standB_len (by rw [List.length_take, pt_len]; omega))) (by rw [pt_len]; omega) (by omega) (by rw [List.length_take]; omega)) ?_
  refine eva_cons c (ev_two P (evs_cat cl_rint c S (evs_oneT cl_rint c (evs_neg (i := 1))) (by show _ + 1 ≤ 1000; omega)) (.inr (standB_len (by rw [List.length_append, pt_len]; show _ + 1 ≠ _; omega))) (by rw [pt_len]; omega) (by omega) (by rw [List.length_append]; show _ + 1 ≤ _; omega)) ?_
  refine eva_cons c (ev_two (evs_nilT cl_pt) (evs_nilT cl_rint) (.inl (partsB_many (by show 0 ≠ n; omega))) (Nat.zero_le _) (Nat.zero_le _) (Nat.zero_le _)) eva_nil
/-- an empty part -/
theorem ev_t7 (F : TF n ps st) (e3 : σ[3]? = some (some (.ref pa))) (e4 : σ[4]? = some (some (.ref sa))) (e6 : σ[6]? = some (some (.int (k : Int)))) (hk : k < ps.length) :
    EvS σ (TO K pa sa (ptOf ps) st) (tTwo (tOp (rCatA K) (tOp (rCatA K) (tTo K 3) (tTup (tCons (tTup tNil) tNil))) (tSl (rSlA K) (tVar 3) (tPart (tVar 6)) tNoPart)) (tOp (rCatA K) (tVar 4) (tTup (tCons tM1 tNil)))) (fun H v => TvAt K H n v false) := by
  have c : ClP (TO K pa sa (ptOf ps) st) := cl_to
  have P := ev_ps (K := K) (sa := sa) (xs := ptOf ps) (st := st) e3
  have S := ev_st (K := K) (pa := pa) (xs := ptOf ps) (st := st) e4
  have m8 := F.m8
  have ln := F.ln
  have mn := F.mn
  have n8 := F.n8
  have pl : (ptOf ps).length = ps.length := pt_len
  have mt : many ((ptOf ps).take k) + many ((ptOf ps).drop k) = n := by rw [← many_app, List.take_append_drop]; exact mn
  have m0 : many [PtV.row []] = 0 := rfl
  refine ev_two (evs_cat cl_pt c (evs_cat cl_pt c (evs_take cl_pt P (hk6 e6) (by omega)) (evs_oneT cl_pt c (ev_asrow (evs_nilT cl_rint) (Nat.zero_le _))) (by rw [List.length_take]; show _ + 1 ≤ 1000; omega)) (evs_drop cl_pt P (hk6 e6) (by omega)) (by rw [List.length_append, List.length_take, List.length_drop]; show _ + 1 + _ ≤ 1000; omega))
    (evs_cat cl_rint c S (evs_oneT cl_rint c (evs_neg (i := 1))) (by show _ + 1 ≤ 1000; omega)) (.inl (partsB_part (x := .row []) (by simp) rfl)) (by rw [List.length_append, List.length_append, List.length_take, List.length_drop]; show _ + 1 + _ ≤ 40; omega) (by rw [many_app, many_app, m0]; omega) (by rw [List.length_append]; show _ + 1 ≤ _; omega)
/-- a part is left out -/
theorem ev_t8 (F : TF n ps st) (e3 : σ[3]? = some (some (.ref pa))) (e4 : σ[4]? = some (some (.ref sa))) (e6 : σ[6]? = some (some (.int (k : Int)))) (hp : ps[k]? = some pk) :
    EvS σ (TO K pa sa (ptOf ps) st) (tTwo (tOp (rCatA K) (tTo K 3) (tFr K 3)) (tSl (rSlA K) (tVar 4) tNoPart (tPart tM1))) (fun H v => TvAt K H n v false) := by
  have c : ClP (TO K pa sa (ptOf ps) st) := cl_to
  have P := ev_ps (K := K) (sa := sa) (xs := ptOf ps) (st := st) e3
  have S := ev_st (K := K) (pa := pa) (xs := ptOf ps) (st := st) e4
  have hk := (List.getElem?_eq_some_iff.mp hp).1
  have m8 := F.m8
  have ln := F.ln
  have mn := F.mn
  have n8 := F.n8
  have p1 := (F.p1 pk (List.mem_of_getElem? hp)).1
  have pl : (ptOf ps).length = ps.length := pt_len
  have mt := many_at (pt_at hp)
  have e1 : (PtV.row (pk.map fun (k : Nat) => (k : Int))).ns.length = pk.length := List.length_map ..
  rw [e1] at mt
  refine ev_two (evs_cat cl_pt c (evs_take cl_pt P (hk6 e6) (by omega)) (evs_drop cl_pt P (hk61 e6) (by omega)) (by rw [List.length_take, List.length_drop]; omega)) (evs_init cl_rint S)
    (.inl (partsB_many (by rw [many_app]; omega))) (by rw [List.length_append, List.length_take, List.length_drop]; omega) (by rw [many_app]; omega) (by rw [List.length_take]; omega)
/-- a function that there isn't -/
theorem ev_t9 (F : TF n ps st) (e1 : σ[1]? = some (some (.int (n : Int)))) (e3 : σ[3]? = some (some (.ref pa))) (e4 : σ[4]? = some (some (.ref sa))) (e5 : σ[5]? = some (some (.int (f : Int)))) (e6 : σ[6]? = some (some (.int (k : Int)))) (hp : ps[k]? = some pk) :
    EvS σ (TO K pa sa (ptOf ps) st) (tTwo (tPut K 3 (tOp (rCatA K) (tOp (rIxT K) (tVar 3) (tVar 6)) (tTup (tCons (tOp (rI0 fun i j => V.int (i + j)) (tVar 1) (tVar 5)) tNil)))) (tVar 4)) (fun H v => TvAt K H n v false) := by
  have p8 := (F.p1 pk (List.mem_of_getElem? hp)).2
  exact ev_put1 F e3 e4 e6 hp (evs_cat cl_rint cl_to (ev_row e3 (hk6 e6) hp) (evs_oneT cl_rint cl_to (evs_int (z := (n : Int) + (f : Int)) fun H Q q => ⟨_, e1, _, e5, _, _, rfl, rfl, q⟩)) (by rw [List.length_map]; show _ + 1 ≤ 1000; omega)) (by rw [List.length_append, List.length_map]; rfl)
/-- .. one that another part has -/
theorem ev_t10 (F : TF n ps st) (e3 : σ[3]? = some (some (.ref pa))) (e4 : σ[4]? = some (some (.ref sa))) (e6 : σ[6]? = some (some (.int (k : Int)))) (hp : ps[k]? = some pk) (h0 : ps[0]? = some p0) :
    EvS σ (TO K pa sa (ptOf ps) st) (tTwo (tPut K 3 (tOp (rCatA K) (tOp (rIxT K) (tVar 3) (tVar 6)) (tSl (rSlA K) (tOp (rIxT K) (tVar 3) (tC (V.int 0))) tNoPart (tPart (tC (V.int 1)))))) (tVar 4)) (fun H v => TvAt K H n v false) := by
  have p8 := (F.p1 pk (List.mem_of_getElem? hp)).2
  have q1 := (F.p1 p0 (List.mem_of_getElem? h0)).1
  have r0 := ev_row (K := K) (sa := sa) (st := st) (σ := σ) (k := 0) (tk := tC (V.int 0)) e3 (fun H Q q => q) h0
  exact ev_put1 F e3 e4 e6 hp (evs_cat cl_rint cl_to (ev_row e3 (hk6 e6) hp) (evs_take (k := 1) cl_rint r0 (fun H Q q => q) (by rw [List.length_map]; exact q1)) (by rw [List.length_map, List.length_take]; omega)) (by rw [List.length_append, List.length_take, List.length_map, List.length_map]; omega)
/-- .. that do not rise -/
theorem ev_t11 (F : TF n ps st) (e3 : σ[3]? = some (some (.ref pa))) (e4 : σ[4]? = some (some (.ref sa))) (e6 : σ[6]? = some (some (.int (k : Int)))) (hp : ps[k]? = some pk) :
    EvS σ (TO K pa sa (ptOf ps) st) (tTwo (tPut K 3 (tOp (rCatA K) (tRevT K (tOp (rIxT K) (tVar 3) (tVar 6))) (tTup (tCons (tC (V.int 0)) tNil)))) (tVar 4)) (fun H v => TvAt K H n v false) := by
  have p8 := (F.p1 pk (List.mem_of_getElem? hp)).2
  exact ev_put1 F e3 e4 e6 hp (evs_cat cl_rint cl_to (evs_rev cl_rint (ev_row e3 (hk6 e6) hp)) (evs_oneT cl_rint cl_to evs_c) (by rw [List.length_reverse, List.length_map]; show _ + 1 ≤ 1000; omega)) (by rw [List.length_append, List.length_reverse, List.length_map]; rfl)
theorem ev_t12 (F : TF n ps st) (e3 : σ[3]? = some (some (.ref pa))) (e4 : σ[4]? = some (some (.ref sa))) (e6 : σ[6]? = some (some (.int (k : Int)))) (hk : k < ps.length) :
    EvS σ (TO K pa sa (ptOf ps) st) (tTwo (tVar 3) (tPut K 4 (tVar 6))) (fun H v => TvAt K H n v false) := ev_putS F e3 e4 e6 hk (evs_var e6) (.inl rfl)
theorem ev_t13 (F : TF n ps st) (e3 : σ[3]? = some (some (.ref pa))) (e4 : σ[4]? = some (some (.ref sa))) (e5 : σ[5]? = some (some (.int (f : Int)))) (e6 : σ[6]? = some (some (.int (k : Int)))) (hk : k < ps.length) :
    EvS σ (TO K pa sa (ptOf ps) st) (tTwo (tVar 3) (tPut K 4 (tOp (rI0 fun i j => V.int (i + j)) (tCB (Evl.rLenS K) (tCons (tVar 3) tNil)) (tVar 5)))) (fun H v => TvAt K H n v false) := by
  refine ev_putS (z := (ps.length : Int) + (f : Int)) F e3 e4 e6 hk ⟨fun H Q p q => ?_, fun _ _ _ _ h => h⟩ (.inr (by omega))
  obtain ⟨a, vs, e, ha, hp⟩ := p.1
  cases e
  have hl := Paired.length hp
  rw [pt_len] at hl
  exact ⟨_, e3, pa, _, rfl, .inr ha.sq, _, e5, _, _, rfl, rfl, by rw [hl]; exact q H _ (Same.refl H) rfl⟩
theorem ev_t14 (F : TF n ps st) (e3 : σ[3]? = some (some (.ref pa))) (e4 : σ[4]? = some (some (.ref sa))) (e5 : σ[5]? = some (some (.int (f : Int)))) (e6 : σ[6]? = some (some (.int (k : Int)))) (hk : k < ps.length) :
    EvS σ (TO K pa sa (ptOf ps) st) (tTwo (tVar 3) (tPut K 4 (tOp (rI0 fun i j => V.int (i - j)) (tUn (rU fun i => V.int (-i)) (tC (V.int 2))) (tVar 5)))) (fun H v => TvAt K H n v false) :=
  ev_putS (z := -2 - (f : Int)) F e3 e4 e6 hk ⟨fun H Q p q => ⟨2, rfl, _, e5, _, _, rfl, rfl, q H _ (Same.refl H) rfl⟩, fun _ _ _ _ h => h⟩ (.inr (by omega))
theorem ev_t15 (F : TF n ps st) (e3 : σ[3]? = some (some (.ref pa))) (e4 : σ[4]? = some (some (.ref sa))) :
    EvS σ (TO K pa sa (ptOf ps) st) (tTwo (tOp (rCatA K) (tRevT K (tVar 3)) (tTup (tCons (tTup (tCons (tC (V.int 0)) tNil)) tNil))) (tOp (rCatA K) (tVar 4) (tTup (tCons tM1 tNil)))) (fun H v => TvAt K H n v false) := by
  have c : ClP (TO K pa sa (ptOf ps) st) := cl_to
  have P := ev_ps (K := K) (sa := sa) (xs := ptOf ps) (st := st) e3
  have S := ev_st (K := K) (pa := pa) (xs := ptOf ps) (st := st) e4
  have m8 := F.m8
  have ln := F.ln
  have mn := F.mn
  have n8 := F.n8
  have pl : (ptOf ps).length = ps.length := pt_len
  have m1 : many [PtV.row [0]] = 1 := rfl
  refine ev_two (evs_cat cl_pt c (evs_rev cl_pt P) (evs_oneT cl_pt c (ev_asrow (evs_oneT cl_rint c (evs_c (v := V.int 0))) (Nat.le_of_ble_eq_true rfl))) (by rw [List.length_reverse]; show _ + 1 ≤ 1000; omega))
    (evs_cat cl_rint c S (evs_oneT cl_rint c (evs_neg (i := 1))) (by show _ + 1 ≤ 1000; omega)) (.inl (partsB_many (by rw [many_app, many_rev, m1]; omega))) (by rw [List.length_append, List.length_reverse]; show _ + 1 ≤ 40; omega) (by rw [many_app, many_rev, m1]; omega) (by rw [List.length_append]; show _ + 1 ≤ _; omega)
theorem ev_t16 (F : TF n ps st) (e3 : σ[3]? = some (some (.ref pa))) (e4 : σ[4]? = some (some (.ref sa))) (h0 : ps[0]? = some p0) :
    EvS σ (TO K pa sa (ptOf ps) st) (tTwo (tOp (rIxT K) (tVar 3) (tC (V.int 0))) (tVar 4)) (fun H v => TvAt K H n v false) := by
  have r0 := ev_row (K := K) (sa := sa) (st := st) (σ := σ) (k := 0) (tk := tC (V.int 0)) e3 (fun H Q q => q) h0
  obtain ⟨q1, q8⟩ := F.p1 p0 (List.mem_of_getElem? h0)
  have m8 := F.m8
  have ln := F.ln
  have r1 : EvS σ (TO K pa sa (ptOf ps) st) (tOp (rIxT K) (tVar 3) (tC (V.int 0))) (TL K (PtAt K) ((p0.map fun (k : Nat) => (k : Int)).map PtV.one)) := r0.imp (cl_tl cl_pt) fun {H v} ⟨p, vs, e, h, hp⟩ => ⟨p, vs, e, h, ones hp⟩
  refine ev_two r1 (ev_st e4) (.inl ?_) (by rw [List.length_map, List.length_map]; omega) (by rw [many_ones]; omega) (by omega)
  cases p0 with
  | nil => cases q1
  | cons x r => exact partsB_part (x := .one (x : Int)) (List.mem_cons_self) rfl
end
end Ov
/-! ### a list of trees that are none grows (k03) -/
namespace Ov
open PySem PySem.Spec PyProof.Rows L2
structure OdAt (K : PySem.W.Frag) (h c pa sa : Addr) (ps : List (List Nat)) (st : List Int) (n : Nat) (l : Addr) (H0 : Hp) (m : Nat) (H : Hp) : Prop where
  e : ∃ vs, H l = some (.lst vs) ∧ vs.length = m ∧ ∀ v ∈ vs, TvAt K H n v false
  pre : TO K pa sa (ptOf ps) st H
  b : But h c H0 H
  d : Dr H h c
  nl : H0 l = none
  nh : l ≠ h ∧ l ≠ c
section
variable {K : PySem.W.Frag} {h c pa sa l : Addr} {ps : List (List Nat)} {st : List Int} {n m i : Nat} {H0 H : Hp} {σ : L2.St} {te : TE}
theorem OdAt.put {H' : Hp} {v : V} (O : OdAt K h c pa sa ps st n l H0 m H) (s : Same H H') (hv : TvAt K H' n v false) : ∃ vs, H' l = some (.lst vs) ∧ vs.length = m ∧ OdAt K h c pa sa ps st n l H0 (m + 1) (upd H' l (.lst (vs ++ [v]))) := by
  obtain ⟨vs, e, hl, hvs⟩ := O.e
  have e' := s _ _ e
  have k : Keep H' (upd H' l (.lst (vs ++ [v]))) := Keep.updL e'
  refine ⟨vs, e', hl, ⟨_, upd_same, by rw [List.length_append, hl]; rfl, fun u hu => ?_⟩, O.pre.keep ((Keep.same s).trans k), (O.b.trans (.same s)).updn O.nl, (O.d.same s).upd O.nh.1 O.nh.2, O.nl, O.nh⟩
  rcases List.mem_append.mp hu with z | z
  · exact (hvs u z).keep ((Keep.same s).trans k)
  · rw [List.mem_singleton.mp z]
    exact hv.keep k
theorem app_step {D : Ends} (E : EvS σ (TO K pa sa (ptOf ps) st) te (fun H v => TvAt K H n v false)) (O : OdAt K h c pa sa ps st n l H0 m H) (e7 : σ[7]? = some (some (.ref l))) (hm : m ≤ 30) (q : ∀ H', OdAt K h c pa sa ps st n l H0 (m + 1) H' → D.nx σ H') :
    tDrop (tBM K "list" rAppend (tVar 7) (tCons te tNil)) D σ H := by
  obtain ⟨vs, e, hl, _⟩ := O.e
  refine ⟨_, e7, .inl ⟨rfl, _, SqL.of e⟩, E.run H _ O.pre fun H1 v s1 hv => ?_⟩
  obtain ⟨us, e1, hl1, O1⟩ := O.put s1 hv
  exact ⟨l, us, v, rfl, rfl, e1, by have := sm (us.length + 1) (by omega); omega, q _ O1⟩
end
def spOddT (K : PySem.W.Frag) : Sp := fun vs H Q _ => ∃ (h c : Addr) (n : Nat) (t : V) (ps : List (List Nat)) (st : List Int), vs = [.ref h, .int (n : Int), t] ∧ Dr H h c ∧ 1 ≤ n ∧ n ≤ 8 ∧ TrAt H t ps st ∧ TrOk n ps st ∧ ∀ H' v, But h c H H' → Dr H' h c → TvAt K H' n v false → Q v H'
theorem TrAt.to {K : PySem.W.Frag} {H : Hp} {t : V} {ps : List (List Nat)} {st : List Int} {n : Nat} (h : TrAt H t ps st) (F : TF n ps st) : ∃ a pa sa, t = .ref a ∧ H a = some (.tup [.ref pa, .ref sa]) ∧ TO K pa sa (ptOf ps) st H := by
  obtain ⟨a, pa, sa, vs, e, h1, h2, h3, h4⟩ := h
  refine ⟨a, pa, sa, e, h1, ⟨pa, vs, rfl, .inl h2, ?_⟩, ⟨sa, _, rfl, .inl h4, rint_of st⟩⟩
  refine paired_by (by rw [pt_len]; exact Paired.length h3) fun i x y hx hy => ?_
  obtain ⟨p, hp, b, rfl, hb⟩ := Paired.get2 h3 hx
  rw [pt_at hp] at hy
  cases hy
  have := (F.p1 p (List.mem_of_getElem? hp)).2
  refine ⟨b, rfl, .inl ?_, by rw [List.length_map]; omega⟩
  rw [nV_ints] at hb
  exact hb
end Ov
/-! ### what is handed a tree, kept in lambdas (k03) -/
namespace Ov
open PySem PySem.Spec PyProof.Rows L2 LamX
/-- the cells put in: what stood stands -/
theorem putC_stay {H : Hp} {cs : List (Addr × V)} (ne : ∀ b o, H b = some o → cs.lookup b = none) {b : Addr} {o : HO} (e : H b = some o) : putC H cs b = some o := by rw [putC_none (ne b o e)]; exact e
def WorkPre (K : PySem.W.Frag) (v t : V) (H : Hp) (E : XK) : Prop := ∃ pr, PrAt H v pr ∧ PrOk pr ∧ TvAt K H pr.length t false ∧ OutC K "BadTree" H E
/-- f: a kept lambda that is refused with BadTree when v is a program, t no tree of it -/
def WorkAt (P : Program) (w : World) (K : PySem.W.Frag) (mg : Str → Option Value) (base : Heap) (k : Nat) (v t : V) (f : Addr) (H : Hp) : Prop := ∃ (L : KL) (tb : XK → TE), KLAt L f H ∧ LamSE L.scope L.N (L.bd.map Prod.snd) ∧ KLBody P w K mg base k L f tb ∧ ∀ E H' Q, WorkPre K v t H' E → tb E L.σ H' Q
section
variable {P : Program} {w : World} {K : PySem.W.Frag} {mg : Str → Option Value} {base : Heap} {k : Nat} {v t : V} {f : Addr} {H H' : Hp} {as : List Addr}
theorem WorkAt.ext (h : WorkAt P w K mg base k v t f H) (e : ExtN H H') : WorkAt P w K mg base k v t f H' := by
  obtain ⟨L, tb, h1, h2, h3, h4⟩ := h
  exact ⟨L, tb, h1.ext e, h2, h3, h4⟩
theorem keep_rem (c : AreC H as) : Keep H (remC H as) := fun a xs e => by
  rw [remC_out (c.out e fun v z => by unfold CellO at z; cases z)]
  exact e
theorem same_put (s : Same (remC H as) H') : Same H (putL H' H as) := fun b o e => by
  by_cases hb : b ∈ as
  · rw [putL_in hb]
    exact e
  · rw [putL_out hb]
    exact s b o (by rw [remC_out hb]; exact e)
theorem work_kind {pr : List (Int × W)} {Q : VK} {E : XK} (h : WorkAt P w K mg base k v t f H) (hpr : PrAt H v pr) (hok : PrOk pr) (ht : TvAt K H pr.length t false) (q : ∀ H', Same H H' → Q (.str "BadTree") H') : spKept P w K mg base k (TKind K "BadTree") [.ref f] H Q E := by
  obtain ⟨L, tb, h1, h2, h3, h4⟩ := h
  have are : AreC H L.as := fun b hb => by
    obtain ⟨x, hx, rfl⟩ := List.mem_map.mp hb
    exact ⟨_, h1.cs x hx⟩
  have kr := keep_rem are
  refine ⟨L, f, tb, rfl, h2, h3, h1, h1, h4 _ _ _ ⟨pr, hpr.keep kr, hok, ht.keep kr, fun H' s => ⟨rfl, rfl, fun H'' s2 => q _ ((same_put s).trans s2)⟩⟩⟩
end
def spWorks (P : Program) (w : World) (K : PySem.W.Frag) (mg : Str → Option Value) (base : Heap) (k : Nat) (T : List (Addr × Str)) : Sp := fun vs H Q _ => ∃ v t, vs = [v, t] ∧ Tabs T H ∧
  ∀ (H' : Hp) (D : Addr) (fs : List Addr), ExtN H H' → Tabs T H' → H' D = some (.lst (fs.map V.ref)) → fs.length ≤ 8 → (∀ f ∈ fs, WorkAt P w K mg base k v t f H') → Q (.ref D) H'
/-- the free names of a lambda's scope have cells -/
theorem free_by {names : List (Str × NameKind)} {cells : List (Str × Addr)} {xs : List Str} (h : (names.all fun y => !decide (y.2 = .free) || decide (y.1 ∈ xs)) = true) (hx : ∀ x ∈ xs, ∃ c, List.lookup x cells = some c) : ∀ y ∈ names, y.2 = .free → ∃ c, List.lookup y.1 cells = some c := fun y hy e => by
  have z := List.all_eq_true.mp h y hy
  rw [decide_eq_true e, Bool.not_true, Bool.false_or] at z
  exact hx _ (of_decide_eq_true z)
/-- a lambda as it is made, later: its cells put in -/
theorem kl_later {q : Str} {body : Expr} {scope : Scope} {cl : List (Str × Addr)} {c' f c0 c1 : Addr} {bd : Option (Addr × Str)} {n : Int} {x0 x1 : Str} {v0 v1 : V} {H H' : Hp} (hf : H f = some (LamO f q body scope cl c' bd)) (hc : H c' = some (CodeO c' q)) (ht : ∀ t b, bd = some (t, b) → H t = some (.tup [.int n]))
    (x : ExtN H H') (ne : ∀ b o, H' b = some o → List.lookup b [(c0, v0), (c1, v1)] = none) (hcl : cl = [(x0, c0), (x1, c1)]) (h01 : c0 ≠ c1) : KLAt ⟨q, body, scope, [(x0, c0, v0), (x1, c1, v1)], c', bd, n⟩ f (putC H' [(c0, v0), (c1, v1)]) := by
  subst hcl
  refine ⟨putC_stay ne (x _ _ hf fun ps z => by unfold LamO at z; cases z), putC_stay ne (x _ _ hc codeO_ne), fun t b e => putC_stay ne (x _ _ (ht t b e) fun ps y => by cases y), fun y hy => ?_, ?_⟩
  · rcases List.mem_cons.mp hy with rfl | hy
    · exact putC_some (by rw [List.lookup_cons, beq_self_eq_true])
    · rw [List.mem_singleton.mp hy]
      exact putC_some (by rw [List.lookup_cons, beq_eq_false_iff_ne.mpr (Ne.symm h01)]; show List.lookup c1 [(c1, v1)] = _; rw [List.lookup_cons, beq_self_eq_true])
  · exact List.pairwise_cons.mpr ⟨fun a ha => by rw [List.mem_singleton.mp ha]; exact h01, List.pairwise_singleton _ _⟩
theorem tabs_put {T : List (Addr × Str)} {H : Hp} {cs : List (Addr × V)} (t : Tabs T H) (ne : ∀ b o, H b = some o → cs.lookup b = none) : Tabs T (putC H cs) := tabs_keep t fun _ _ e _ => putC_stay ne e
end Ov
namespace Ov
open PySem PySem.Spec PyProof.Rows L2 LamX
/-- a lambda as it is made -/
structure LmAt (f : Addr) (q : Str) (body : Expr) (scope : Scope) (cl : List (Str × Addr)) (c' : Addr) (bd : Option (Addr × Str)) (n : Int) (H : Hp) : Prop where
  f : H f = some (LamO f q body scope cl c' bd)
  c : H c' = some (CodeO c' q)
  t : ∀ t b, bd = some (t, b) → H t = some (.tup [.int n])
section
variable {f : Addr} {q : Str} {body : Expr} {scope : Scope} {cl : List (Str × Addr)} {c' : Addr} {bd : Option (Addr × Str)} {n : Int} {b : Str} {H H' : Hp} {T : List (Addr × Str)} {σ : L2.St} {Q : VK}
theorem LmAt.ext (h : LmAt f q body scope cl c' bd n H) (x : ExtN H H') : LmAt f q body scope cl c' bd n H' :=
  ⟨x _ _ h.f (fun ps z => by unfold LamO at z; cases z), x _ _ h.c codeO_ne, fun t b e => x _ _ (h.t t b e) (fun ps y => by cases y)⟩
theorem ext_new {o : HO} (hn : H f = none) : ExtN H (upd H f o) := ExtN.of fun b o e => by
  rw [upd_ne (ne_of_none e hn)]
  exact e
theorem lamP_by (t : Tabs T H) (h : ∀ f c' H1, ExtN H H1 → Tabs T H1 → LmAt f q body scope cl c' none 0 H1 → Q (.ref f) H1) : tLamP T q body scope cl σ H Q :=
  ⟨t, fun f c' H1 x t1 hc hn => h f c' _ (x.trans (ext_new hn)) (tabs_same t1 (Same.new hn)) ⟨upd_same, ext_new hn _ _ hc codeO_ne, fun _ _ z => nomatch z⟩⟩
theorem lamQ_by (t : Tabs T H) (h : ∀ f c' t H1, ExtN H H1 → Tabs T H1 → LmAt f q body scope cl c' (some (t, b)) n H1 → Q (.ref f) H1) : tLamQ T q body scope cl n b σ H Q :=
  ⟨t, fun f c' t H1 x t1 hc ht hn => h f c' t _ (x.trans (ext_new hn)) (tabs_same t1 (Same.new hn)) ⟨upd_same, ext_new hn _ _ hc codeO_ne, fun t' b' e => by
    cases e
    exact ext_new hn _ _ ht fun ps z => by cases z⟩⟩
theorem LmAt.work {P : Program} {w : World} {K : PySem.W.Frag} {mg : Str → Option Value} {base : Heap} {k : Nat} {v t : V} {x0 x1 : Str} {c0 c1 : Addr} {tb : XK → TE} (h : LmAt f q body scope cl c' bd n H') (ne : ∀ b o, H' b = some o → List.lookup b [(c0, t), (c1, v)] = none) (hcl : cl = [(x0, c0), (x1, c1)]) (h01 : c0 ≠ c1)
    (S : LamSE scope [x0, x1] (bd.map Prod.snd)) (hb : KLBody P w K mg base k ⟨q, body, scope, [(x0, c0, t), (x1, c1, v)], c', bd, n⟩ f tb) (hp : ∀ E H' Q, WorkPre K v t H' E → tb E [some t, some v] H' Q) : WorkAt P w K mg base k v t f (putC H' [(c0, t), (c1, v)]) :=
  ⟨_, tb, kl_later h.f h.c h.t (ExtN.refl _) ne hcl h01, S, hb, hp⟩
end
end Ov
namespace Ov
open PySem PySem.Spec PyProof.Rows L2 LamX
/-- way_down of a function that there isn't -/
def spWayF (K : PySem.W.Frag) : Sp := fun vs H _ E => ∃ (v t : V) (pr : List (Int × W)) (ps : List (List Nat)) (st : List Int) (f : Int), vs = [v, t, .int f] ∧ preT H v t pr ps st ∧ (f < 0 ∨ (pr.length : Int) ≤ f) ∧ Small9 f ∧ OutC K "BadFunction" H E
end Ov
namespace Ov
open PySem PySem.Spec PyProof.Rows L2 LamX
theorem hallS {H : Hp} {x dx : Addr} {o u : HO} (hx : H x = none) (hdx : H dx = none) (ne : x ≠ dx) : Same H (upd (upd H dx o) x u) := (Same.new hdx).trans (Same.new (by rw [upd_ne ne]; exact hx))
end Ov
namespace K03
open PySem PySem.Spec PyProof.Rows L2 Ov
section
variable {P : Program} {w : World} {K : PySem.W.Frag} {mg : Str → Option Value} {base : Heap}
theorem sc_law_next : FnScope ["_law_h", "_law_many", "_law_at", "_law_cell"] ["_law_h", "_law_many"] (defScope s_law_next) := ⟨rfl, rfl, rfl, by decide +kernel, rfl, by decide +kernel, by decide +kernel⟩
-- 0 _law_h, 1 _law_many, 2 _law_at, 3 _law_cell
theorem ok_law_next (T : Txt w K mg) : FnOk P w K mg base CX0 1 (He.ga K "_law_next") (fdOf K d_law_next) ["_law_h", "_law_many"] spNext := by
  refine T.F_law_next.ok sc_law_next (fun vs H Q E h => ?_) (fun cdv A outer s H vs Q E hr h => ?_)
  · obtain ⟨h, c, n, rfl, _⟩ := h
    rfl
  obtain ⟨h, c, n, rfl, ⟨m, k, xs, hh, hc, h63⟩, n0, n1, q⟩ := h
  have nhc : h ≠ c := Dr.ne ⟨m, k, xs, hh, hc, h63⟩
  refine ⟨_, PSs.nox (pss_cons (ps_set (i := 2) sc_law_next.nd rfl (by first | exact Or.inl rfl | exact Or.inr rfl) (pe_op op_mod (pe_ix (r := rIxL K) ix_list (pv 0) pe_int (fun _ _ => rfl)) (pe_callB (call_max2 rfl) (by rfl) T.z_max (by decide +kernel) (pa_cons pe_int (pa_cons (pe_callB (r := Evl.rLenS K) call_len_seq (by rfl) T.z_len PySem.boot_len (pa_cons (pe_ix (r := rIxL K) ix_list (pv 0) pe_int (fun _ _ => rfl)) pa_nil)) pa_nil)))))
      (Evl.pss_cut (ps_set (i := 3) sc_law_next.nd rfl (by first | exact Or.inl rfl | exact Or.inr rfl) (pe_ifExp (pt_cmpR (r := rNeD K) (op_neD hr.units) (pe_ix (r := rIxL K) ix_list (pv 0) pe_int (fun _ _ => rfl)) (pe_lst pa_nil) (nomark _)) (pe_ix (r := rIxL K) ix_list (pe_ix (r := rIxL K) ix_list (pv 0) pe_int (fun _ _ => rfl)) (pv 2) (fun _ _ => rfl)) pe_int))
      (pss_cons (ps_if (pt_cmpR op_ge (pv 3) (pe_op op_pow pe_int pe_int) (nomark _)) (pss_cons (ps_asg (pe_op op_fdiv (pv 3) (pv 1)) (pg_sub (pe_ix (r := rIxL K) ix_list (pv 0) pe_int (fun _ _ => rfl)) (pv 2) set_list))
      (pss_one (ps_ret (pe_op op_mod (pv 3) (pv 1))))) pss_nil)
      (pss_cons (ps_asg (pe_op op_mod (pe_op op_add (pe_op op_add (pe_op op_mul (pe_ix (r := rIxL K) ix_list (pv 0) pe_int (fun _ _ => rfl)) pe_int) (pe_op op_mul (pv 3) pe_int)) pe_int) pe_int) (pg_sub (pv 0) pe_int set_list))
      (pss_cons (ps_asg (pe_op op_add (pe_ix (r := rIxL K) ix_list (pv 0) pe_int (fun _ _ => rfl)) pe_int) (pg_sub (pv 0) pe_int set_list))
      (pss_one (ps_ret (pe_op op_mod (pe_op op_fdiv (pe_ix (r := rIxL K) ix_list (pv 0) pe_int (fun _ _ => rfl)) pe_int) (pv 1))))))))), ?_⟩
  have hm : (0 : Int) < (if ((xs.map V.int).length : Int) > 1 then ((xs.map V.int).length : Int) else 1) := by split <;> omega
  refine ⟨_, rfl, h, _, 2, .int k, rfl, rfl, SqL.of hh, rfl, _, rfl, h, _, 1, .ref c, rfl, rfl, SqL.of hh, rfl, c, _, rfl, .inl (SqL.of hc), 1, _, rfl, k, _, rfl, rfl, hm, ?_⟩
  have ht : xs ≠ [] → ∃ (j : Nat) (z : Int), k % (if ((xs.map V.int).length : Int) > 1 then ((xs.map V.int).length : Int) else 1) = (j : Int) ∧ j < xs.length ∧ xs[j]? = some z := fun ne => by
    have l1 : 0 < xs.length := (by cases xs with | nil => exact absurd rfl ne | cons _ _ => exact Nat.succ_pos _)
    have b0 := Int.emod_nonneg k (Int.ne_of_gt hm)
    have b1 := Int.emod_lt_of_pos k hm
    generalize k % (if ((xs.map V.int).length : Int) > 1 then ((xs.map V.int).length : Int) else 1) = t at b0 b1
    have b2 : t < (xs.length : Int) := by
      rw [List.length_map] at b1
      split at b1 <;> omega
    have b3 : t.toNat < xs.length := by omega
    exact ⟨t.toNat, xs[t.toNat], by omega, b3, List.getElem?_eq_getElem b3⟩
  show Evl.tCut _ _ _ ([some (.ref h), some (.int n), some (.int (k % (if ((xs.map V.int).length : Int) > 1 then ((xs.map V.int).length : Int) else 1))), none] : L2.St) _
  generalize k % (if ((xs.map V.int).length : Int) > 1 then ((xs.map V.int).length : Int) else 1) = t at ht
  refine ⟨fun σ' H' => ∃ z : Int, σ' = [some (.ref h), some (.int n), some (.int t), some (.int z)] ∧ H' h = some (.lst [.int m, .ref c, .int k]) ∧ H' c = some (.lst (xs.map V.int)) ∧ But h c H H' ∧ (z ≠ 0 → ∃ j : Nat, t = (j : Int) ∧ j < xs.length), ?_, ?_⟩
  · refine ⟨_, rfl, h, _, 1, .ref c, rfl, rfl, SqL.of hh, rfl, sml 0, fun p hp => ?_⟩
    have ph : h ≠ p := ne_of_none hh hp
    have pc : c ≠ p := ne_of_none hc hp
    have hh1 : upd H p (.lst []) h = some (.lst [.int m, .ref c, .int k]) := by rw [upd_ne ph]; exact hh
    have hc1 : upd H p (.lst []) c = some (.lst (xs.map V.int)) := by rw [upd_ne pc]; exact hc
    refine ⟨.list (xs.map PyData.int), .list [], .lst (SqL.of hc1) (dpInts xs), .lst (SqL.of upd_same) .nil, intsShaped xs, intsShaped [], _, rfl, ?_⟩
    rw [eqvNil]
    by_cases e : xs = []
    · have e1 : xs.isEmpty = true := by rw [e]; rfl
      rw [e1]
      refine iteF ?_
      exact ⟨0, rfl, hh1, hc1, But.new hp, fun h => absurd rfl h⟩
    · have e1 : xs.isEmpty = false := by
        cases xs with
        | nil => exact absurd rfl e
        | cons _ _ => rfl
      rw [e1]
      refine iteT ?_
      obtain ⟨j, z, ej, hj, hz⟩ := ht e
      refine ⟨_, rfl, h, _, 1, .ref c, rfl, rfl, SqL.of hh1, rfl, _, rfl, c, _, t, .int z, rfl, rfl, SqL.of hc1, by rw [ej]; exact atI_nat (by rw [List.getElem?_map, hz]; rfl), ?_⟩
      exact ⟨z, rfl, hh1, hc1, But.new hp, fun _ => ⟨j, ej, hj⟩⟩
  rintro σ1 H1 ⟨z, rfl, hh1, hc1, b1, hz⟩
  refine ⟨_, rfl, 10, 18, rfl, rfl, (by refine ⟨by decide, by decide, by decide⟩), z, _, rfl, rfl, _, rfl, ite2 (fun e => ?_) (fun e => ?_)⟩
  · have e1 : (10 : Int) ^ (18 : Int).toNat ≤ z := of_decide_eq_true e
    have e2 : (0 : Int) < (10 : Int) ^ (18 : Int).toNat := by decide
    obtain ⟨j, ej, hj⟩ := hz (by omega)
    refine ⟨_, rfl, _, rfl, z, n, rfl, rfl, ⟨n0, by omega⟩, ?_⟩
    refine ⟨_, rfl, h, _, 1, .ref c, rfl, rfl, SqL.of hh1, rfl, _, rfl, c, _, t, j, rfl, rfl, hc1, ?_, ?_⟩
    · rw [ej]
      unfold ixN
      rw [List.length_map, if_pos (by omega), if_pos (by omega)]
      simp
    refine ⟨_, rfl, _, rfl, z, n, rfl, rfl, n0, ?_⟩
    refine q _ _ (Int.emod_nonneg _ (by omega)) (Int.emod_lt_of_pos _ n0) (b1.trans But.updc) ⟨m, k, xs.set j (z / n), ?_, ?_, ?_⟩
    · rw [upd_ne nhc]; exact hh1
    · rw [upd_same, List.map_set]
    · rw [List.length_set]; exact h63
  · refine ⟨_, rfl, h, _, 0, .int m, rfl, rfl, SqL.of hh1, rfl, m, 48271, rfl, rfl, .inr (by decide), _, rfl, z, 69621, rfl, rfl, .inr (by decide), _, _, rfl, rfl, _, 11, rfl, rfl, _, 2147483647, rfl, rfl, (by show (0 : Int) < 2147483647; decide), ?_⟩
    refine ⟨_, rfl, h, _, 0, 0, rfl, rfl, hh1, rfl, ?_⟩
    refine ⟨_, rfl, h, _, 2, .int k, rfl, rfl, SqL.of upd_same, rfl, k, 1, rfl, rfl, _, rfl, h, _, 2, 2, rfl, rfl, upd_same, rfl, ?_⟩
    refine ⟨_, rfl, h, _, 0, .int ((m * 48271 + z * 69621 + 11) % 2147483647), rfl, rfl, SqL.of upd_same, rfl, _, 7, rfl, rfl, ⟨by decide, by decide⟩, _, rfl, _, n, rfl, rfl, n0, ?_⟩
    refine q _ _ (Int.emod_nonneg _ (by omega)) (Int.emod_lt_of_pos _ n0) (b1.trans (But.updh.trans But.updh)) ⟨(m * 48271 + z * 69621 + 11) % 2147483647, k + 1, xs, upd_same, ?_, h63⟩
    rw [upd_ne nhc.symm, upd_ne nhc.symm]
    exact hc1
theorem sc_law_mix : FnScope ["_law_script", "_law_seed", "_law_mixed", "_law_cell"] ["_law_script", "_law_seed"] (defScope s_law_mix) := ⟨rfl, rfl, rfl, by decide +kernel, rfl, by decide +kernel, by decide +kernel⟩
-- 0 _law_script, 1 _law_seed, 2 _law_mixed, 3 _law_cell
theorem ok_law_mix (T : Txt w K mg) : FnOk P w K mg base CX0 1 (He.ga K "_law_mix") (fdOf K d_law_mix) ["_law_script", "_law_seed"] (spMix K) := by
  refine T.F_law_mix.ok sc_law_mix (fun vs H Q E h => ?_) (fun cdv A outer s H vs Q E hr h => ?_)
  · obtain ⟨a, ns, z, rfl, _⟩ := h
    rfl
  obtain ⟨a, ns, z, rfl, hS, h63, z0, z1, q⟩ := h
  refine ⟨_, PSs.nox (pss_cons (ps_set (i := 2) sc_law_mix.nd rfl (by first | exact Or.inl rfl | exact Or.inr rfl) (pv 1))
      (pss_cons (ps_for PassesOwn.never rfl (Ov.pi_listK (K := K) rfl (pv 0)) (pg_name (i := 3) sc_law_mix.nd rfl (by first | exact Or.inl rfl | exact Or.inr rfl)) (pss_one (ps_set (i := 2) sc_law_mix.nd rfl (by first | exact Or.inl rfl | exact Or.inr rfl) (pe_op op_mod (pe_op op_add (pe_op op_add (pe_op op_mul (pv 2) pe_int) (pe_op op_mod (pv 3) pe_int)) pe_int) pe_int))))
      (pss_one (ps_ret (pe_lst (pa_cons (pv 2) (pa_cons (pe_callTy (r := Evl.rListS K) call_list_of (by rfl) T.z_list (by decide +kernel) (pa_cons (pv 0) pa_nil)) (pa_cons pe_int pa_nil)))))))), ?_⟩
  refine ⟨_, rfl, _, rfl, a, rfl, ⟨_, hS⟩, for_list (K := K) (a := a) (xs := ns.map V.int) (fun _ σ H' => ∃ (y : Int) (v : Option V), σ = [some (.ref a), some (.int z), some (.int y), v] ∧ H' = H) ⟨z, none, rfl, rfl⟩ (fun i σ H' _ ⟨_, _, _, e⟩ => by rw [e]; exact hS) ?_ ?_⟩
  · rintro i x σ H' hi ⟨y, v, rfl, rfl⟩
    obtain ⟨u, rfl⟩ : ∃ u, x = V.int u := by
      rw [List.getElem?_map] at hi
      cases e : ns[i]? with
      | none => rw [e] at hi; cases hi
      | some u => rw [e] at hi; exact ⟨u, (Option.some.inj hi).symm⟩
    refine ⟨_, rfl, y, 48271, rfl, rfl, .inr (by decide), _, rfl, u, 2147483629, rfl, rfl, (by show (0 : Int) < 2147483629; decide), _, _, rfl, rfl, _, 1, rfl, rfl, _, 2147483647, rfl, rfl, (by show (0 : Int) < 2147483647; decide), ?_⟩
    exact ⟨_, _, rfl, rfl⟩
  · rintro σ H' ⟨y, v, rfl, rfl⟩
    refine ⟨_, rfl, _, rfl, a, _, rfl, .inl hS, fun c hc => ⟨sml 3, fun h hh => ?_⟩⟩
    have nc : c ≠ h := fun e => by rw [e, upd_same] at hh; cases hh
    have hh0 : H' h = none := by rw [upd_ne nc.symm] at hh; exact hh
    refine q h c _ hh0 hc ((Same.new hc).trans (Same.new hh)) ⟨y, 0, ns, upd_same, ?_, h63⟩
    rw [upd_ne nc, upd_same]
end
end K03

namespace K03
open PySem PySem.Spec PyProof.Rows L2 Ov
section
variable {P : Program} {w : World} {K : PySem.W.Frag} {mg : Str → Option Value} {base : Heap}
theorem sc_law_leaf : FnScope ["_law_h", "_law_e", "_law_kind_here", "_law_some", "_law_k"] ["_law_h", "_law_e", "_law_kind_here"] (defScope s_law_leaf) := ⟨rfl, rfl, rfl, by decide +kernel, rfl, by decide +kernel, by decide +kernel⟩
-- 0 _law_h, 1 _law_e, 2 _law_kind_here, 3 _law_some, 4 _law_k
theorem ok_law_leaf (T : Txt w K mg) {n : Nat} : FnOk P w K mg base CX0 2 (He.ga K "_law_leaf") (fdOf K d_law_leaf) ["_law_h", "_law_e", "_law_kind_here"] (spWord n 1 (preLeaf n)) := by
  have G_law_next := ok_law_next (P := P) (base := base) T
  refine T.F_law_leaf.ok sc_law_leaf (fun vs H Q E h => ?_) (fun cdv A outer s H vs Q E hr h => ?_)
  · obtain ⟨h, c, ⟨e, k, rfl, _⟩, _⟩ := h
    rfl
  obtain ⟨h, c, ⟨e, k, rfl, kk, came, pl, kl, ps, ks, x⟩, dr, q⟩ := h
  refine ⟨_, PSs.nox (Evl.pss_cut (ps_set (i := 3) sc_law_leaf.nd rfl (by first | exact Or.inl rfl | exact Or.inr rfl) (pe_op op_rep (pe_op op_rep (pe_lst (pa_cons (pe_tup (pa_cons pe_str pa_nil)) pa_nil)) pe_int) (pe_callTy call_int1 (by rfl) T.z_int (by decide +kernel) (pa_cons (pe_cmpR op_eq (pe_dget (hu_of hr) (pv 1) pe_str (fun _ _ => rfl)) (pv 2) (nomark _)) pa_nil))))
      (Evl.pss_cut (ps_if (pt_cmpR op_eq (pv 2) pe_str (nomark _)) (pss_one (ps_set (i := 3) sc_law_leaf.nd rfl (by first | exact Or.inl rfl | exact Or.inr rfl) (pe_op op_cat (pv 3) (pe_lst (pa_cons (pe_tup (pa_cons pe_str (pa_cons (pe_ix (r := rIxL K) ix_list (pe_lst (pa_cons (pe_call G_law_next (hr.mono (by omega)) (by rfl) T.g_law_next T.kp_law_next T.b_law_next .nil pass0 (pa_cons (pv 0) (pa_cons pe_int pa_nil))) (pa_cons (pe_call G_law_next (hr.mono (by omega)) (by rfl) T.g_law_next T.kp_law_next T.b_law_next .nil pass0 (pa_cons (pv 0) (pa_cons pe_int pa_nil))) pa_nil))) (pe_call G_law_next (hr.mono (by omega)) (by rfl) T.g_law_next T.kp_law_next T.b_law_next .nil pass0 (pa_cons (pv 0) (pa_cons pe_int pa_nil))) (fun _ _ => rfl)) pa_nil))) pa_nil))))) (pss_one (ps_set (i := 3) sc_law_leaf.nd rfl (by first | exact Or.inl rfl | exact Or.inr rfl) (pe_op op_cat (pv 3) (pe_lc (own := [("_law_k", 4)]) rfl sc_law_leaf.nd (pi_range1 (by rfl) T.z_range (pa_cons pe_int pa_nil)) (blkOk_by (own := [("_law_k", 4)]) (N := ["_law_h", "_law_e", "_law_kind_here", "_law_some", "_law_k"]) (sc := defScope s_law_leaf) (by decide +kernel)) (fun _ _ _ _ _ => (pg_name (i := 4) sc_law_leaf.nd rfl (by first | exact Or.inl rfl | exact Or.inr rfl))) (fun _ _ _ _ _ => pts_nil) (fun _ _ _ _ _ => (pe_tup (pa_cons pe_str (pa_cons (pe_ix (r := rIxL K) ix_list (pe_dget (hu_of hr) (pv 1) pe_str (fun _ _ => rfl)) (pe_call G_law_next (hr.mono (by omega)) (by rfl) T.g_law_next T.kp_law_next T.b_law_next .nil pass0 (pa_cons (pv 0) (pa_cons (pe_callB (r := Evl.rLenS K) call_len_seq (by rfl) T.z_len PySem.boot_len (pa_cons (pe_dget (hu_of hr) (pv 1) pe_str (fun _ _ => rfl)) pa_nil)) pa_nil))) (fun _ _ => rfl)) pa_nil)))))))))
      (pss_one (ps_ret (pe_ix (r := rIxL K) ix_list (pv 3) (pe_call G_law_next (hr.mono (by omega)) (by rfl) T.g_law_next T.kp_law_next T.b_law_next .nil pass0 (pa_cons (pv 0) (pa_cons (pe_callB (r := Evl.rLenS K) call_len_seq (by rfl) T.z_len PySem.boot_len (pa_cons (pv 3) pa_nil)) pa_nil))) (fun _ _ => rfl)))))), ?_⟩
  have hk0 : Keep H H := Keep.refl H
  refine ⟨fun σ' H' => ∃ (l : Addr) (xs : List V), σ' = [some (.ref h), some (.ref e), some (.str k), some (.ref l), none] ∧ Same H H' ∧ H l = none ∧ H' l = some (.lst xs) ∧ xs.length ≤ 3 ∧ ∀ v ∈ xs, Wd H' n 1 v, ?_, ?_⟩
  · refine ⟨sml 1, fun t ht => ⟨sml 1, fun l hl => ⟨l, 3, _, rfl, rfl, upd_same, by decide, by decide, (by show 1 * 3 ≤ sizeLine; decide), fun p1 hp1 => ?_⟩⟩⟩
    have ntl : t ≠ l := fun z => by rw [z] at ht; rw [z, upd_same] at hl; cases hl
    have ntp : t ≠ p1 := fun z => by rw [z, upd_ne ((fun y => by rw [y, upd_same] at hp1; cases hp1) : p1 ≠ l), upd_same] at hp1; cases hp1
    have s1 : Same H (upd (upd (upd H t (.tup [.str "argument"])) l (.lst [.ref t])) p1 (.lst (List.replicate (3 : Int).toNat [V.ref t]).flatten)) := (Same.new ht).trans ((Same.new hl).trans (Same.new hp1))
    refine ⟨_, rfl, e, .str came, rfl, DGet.k (k := Sum.inr "came") (s1 _ _ x.e), _, rfl, rfl, .inr ⟨_, rfl, ?_⟩⟩
    refine ⟨p1, _, _, rfl, rfl, upd_same, ?_, ?_, ?_, fun p2 hp2 => ?_⟩
    · split <;> decide
    · split <;> decide
    · split
      · show 3 * 1 ≤ sizeLine
        decide
      · show 3 * 0 ≤ sizeLine
        decide
    refine ⟨p2, _, rfl, s1.trans (Same.new hp2), s1.free hp2, upd_same, ?_, fun v hv => ?_⟩
    · split
      · exact Nat.le_refl 3
      · exact Nat.zero_le 3
    · have ev : v = .ref t := by
        split at hv
        · have hv2 : v ∈ [V.ref t, .ref t, .ref t] := hv
          simpa using hv2
        · cases hv
      rw [ev]
      refine wd0 (d := 0) .arg 0 ?_ trivial
      have np2 : t ≠ p2 := fun z => by
        rw [← z, upd_ne ntp, upd_ne ntl, upd_same] at hp2
        cases hp2
      rw [upd_ne np2, upd_ne ntp, upd_ne ntl, upd_same]
      rfl
  rintro σ1 H1 ⟨l, xs, rfl, s1, hl0, hl, hx3, hw⟩
  have d1 : Dr H1 h c := dr.same s1
  have x1 := x.same s1
  have lh := (Dr.new dr hl0)
  have b1 : But h c H H1 := .same s1
  refine ⟨fun σ' H' => ∃ (l : Addr) (xs : List V), σ' = [some (.ref h), some (.ref e), some (.str k), some (.ref l), none] ∧ But h c H H' ∧ Dr H' h c ∧ l ≠ h ∧ l ≠ c ∧ H' l = some (.lst xs) ∧ xs ≠ [] ∧ xs.length ≤ 9 ∧ ∀ v ∈ xs, Wd H' n 1 v, ?_, ?_⟩
  · refine ⟨_, rfl, rfl, _, rfl, ite2 (fun ek => ?_) (fun ek => ?_)⟩
    · refine ⟨_, rfl, _, rfl, h, c, 4, rfl, d1, by decide, by decide, fun r1 H2 r10 r11 b2 d2 => ?_⟩
      refine ⟨_, rfl, h, c, 100, rfl, d2, by decide, by decide, fun r2 H3 r20 r21 b3 d3 => ⟨sml 2, fun l2 hl2 => ?_⟩⟩
      have d3' : Dr (upd H3 l2 (.lst [.int r1, .int r2])) h c := d3.same (Same.new hl2)
      refine ⟨_, rfl, h, c, 2, rfl, d3', by decide, by decide, fun r3 H4 r30 r31 b4 d4 => ?_⟩
      have n2 := Dr.new d3 hl2
      refine ⟨l2, _, r3, _, rfl, rfl, SqL.of (b4 _ _ n2.1 n2.2 upd_same), two_at _ _ r30 r31, ?_⟩
      refine ⟨sml 2, fun t ht => ⟨sml 1, fun l3 hl3 => ?_⟩⟩
      have b14 : But h c H1 H4 := b2.trans (b3.trans ((But.new hl2).trans b4))
      have hl4 : H4 l = some (.lst xs) := b14 _ _ lh.1 lh.2 hl
      have s46 : Same H4 (upd (upd H4 t (.tup [.str "num", if r3 = 0 then .int r1 else .int r2])) l3 (.lst [.ref t])) := (Same.new ht).trans (Same.new hl3)
      refine ⟨l, l3, xs, _, rfl, rfl, s46 _ _ hl4, upd_same, sml _ (by rw [List.length_singleton]; omega), fun p hp => ?_⟩
      have s7 := s46.trans (Same.new (o := .lst (xs ++ [.ref t])) hp)
      have np := Dr.new (d4.same s46) hp
      have ntl3 : t ≠ l3 := fun z => by rw [z, upd_same] at hl3; cases hl3
      have ntp : t ≠ p := fun z => by rw [← z, upd_ne ntl3, upd_same] at hp; cases hp
      refine ⟨p, _, rfl, b1.trans (b14.trans (.same s7)), d4.same s7, np.1, np.2, upd_same, by simp, by rw [List.length_append, List.length_singleton]; omega, wds_app (wds_keep ((Keep.but b14 d1).trans (Keep.same s7)) hw) (wds_one ?_)⟩
      refine wd0 (d := 0) .num (if r3 = 0 then r1 else r2) ?_ (by split <;> exact ⟨by omega, by omega⟩)
      rw [upd_ne ntp, upd_ne ntl3, upd_same]
      split <;> rfl
    · refine ⟨_, rfl, 2, rfl, by decide, by decide, fun D hD => ?_⟩
      have nD := Dr.new d1 hD
      refine lc_rangeY (lo := 0) (n := 2) (fun i H' => ∃ acc, But h c H1 H' ∧ Dr H' h c ∧ H' D = some (.lst acc) ∧ acc.length = i ∧ ∀ v ∈ acc, Wd H' n 1 v) ⟨[], But.new hD, d1.same (Same.new hD), upd_same, rfl, fun _ h => by cases h⟩ ?_ ?_
      · rintro i H2 hi ⟨acc, b2, d2, hacc, hlen, hwa⟩
        have x2 := x1.but d1 b2
        refine ⟨rfl, ?_⟩
        refine ⟨_, rfl, e, .ref pl, rfl, DGet.k (k := Sum.inr "plain") x2.e, ?_⟩
        refine ⟨_, rfl, _, rfl, e, .ref pl, rfl, DGet.k (k := Sum.inr "plain") x2.e, pl, _, rfl, .inl (SqL.of x2.p), ?_⟩
        refine ⟨h, c, _, rfl, d2, (by rw [List.length_map]; have := List.length_pos_iff.mpr x2.p0; omega), (by rw [List.length_map]; have := x2.p8; omega), fun r H3 r0 r1 b3 d3 => ?_⟩
        have x3 := x2.but d2 b3
        rw [List.length_map] at r1
        obtain ⟨z, hz, ez⟩ := int_at (P := fun x => 0 ≤ x ∧ x < n) x3.pn r0 r1
        refine ⟨pl, _, r, .int z, rfl, rfl, SqL.of x3.p, ez, sml 2, fun t ht => ?_⟩
        have hacc3 : H3 D = some (.lst acc) := b3 _ _ nD.1 nD.2 hacc
        have d4 : Dr (upd H3 t (.tup [.str "way", .int z])) h c := d3.same (Same.new ht)
        have ntD : D ≠ t := ne_of_none hacc3 ht
        have k24 : Keep H2 (upd H3 t (.tup [.str "way", .int z])) := (Keep.but b3 d2).trans (Keep.same (Same.new ht))
        have hD4 : (upd H3 t (.tup [.str "way", .int z])) D = some (.lst acc) := by rw [upd_ne ntD]; exact hacc3
        have hw4 : ∀ v ∈ acc ++ [V.ref t], Wd (upd H3 t (.tup [.str "way", .int z])) n 1 v := wds_app (wds_keep k24 hwa) (wds_one (wd0 (d := 0) .way z upd_same hz))
        exact ⟨acc, hD4, sm _, acc ++ [.ref t], ((b2.trans b3).trans (But.new ht)).updn hD, d4.upd nD.1 nD.2, upd_same, by rw [List.length_append, List.length_singleton, hlen], wds_keep (Keep.updL hD4) hw4⟩
      · rintro H2 ⟨acc, b2, d2, hacc, hlen, hwa⟩
        have hl2 : H2 l = some (.lst xs) := b2 _ _ lh.1 lh.2 hl
        refine ⟨l, D, xs, acc, rfl, rfl, hl2, hacc, sml _, fun p hp => ?_⟩
        have np := Dr.new d2 hp
        refine ⟨p, _, rfl, b1.trans (b2.trans (But.new hp)), d2.same (Same.new hp), np.1, np.2, upd_same, ?_, by rw [List.length_append]; omega, wds_keep (Keep.same (Same.new hp)) (wds_app (wds_keep (Keep.but b2 d1) hw) hwa)⟩
        intro z
        have z2 := congrArg List.length z
        rw [List.length_append, hlen] at z2
        simp at z2
  rintro σ2 H2 ⟨l, xs, rfl, b2, d2, lh, lc, hl, hx0, hx9, hw⟩
  have hx1 : 0 < xs.length := List.length_pos_iff.mpr hx0
  refine ⟨_, rfl, _, rfl, _, rfl, l, _, rfl, .inl (SqL.of hl), h, c, _, rfl, d2, by omega, by omega, fun r H3 r0 r1 b3 d3 => ?_⟩
  obtain ⟨v, hv, ev⟩ := val_at hw r0 r1
  exact ⟨l, _, r, v, rfl, rfl, SqL.of (b3 _ _ lh lc hl), ev, q v H3 (b2.trans b3) d3 (hv.keep (Keep.but b3 d2))⟩
end
end K03

namespace K03
open PySem PySem.Spec PyProof.Rows L2 Ov
section
variable {P : Program} {w : World} {K : PySem.W.Frag} {mg : Str → Option Value} {base : Heap}
theorem sc_law_less : FnScope ["_law_h", "_law_e", "_law_deep"] ["_law_h", "_law_e", "_law_deep"] (defScope s_law_less) := ⟨rfl, rfl, rfl, by decide +kernel, rfl, by decide +kernel, by decide +kernel⟩
-- 0 _law_h, 1 _law_e, 2 _law_deep
theorem ok_law_less (T : Txt w K mg) {n m : Nat} (G_law_body : FnOk P w K mg base CX0 (3 * m + 3) (He.ga K "_law_body") (fdOf K d_law_body) ["_law_h", "_law_e", "_law_kind_here", "_law_deep"] (spWord n (m + 2) (preBody n m))) :
    FnOk P w K mg base CX0 (3 * m + 4) (He.ga K "_law_less") (fdOf K d_law_less) ["_law_h", "_law_e", "_law_deep"] (spWord n (m + 2) (preDeep n m)) := by
  have G_law_next := ok_law_next (P := P) (base := base) T
  refine T.F_law_less.ok sc_law_less (fun vs H Q E h => ?_) (fun cdv A outer s H vs Q E hr h => ?_)
  · obtain ⟨h, c, ⟨e, z, rfl, _⟩, _⟩ := h
    rfl
  obtain ⟨h, c, ⟨e, z, rfl, ez, x⟩, dr, q⟩ := h
  have x' := x
  obtain ⟨came, pl, kl, ps, ks, xe⟩ := x'
  refine ⟨_, PSs.nox (pss_cons (ps_if (PW.pt (pw_and (pt_cmpR op_eq (pe_dget (hu_of hr) (pv 1) pe_str (fun _ _ => rfl)) pe_str (nomark _)) (pw_and1 (pt_cmpR op_gt (pe_call G_law_next (hr.mono (by omega)) (by rfl) T.g_law_next T.kp_law_next T.b_law_next .nil pass0 (pa_cons (pv 0) (pa_cons pe_int pa_nil))) pe_int (nomark _))))) (pss_one (ps_ret (pe_tup (pa_cons pe_str (pa_cons (pe_tup (pa_cons pe_str pa_nil)) (pa_cons (pe_tup (pa_cons pe_str (pa_cons pe_int pa_nil))) pa_nil)))))) pss_nil)
      (pss_one (ps_ret (pe_call G_law_body (hr.mono (by omega)) (by rfl) T.g_law_body T.kp_law_body T.b_law_body .nil pass0 (pa_cons (pv 0) (pa_cons (pv 1) (pa_cons pe_str (pa_cons (pv 2) pa_nil)))))))), ?_⟩
  have go : ∀ H', But h c H H' → Dr H' h c → spWord n (m + 2) (preBody n m) [.ref h, .ref e, .str "number", .int z] H' Q E := fun H' b d => ⟨h, c, ⟨e, _, z, rfl, ez, kindN, x.but dr b⟩, d, fun v H2 b2 d2 hv => q v H2 (b.trans b2) d2 hv⟩
  refine ⟨_, rfl, e, .str came, rfl, DGet.k (k := Sum.inr "came") xe.e, rfl, _, rfl, ite2 (fun a => ?_) (fun a => ?_)⟩
  · refine ⟨_, rfl, h, c, 4, rfl, dr, by decide, by decide, fun r H2 r0 r1 b2 d2 => ⟨_, 0, rfl, rfl, _, rfl, ite2 (fun _ => ?_) (fun _ => ?_)⟩⟩
    · refine ⟨sml 1, fun t1 h1 => ⟨sml 2, fun t2 h2 => ⟨sml 3, fun t3 h3 => ?_⟩⟩⟩
      have s3 := (Same.new (o := .tup [.str "argument"]) h1).trans ((Same.new (o := .tup [.str "num", .int 1]) h2).trans (Same.new (o := .tup [.str "less", .ref t1, .ref t2]) h3))
      have n12 : t1 ≠ t2 := ne_of_none upd_same h2
      have n13 : t1 ≠ t3 := ne_of_none (by rw [upd_ne n12]; exact upd_same) h3
      have n23 : t2 ≠ t3 := ne_of_none upd_same h3
      refine q _ _ (b2.trans (.same s3)) (d2.same s3) (Wd.mono (wd2 (d := 1) .less 0 upd_same trivial (wd0 (d := 0) .arg 0 ?_ trivial) (wd0 (d := 0) .num 1 ?_ ⟨by decide, by decide⟩)) (by omega))
      · rw [upd_ne n13, upd_ne n12, upd_same]; rfl
      · rw [upd_ne n23, upd_same]; rfl
    · exact ⟨_, rfl, _, rfl, _, rfl, go H2 b2 d2⟩
  · exact ⟨_, rfl, _, rfl, _, rfl, go H (But.refl H) dr⟩
theorem sc_law_call : FnScope ["_law_h", "_law_e", "_law_deep", "_law_called", "_law_kind_here", "_law_arm"] ["_law_h", "_law_e", "_law_deep"] (defScope s_law_call) := ⟨rfl, rfl, rfl, by decide +kernel, rfl, by decide +kernel, by decide +kernel⟩
-- 0 _law_h, 1 _law_e, 2 _law_deep, 3 _law_called, 4 _law_kind_here, 5 _law_arm
theorem ok_law_call (T : Txt w K mg) {n m : Nat} (G_law_body : FnOk P w K mg base CX0 (3 * m + 3) (He.ga K "_law_body") (fdOf K d_law_body) ["_law_h", "_law_e", "_law_kind_here", "_law_deep"] (spWord n (m + 2) (preBody n m))) :
    FnOk P w K mg base CX0 (3 * m + 5) (He.ga K "_law_call") (fdOf K d_law_call) ["_law_h", "_law_e", "_law_deep"] (spWord n (m + 3) (preDeep n (m + 1))) := by
  have G_law_next := ok_law_next (P := P) (base := base) T
  have G_law_less := ok_law_less (P := P) (base := base) T G_law_body
  refine T.F_law_call.ok sc_law_call (fun vs H Q E h => ?_) (fun cdv A outer s H vs Q E hr h => ?_)
  · obtain ⟨h, c, ⟨e, z, rfl, _⟩, _⟩ := h
    rfl
  obtain ⟨h, c, ⟨e, z, rfl, ez, x⟩, dr, q⟩ := h
  have ez1 : z - 1 = (m : Int) := by omega
  refine ⟨_, PSs.nox (pss_cons (ps_if (pt_cmpR op_eq (pe_call G_law_next (hr.mono (by omega)) (by rfl) T.g_law_next T.kp_law_next T.b_law_next .nil pass0 (pa_cons (pv 0) (pa_cons pe_int pa_nil))) pe_int (nomark _)) (pss_one (ps_ret (pe_tup (pa_cons pe_str (pa_cons (pe_call G_law_body (hr.mono (by omega)) (by rfl) T.g_law_body T.kp_law_body T.b_law_body .nil pass0 (pa_cons (pv 0) (pa_cons (pv 1) (pa_cons pe_str (pa_cons (pe_op op_sub (pv 2) pe_int) pa_nil))))) (pa_cons (pe_call G_law_less (hr.mono (by omega)) (by rfl) T.g_law_less T.kp_law_less T.b_law_less .nil pass0 (pa_cons (pv 0) (pa_cons (pv 1) (pa_cons (pe_op op_sub (pv 2) pe_int) pa_nil)))) pa_nil)))))) pss_nil)
      (pss_cons (ps_set (i := 3) sc_law_call.nd rfl (by first | exact Or.inl rfl | exact Or.inr rfl) (pe_call G_law_next (hr.mono (by omega)) (by rfl) T.g_law_next T.kp_law_next T.b_law_next .nil pass0 (pa_cons (pv 0) (pa_cons (pe_callB (r := Evl.rLenS K) call_len_seq (by rfl) T.z_len PySem.boot_len (pa_cons (pe_dget (hu_of hr) (pv 1) pe_str (fun _ _ => rfl)) pa_nil)) pa_nil))))
      (pss_cons (ps_set (i := 4) sc_law_call.nd rfl (by first | exact Or.inl rfl | exact Or.inr rfl) (pe_ix (r := rIxL K) ix_list (pe_dget (hu_of hr) (pv 1) pe_str (fun _ _ => rfl)) (pv 3) (fun _ _ => rfl)))
      (Evl.pss_cut (ps_if (pt_cmpR op_eq (pe_call G_law_next (hr.mono (by omega)) (by rfl) T.g_law_next T.kp_law_next T.b_law_next .nil pass0 (pa_cons (pv 0) (pa_cons pe_int pa_nil))) pe_int (nomark _)) (pss_one (ps_set (i := 4) sc_law_call.nd rfl (by first | exact Or.inl rfl | exact Or.inr rfl) (pe_ix (r := rIxL K) ix_list (pe_lst (pa_cons pe_str (pa_cons pe_str pa_nil))) (pe_call G_law_next (hr.mono (by omega)) (by rfl) T.g_law_next T.kp_law_next T.b_law_next .nil pass0 (pa_cons (pv 0) (pa_cons pe_int pa_nil))) (fun _ _ => rfl)))) pss_nil)
      (pss_cons (ps_set (i := 5) sc_law_call.nd rfl (by first | exact Or.inl rfl | exact Or.inr rfl) (pe_ifExp (pt_cmpR op_eq (pv 4) pe_str (nomark _)) (pe_call G_law_less (hr.mono (by omega)) (by rfl) T.g_law_less T.kp_law_less T.b_law_less .nil pass0 (pa_cons (pv 0) (pa_cons (pv 1) (pa_cons (pe_op op_sub (pv 2) pe_int) pa_nil)))) (pe_call G_law_body (hr.mono (by omega)) (by rfl) T.g_law_body T.kp_law_body T.b_law_body .nil pass0 (pa_cons (pv 0) (pa_cons (pv 1) (pa_cons pe_str (pa_cons (pe_op op_sub (pv 2) pe_int) pa_nil)))))))
      (pss_one (ps_ret (pe_tup (pa_cons pe_str (pa_cons (pv 3) (pa_cons (pv 5) pa_nil))))))))))), ?_⟩
  refine ⟨_, rfl, h, c, 3, rfl, dr, by decide, by decide, fun r H2 r0 r1 b2 d2 => ⟨rfl, _, rfl, ite2 (fun _ => ?_) (fun _ => ?_)⟩⟩
  · refine ⟨_, rfl, _, rfl, _, rfl, z, 1, rfl, rfl, h, c, ⟨e, _, _, rfl, ez1, kindW, x.but dr b2⟩, d2, fun v1 H3 b3 d3 w1 => ?_⟩
    refine ⟨_, rfl, _, rfl, _, rfl, z, 1, rfl, rfl, h, c, ⟨e, _, rfl, ez1, (x.but dr b2).but d2 b3⟩, d3, fun v2 H4 b4 d4 w2 => ?_⟩
    refine ⟨sml 3, fun t ht => ?_⟩
    have k4 := Keep.same (Same.new (o := .tup [.str "through", v1, v2]) ht)
    exact q _ _ (b2.trans (b3.trans (b4.trans (But.new ht)))) (d4.same (Same.new ht)) (wd2 .through 0 upd_same trivial (w1.keep ((Keep.but b4 d3).trans k4)) (w2.keep k4))
  · obtain ⟨came, pl, kl, ps, ks, xe⟩ := x.but dr b2
    refine ⟨_, rfl, _, rfl, e, .ref kl, rfl, DGet.k (k := Sum.inr "kinds") xe.e, kl, _, rfl, .inl (SqL.of xe.k), ?_⟩
    refine ⟨h, c, _, rfl, d2, (by rw [List.length_map, xe.kn]; have := xe.n1; omega), (by rw [List.length_map, xe.kn]; have := xe.n8; omega), fun r3 H3 r30 r31 b3 d3 => ?_⟩
    rw [List.length_map] at r31
    have xe3 := xe.but d2 b3
    obtain ⟨kd, hkd, ekd⟩ := kind_at xe3.kk r30 r31
    refine ⟨_, rfl, e, .ref kl, rfl, DGet.k (k := Sum.inr "kinds") xe3.e, _, rfl, kl, _, r3, .str kd, rfl, rfl, SqL.of xe3.k, ekd, ?_⟩
    have x3 : preE n h c e H3 := ⟨came, pl, kl, ps, ks, xe3⟩
    have b13 := b2.trans b3
    refine ⟨fun σ' H' => ∃ kd, KindS kd ∧ σ' = [some (.ref h), some (.ref e), some (.int z), some (.int r3), some (.str kd), none] ∧ But h c H3 H' ∧ Dr H' h c, ?_, ?_⟩
    · refine ⟨_, rfl, h, c, 12, rfl, d3, by decide, by decide, fun r4 H4 r40 r41 b4 d4 => ⟨rfl, _, rfl, ite2 (fun _ => ?_) (fun _ => ?_)⟩⟩
      · refine ⟨sml 2, fun l hl => ?_⟩
        have d4' := d4.same (Same.new (o := .lst [.str "number", .str "way"]) hl)
        have nl := Dr.new d4 hl
        refine ⟨_, rfl, h, c, 2, rfl, d4', by decide, by decide, fun r5 H5 r50 r51 b5 d5 => ?_⟩
        obtain ⟨k5, hk5, e5⟩ := two_kinds r5 r50 r51
        exact ⟨l, _, r5, .str k5, rfl, rfl, SqL.of (b5 _ _ nl.1 nl.2 upd_same), e5, k5, hk5, rfl, b4.trans ((But.new hl).trans b5), d5⟩
      · exact ⟨kd, hkd, rfl, b4, d4⟩
    rintro σ5 H5 ⟨k5, hk5, rfl, b5, d5⟩
    have x5 := x3.but d3 b5
    have fin : ∀ v H6, But h c H5 H6 → Dr H6 h c → Wd H6 n (m + 2) v → tTup (tCons (tC (.str "call")) (tCons (tVar 3) (tCons (tVar 5) tNil))) [some (.ref h), some (.ref e), some (.int z), some (.int r3), some (.str k5), some v] H6 Q := fun v H6 b6 d6 w6 => by
      refine ⟨_, rfl, _, rfl, sml 3, fun t ht => ?_⟩
      have k6 := Keep.same (Same.new (o := .tup [.str "call", .int r3, v]) ht)
      refine q _ _ (b13.trans (b5.trans (b6.trans (But.new ht)))) (d6.same (Same.new ht)) (wd1 .call r3 upd_same ⟨r30, by rw [xe.kn] at r31; omega⟩ (w6.keep k6))
    refine ⟨_, rfl, rfl, _, rfl, ite2 (fun _ => ?_) (fun _ => ?_)⟩
    · exact ⟨_, rfl, _, rfl, _, rfl, z, 1, rfl, rfl, h, c, ⟨e, _, rfl, ez1, x5⟩, d5, fun v1 H6 b6 d6 w6 => fin v1 H6 b6 d6 w6⟩
    · exact ⟨_, rfl, _, rfl, _, rfl, z, 1, rfl, rfl, h, c, ⟨e, _, _, rfl, ez1, kindW, x5⟩, d5, fun v1 H6 b6 d6 w6 => fin v1 H6 b6 d6 w6⟩
theorem sc_law_body : FnScope ["_law_h", "_law_e", "_law_kind_here", "_law_deep", "_law_turn", "_law_test", "_law_other", "_law_word"] ["_law_h", "_law_e", "_law_kind_here", "_law_deep"] (defScope s_law_body) := ⟨rfl, rfl, rfl, by decide +kernel, rfl, by decide +kernel, by decide +kernel⟩
-- 0 _law_h, 1 _law_e, 2 _law_kind_here, 3 _law_deep, 4 _law_turn, 5 _law_test, 6 _law_other, 7 _law_word
theorem ok_law_body0 (T : Txt w K mg) {n : Nat} : FnOk P w K mg base CX0 3 (He.ga K "_law_body") (fdOf K d_law_body) ["_law_h", "_law_e", "_law_kind_here", "_law_deep"] (spWord n (0 + 2) (preBody n 0)) := by
  have G_law_next := ok_law_next (P := P) (base := base) T
  have G_law_leaf := ok_law_leaf (P := P) (base := base) (n := n) T
  refine T.F_law_body.ok sc_law_body (fun vs H Q E h => ?_) (fun cdv A outer s H vs Q E hr h => ?_)
  · obtain ⟨h, c, ⟨e, k, z, rfl, _⟩, _⟩ := h
    rfl
  obtain ⟨h, c, ⟨e, k, z, rfl, ez, hk, x⟩, dr, q⟩ := h
  refine ⟨_, PSs.nox (pss_cons (ps_set (i := 4) sc_law_body.nd rfl (by first | exact Or.inl rfl | exact Or.inr rfl) (pe_call G_law_next (hr.mono (by omega)) (by rfl) T.g_law_next T.kp_law_next T.b_law_next .nil pass0 (pa_cons (pv 0) (pa_cons pe_int pa_nil))))
      (pss_cons (ps_if (PW.pt (pw_or (pt_cmpR op_lt (pv 3) pe_int (nomark _)) (pw_or1 (pt_cmpR op_lt (pv 4) pe_int (nomark _))))) (pss_one (ps_ret (pe_call G_law_leaf (hr.mono (by omega)) (by rfl) T.g_law_leaf T.kp_law_leaf T.b_law_leaf .nil pass0 (pa_cons (pv 0) (pa_cons (pv 1) (pa_cons (pv 2) pa_nil)))))) pss_nil)
      pss_never)), ?_⟩
  refine ⟨_, rfl, h, c, 10, rfl, dr, by decide, by decide, fun r H2 r0 r1 b2 d2 => ?_⟩
  have hz : decide (z < 1) = true := decide_eq_true (by omega)
  refine ⟨_, rfl, z, 1, rfl, rfl, _, rfl, ?_⟩
  rw [hz]
  exact ⟨_, rfl, _, rfl, _, rfl, h, c, ⟨e, k, rfl, hk, x.but dr b2⟩, d2, fun v H3 b3 d3 w3 => q v H3 (b2.trans b3) d3 (w3.mono (by omega))⟩

theorem ok_law_bodyS (T : Txt w K mg) {n m : Nat} (G_law_body : FnOk P w K mg base CX0 (3 * m + 3) (He.ga K "_law_body") (fdOf K d_law_body) ["_law_h", "_law_e", "_law_kind_here", "_law_deep"] (spWord n (m + 2) (preBody n m))) :
    FnOk P w K mg base CX0 (3 * (m + 1) + 3) (He.ga K "_law_body") (fdOf K d_law_body) ["_law_h", "_law_e", "_law_kind_here", "_law_deep"] (spWord n ((m + 1) + 2) (preBody n (m + 1))) := by
  have G_law_next := ok_law_next (P := P) (base := base) T
  have G_law_leaf := ok_law_leaf (P := P) (base := base) (n := n) T
  have G_law_call := ok_law_call (P := P) (base := base) T G_law_body
  refine T.F_law_body.ok sc_law_body (fun vs H Q E h => ?_) (fun cdv A outer s H vs Q E hr h => ?_)
  · obtain ⟨h, c, ⟨e, k, z, rfl, _⟩, _⟩ := h
    rfl
  obtain ⟨h, c, ⟨e, k, z, rfl, ez, hk, x⟩, dr, q⟩ := h
  have ez1 : z - 1 = (m : Int) := by omega
  refine ⟨_, PSs.nox (pss_cons (ps_set (i := 4) sc_law_body.nd rfl (by first | exact Or.inl rfl | exact Or.inr rfl) (pe_call G_law_next (hr.mono (by omega)) (by rfl) T.g_law_next T.kp_law_next T.b_law_next .nil pass0 (pa_cons (pv 0) (pa_cons pe_int pa_nil))))
      (pss_cons (ps_if (PW.pt (pw_or (pt_cmpR op_lt (pv 3) pe_int (nomark _)) (pw_or1 (pt_cmpR op_lt (pv 4) pe_int (nomark _))))) (pss_one (ps_ret (pe_call G_law_leaf (hr.mono (by omega)) (by rfl) T.g_law_leaf T.kp_law_leaf T.b_law_leaf .nil pass0 (pa_cons (pv 0) (pa_cons (pv 1) (pa_cons (pv 2) pa_nil)))))) pss_nil)
      (pss_cons (ps_if (pt_cmpR op_lt (pv 4) pe_int (nomark _)) (pss_cons (ps_set (i := 5) sc_law_body.nd rfl (by first | exact Or.inl rfl | exact Or.inr rfl) (pe_call G_law_body (hr.mono (by omega)) (by rfl) T.g_law_body T.kp_law_body T.b_law_body .nil pass0 (pa_cons (pv 0) (pa_cons (pv 1) (pa_cons pe_str (pa_cons (pe_op op_sub (pv 3) pe_int) pa_nil))))))
      (pss_one (ps_ret (pe_tup (pa_cons pe_str (pa_cons (pv 5) (pa_cons (pe_call G_law_body (hr.mono (by omega)) (by rfl) T.g_law_body T.kp_law_body T.b_law_body .nil pass0 (pa_cons (pv 0) (pa_cons (pv 1) (pa_cons (pv 2) (pa_cons (pe_op op_sub (pv 3) pe_int) pa_nil))))) (pa_cons (pe_call G_law_body (hr.mono (by omega)) (by rfl) T.g_law_body T.kp_law_body T.b_law_body .nil pass0 (pa_cons (pv 0) (pa_cons (pv 1) (pa_cons (pv 2) (pa_cons (pe_op op_sub (pv 3) pe_int) pa_nil))))) pa_nil)))))))) pss_nil)
      (pss_cons (ps_if (pt_cmpR op_eq (pv 4) pe_int (nomark _)) (pss_cons (ps_set (i := 6) sc_law_body.nd rfl (by first | exact Or.inl rfl | exact Or.inr rfl) (pe_ix (r := rIxL K) ix_list (pe_lst (pa_cons pe_str (pa_cons pe_str pa_nil))) (pe_call G_law_next (hr.mono (by omega)) (by rfl) T.g_law_next T.kp_law_next T.b_law_next .nil pass0 (pa_cons (pv 0) (pa_cons pe_int pa_nil))) (fun _ _ => rfl)))
      (pss_one (ps_ret (pe_tup (pa_cons pe_str (pa_cons (pe_call G_law_body (hr.mono (by omega)) (by rfl) T.g_law_body T.kp_law_body T.b_law_body .nil pass0 (pa_cons (pv 0) (pa_cons (pv 1) (pa_cons (pv 6) (pa_cons (pe_op op_sub (pv 3) pe_int) pa_nil))))) (pa_cons (pe_call G_law_body (hr.mono (by omega)) (by rfl) T.g_law_body T.kp_law_body T.b_law_body .nil pass0 (pa_cons (pv 0) (pa_cons (pv 1) (pa_cons (pv 2) (pa_cons (pe_op op_sub (pv 3) pe_int) pa_nil))))) pa_nil))))))) pss_nil)
      (pss_cons (ps_if (pt_cmpR op_eq (pv 2) pe_str (nomark _)) (pss_one (ps_ret (pe_call G_law_leaf (hr.mono (by omega)) (by rfl) T.g_law_leaf T.kp_law_leaf T.b_law_leaf .nil pass0 (pa_cons (pv 0) (pa_cons (pv 1) (pa_cons (pv 2) pa_nil)))))) pss_nil)
      (pss_cons (ps_if (pt_cmpR op_lt (pv 4) pe_int (nomark _)) (pss_one (ps_ret (pe_call G_law_call (hr.mono (by omega)) (by rfl) T.g_law_call T.kp_law_call T.b_law_call .nil pass0 (pa_cons (pv 0) (pa_cons (pv 1) (pa_cons (pv 3) pa_nil)))))) pss_nil)
      (pss_cons (ps_if (pt_cmpR op_eq (pv 4) pe_int (nomark _)) (pss_one (ps_ret (pe_tup (pa_cons pe_str (pa_cons (pe_call G_law_body (hr.mono (by omega)) (by rfl) T.g_law_body T.kp_law_body T.b_law_body .nil pass0 (pa_cons (pv 0) (pa_cons (pv 1) (pa_cons pe_str (pa_cons (pe_op op_sub (pv 3) pe_int) pa_nil))))) pa_nil))))) pss_nil)
      (pss_cons (ps_set (i := 7) sc_law_body.nd rfl (by first | exact Or.inl rfl | exact Or.inr rfl) (pe_ix (r := rIxL K) ix_list (pe_lst (pa_cons pe_str (pa_cons pe_str (pa_cons pe_str pa_nil)))) (pe_call G_law_next (hr.mono (by omega)) (by rfl) T.g_law_next T.kp_law_next T.b_law_next .nil pass0 (pa_cons (pv 0) (pa_cons pe_int pa_nil))) (fun _ _ => rfl)))
      (pss_one (ps_ret (pe_tup (pa_cons (pv 7) (pa_cons (pe_call G_law_body (hr.mono (by omega)) (by rfl) T.g_law_body T.kp_law_body T.b_law_body .nil pass0 (pa_cons (pv 0) (pa_cons (pv 1) (pa_cons pe_str (pa_cons (pe_op op_sub (pv 3) pe_int) pa_nil))))) (pa_cons (pe_call G_law_body (hr.mono (by omega)) (by rfl) T.g_law_body T.kp_law_body T.b_law_body .nil pass0 (pa_cons (pv 0) (pa_cons (pv 1) (pa_cons pe_str (pa_cons (pe_op op_sub (pv 3) pe_int) pa_nil))))) pa_nil)))))))))))))), ?_⟩
  refine ⟨_, rfl, h, c, 10, rfl, dr, by decide, by decide, fun r H2 r0 r1 b2 d2 => ?_⟩
  have x2 := x.but dr b2
  have hz : decide (z < 1) = false := decide_eq_false (by omega)
  have leaf : spWord n 1 (preLeaf n) [.ref h, .ref e, .str k] H2 Q E0 := ⟨h, c, ⟨e, k, rfl, hk, x2⟩, d2, fun v H3 b3 d3 w3 => q v H3 (b2.trans b3) d3 (w3.mono (by omega))⟩
  refine ⟨_, rfl, z, 1, rfl, rfl, _, rfl, ?_⟩
  rw [hz]
  refine iteF ?_
  refine ⟨_, rfl, r, 2, rfl, rfl, _, rfl, ite2 (fun _ => ?_) (fun _ => ?_)⟩
  · exact ⟨_, rfl, _, rfl, _, rfl, leaf⟩
  refine ⟨_, rfl, r, 3, rfl, rfl, _, rfl, ite2 (fun _ => ?_) (fun _ => ?_)⟩
  · refine ⟨_, rfl, _, rfl, _, rfl, z, 1, rfl, rfl, h, c, ⟨e, _, _, rfl, ez1, kindN, x2⟩, d2, fun v1 H3 b3 d3 w1 => ?_⟩
    have x3 := x2.but d2 b3
    refine ⟨_, rfl, _, rfl, _, rfl, _, rfl, _, rfl, z, 1, rfl, rfl, h, c, ⟨e, _, _, rfl, ez1, hk, x3⟩, d3, fun v2 H4 b4 d4 w2 => ?_⟩
    have x4 := x3.but d3 b4
    refine ⟨_, rfl, _, rfl, _, rfl, _, rfl, z, 1, rfl, rfl, h, c, ⟨e, _, _, rfl, ez1, hk, x4⟩, d4, fun v3 H5 b5 d5 w3 => ⟨sml 4, fun t ht => ?_⟩⟩
    have k5 := Keep.same (Same.new (o := .tup [.str "if", v1, v2, v3]) ht)
    have k45 := (Keep.but b5 d4).trans k5
    exact q _ _ (b2.trans (b3.trans (b4.trans (b5.trans (But.new ht))))) (d5.same (Same.new ht)) (wd3 .ife 0 upd_same trivial (w1.keep ((Keep.but b4 d3).trans k45)) (w2.keep k45) (w3.keep k5))
  refine ⟨_, rfl, rfl, _, rfl, ite2 (fun _ => ?_) (fun _ => ?_)⟩
  · refine ⟨sml 2, fun l hl => ?_⟩
    have d2' := d2.same (Same.new (o := .lst [.str "number", .str "way"]) hl)
    have nl := Dr.new d2 hl
    refine ⟨_, rfl, h, c, 2, rfl, d2', by decide, by decide, fun r5 H5 r50 r51 b5 d5 => ?_⟩
    obtain ⟨k5, hk5, e5⟩ := two_kinds r5 r50 r51
    have b25 := (But.new (h := h) (c := c) (o := .lst [.str "number", .str "way"]) hl).trans b5
    have x5 := x2.but d2 b25
    refine ⟨l, _, r5, .str k5, rfl, rfl, SqL.of (b5 _ _ nl.1 nl.2 upd_same), e5, ?_⟩
    refine ⟨_, rfl, _, rfl, _, rfl, _, rfl, z, 1, rfl, rfl, h, c, ⟨e, _, _, rfl, ez1, hk5, x5⟩, d5, fun v1 H6 b6 d6 w1 => ?_⟩
    refine ⟨_, rfl, _, rfl, _, rfl, _, rfl, z, 1, rfl, rfl, h, c, ⟨e, _, _, rfl, ez1, hk, x5.but d5 b6⟩, d6, fun v2 H7 b7 d7 w2 => ⟨sml 3, fun t ht => ?_⟩⟩
    have k7 := Keep.same (Same.new (o := .tup [.str "then", v1, v2]) ht)
    exact q _ _ (b2.trans (b25.trans (b6.trans (b7.trans (But.new ht))))) (d7.same (Same.new ht)) (wd2 .thn 0 upd_same trivial (w1.keep ((Keep.but b7 d6).trans k7)) (w2.keep k7))
  refine ⟨_, rfl, rfl, _, rfl, ite2 (fun _ => ?_) (fun _ => ?_)⟩
  · exact ⟨_, rfl, _, rfl, _, rfl, leaf⟩
  refine ⟨_, rfl, r, 8, rfl, rfl, _, rfl, ite2 (fun _ => ?_) (fun _ => ?_)⟩
  · exact ⟨_, rfl, _, rfl, _, rfl, h, c, ⟨e, z, rfl, ez, x2⟩, d2, fun v H3 b3 d3 w3 => q v H3 (b2.trans b3) d3 (w3.mono (by omega))⟩
  refine ⟨_, rfl, rfl, _, rfl, ite2 (fun _ => ?_) (fun _ => ?_)⟩
  · refine ⟨_, rfl, _, rfl, _, rfl, z, 1, rfl, rfl, h, c, ⟨e, _, _, rfl, ez1, kindN, x2⟩, d2, fun v1 H3 b3 d3 w1 => ⟨sml 2, fun t ht => ?_⟩⟩
    have k7 := Keep.same (Same.new (o := .tup [.str "say", v1]) ht)
    exact q _ _ (b2.trans (b3.trans (But.new ht))) (d3.same (Same.new ht)) (wd1 .say 0 upd_same trivial (w1.keep k7))
  · refine ⟨sml 3, fun l hl => ?_⟩
    have d2' := d2.same (Same.new (o := .lst [.str "plus", .str "less", .str "times"]) hl)
    have nl := Dr.new d2 hl
    refine ⟨_, rfl, h, c, 3, rfl, d2', by decide, by decide, fun r5 H5 r50 r51 b5 d5 => ?_⟩
    obtain ⟨o, ho, hg, hf, e5⟩ := three_words r5 r50 r51
    have b25 := (But.new (h := h) (c := c) (o := .lst [.str "plus", .str "less", .str "times"]) hl).trans b5
    have x5 := x2.but d2 b25
    refine ⟨l, _, r5, .str o.name, rfl, rfl, SqL.of (b5 _ _ nl.1 nl.2 upd_same), e5, ?_⟩
    refine ⟨_, rfl, _, rfl, _, rfl, _, rfl, z, 1, rfl, rfl, h, c, ⟨e, _, _, rfl, ez1, kindN, x5⟩, d5, fun v1 H6 b6 d6 w1 => ?_⟩
    refine ⟨_, rfl, _, rfl, _, rfl, z, 1, rfl, rfl, h, c, ⟨e, _, _, rfl, ez1, kindN, x5.but d5 b6⟩, d6, fun v2 H7 b7 d7 w2 => ⟨sml 3, fun t ht => ?_⟩⟩
    have k7 := Keep.same (Same.new (o := .tup [.str o.name, v1, v2]) ht)
    refine q _ _ (b2.trans (b25.trans (b6.trans (b7.trans (But.new ht))))) (d7.same (Same.new ht)) (wd2 o 0 ?_ (hf _ _) (w1.keep ((Keep.but b7 d6).trans k7)) (w2.keep k7) ho)
    rw [upd_same]
    unfold Op.pre
    rw [hg]
    rfl
theorem ok_law_body (T : Txt w K mg) {n : Nat} : ∀ m : Nat, FnOk P w K mg base CX0 (3 * m + 3) (He.ga K "_law_body") (fdOf K d_law_body) ["_law_h", "_law_e", "_law_kind_here", "_law_deep"] (spWord n (m + 2) (preBody n m))
  | 0 => ok_law_body0 T
  | m + 1 => ok_law_bodyS T (ok_law_body T m)
end
end K03

namespace K03
open PySem PySem.Spec PyProof.Rows L2 Ov
section
variable {P : Program} {w : World} {K : PySem.W.Frag} {mg : Str → Option Value} {base : Heap}
theorem sc_law_words : FnScope ["_law_body_here", "_law_arm"] ["_law_body_here"] (defScope s_law_words) := ⟨rfl, rfl, rfl, by decide +kernel, rfl, by decide +kernel, by decide +kernel⟩
-- 0 _law_body_here, 1 _law_arm
theorem ok_law_wordsS (T : Txt w K mg) {d : Nat} (G_law_words : FnOk P w K mg base CX0 d (He.ga K "_law_words") (fdOf K d_law_words) ["_law_body_here"] (spWords d)) :
    FnOk P w K mg base CX0 (d + 1) (He.ga K "_law_words") (fdOf K d_law_words) ["_law_body_here"] (spWords (d + 1)) := by
  refine T.F_law_words.ok sc_law_words (fun vs H Q E h => ?_) (fun cdv A outer s H vs Q E hr h => ?_)
  · obtain ⟨v, n, u, rfl, _⟩ := h
    rfl
  obtain ⟨v, n, u, rfl, hv, ok, q⟩ := h
  cases hv with
  | @mk a o g vs as ha hs =>
  cases ok with
  | mk h1 h2 h3 =>
  refine ⟨_, PSs.nox (pss_one (ps_ret (pe_op op_add pe_int (pe_callB (r := rSum K) (cr_sum rfl) (by rfl) T.z_sum (by decide +kernel) (pa_cons (pe_lc (own := [("_law_arm", 1)]) rfl sc_law_words.nd (Ov.pi_tupK (K := K) rfl (pv 0)) (blkOk_by (own := [("_law_arm", 1)]) (N := ["_law_body_here", "_law_arm"]) (sc := defScope s_law_words) (by decide +kernel)) (fun _ _ _ _ _ => (pg_name (i := 1) sc_law_words.nd rfl (by first | exact Or.inl rfl | exact Or.inr rfl))) (fun _ _ _ _ _ => pts_one (pt_val (pe_callB (r := rIsi K) call_isi (by rfl) T.z_isinstance (by decide +kernel) (pa_cons (pv 1) (pa_cons (pe_bltn (v := .ty "tuple") (by rfl) T.z_tuple (by decide +kernel) rfl) pa_nil))))) (fun _ _ _ _ _ => (pe_call G_law_words (hr.mono (by omega)) (by rfl) T.g_law_words T.kp_law_words T.b_law_words .nil pass0 (pa_cons (pv 1) pa_nil)))) pa_nil))))), ?_⟩
  have hlen := hs.length
  have hl40 : as.length ≤ 3 := by rw [h1]; cases o <;> decide
  have hpre : (o.pre g).length ≤ 1 := by
    unfold Op.pre
    split
    · exact Nat.le_refl 1
    · exact Nat.zero_le 1
  have lt {x : V} {i : Nat} (hi : (.str o.name :: (o.pre g ++ vs) : List V)[i]? = some x) : i < 1 + (o.pre g).length → (∃ y, x = .str y) ∨ ∃ y, x = .int y := fun le => by
    cases i with
    | zero => exact .inl ⟨_, (Option.some.inj hi).symm⟩
    | succ j =>
      have hj : (o.pre g ++ vs)[j]? = some x := hi
      rw [List.getElem?_append_left (by omega)] at hj
      unfold Op.pre at hj
      split at hj
      · exact .inr ⟨g, by
          have := List.mem_of_getElem? hj
          simpa using this⟩
      · simp at hj
  have ge {x : V} {i : Nat} (hi : (.str o.name :: (o.pre g ++ vs) : List V)[i]? = some x) : ¬ i < 1 + (o.pre g).length → vs[i - (1 + (o.pre g).length)]? = some x := fun le => by
    obtain ⟨j, rfl⟩ : ∃ j, i = j + 1 := ⟨i - 1, by omega⟩
    have hj : (o.pre g ++ vs)[j]? = some x := hi
    rw [List.getElem?_append_right (by omega)] at hj
    rw [show j + 1 - (1 + (o.pre g).length) = j - (o.pre g).length by omega]
    exact hj
  refine ⟨_, rfl, a, rfl, ⟨_, SqT.of ha⟩, fun D hD => ?_⟩
  refine lc_tup (K := K) (a := a) (xs := .str o.name :: (o.pre g ++ vs)) (fun i H' => Same H H' ∧ H' D = some (.lst (((as.take (i - (1 + (o.pre g).length))).map fun z => (z.size : Int)).map V.int))) ⟨Same.new hD, by rw [upd_same, show 0 - (1 + (o.pre g).length) = 0 by omega]; rfl⟩ (fun i H' _ p => SqT.of (p.1 _ _ ha)) ?_ ?_
  · rintro i x H2 hi ⟨s2, e2⟩
    refine ⟨rfl, ?_⟩
    by_cases hi0 : i < 1 + (o.pre g).length
    · -- the word's name, what is given
      have e1 : i + 1 - (1 + (o.pre g).length) = i - (1 + (o.pre g).length) := by omega
      rcases lt hi hi0 with ⟨y, rfl⟩ | ⟨y, rfl⟩
      · refine ⟨_, rfl, _, .ty "tuple", .type "str", .type "tuple", false, rfl, .ty _, .base (.str y), k_str_tuple, false, rfl, iteF ⟨s2, ?_⟩⟩
        rw [e1]
        exact e2
      · refine ⟨_, rfl, _, .ty "tuple", .type "int", .type "tuple", false, rfl, .ty _, .base (.int y), k_int_tuple, false, rfl, iteF ⟨s2, ?_⟩⟩
        rw [e1]
        exact e2
    · have hx := ge hi hi0
      obtain ⟨u, hu, hxu⟩ := WsAt.get hs hx
      have hk := h3 u (List.mem_of_getElem? hu)
      have hxu2 := hxu.keep (Keep.same s2)
      obtain ⟨b, xs, rfl, hb⟩ := hxu2.ref
      refine ⟨_, rfl, _, .ty "tuple", .type "tuple", .type "tuple", true, rfl, .ty _, .base (.tup hb), k_tuple_tuple, true, rfl, ?_⟩
      refine ⟨_, rfl, _, n, u, rfl, hxu2, hk, fun H3 s3 => ⟨_, s3 _ _ e2, sm _ (by simp only [List.length_map, List.length_take]; omega), Ov.Same.updn (s2.trans s3) hD, ?_⟩⟩
      rw [upd_same, show i + 1 - (1 + (o.pre g).length) = i - (1 + (o.pre g).length) + 1 by omega, List.take_add_one, hu, List.map_append, List.map_append]
      rfl
  · rintro H2 ⟨s2, e2⟩
    have el : (.str o.name :: (o.pre g ++ vs) : List V).length - (1 + (o.pre g).length) = as.length := by
      rw [List.length_cons, List.length_append, hlen]
      omega
    rw [el, List.take_length] at e2
    refine ⟨D, _, rfl, SqL.of e2, 1, _, rfl, rfl, ?_⟩
    have z : (1 : Int) + ((as.map fun z => (z.size : Int))).sum = ((W.mk o g as).size : Int) := by
      have e := W.sizes_sum as
      rw [W.size_mk]
      omega
    show Q (.int (1 + ((as.map fun z => (z.size : Int))).sum)) H2
    rw [z]
    exact q H2 s2
theorem ok_law_words (T : Txt w K mg) : ∀ d : Nat, FnOk P w K mg base CX0 d (He.ga K "_law_words") (fdOf K d_law_words) ["_law_body_here"] (spWords d)
  | 0 => fn0 fun vs H Q E ⟨_, _, _, _, _, h, _⟩ => nomatch h
  | d + 1 => ok_law_wordsS T (ok_law_words T d)
end
end K03

namespace K03
open PySem PySem.Spec PyProof.Rows L2 Ov
section
variable {P : Program} {w : World} {K : PySem.W.Frag} {mg : Str → Option Value} {base : Heap}
theorem sc_law_program : FnScope ["_law_h", "_law_most", "_law_kinds", "_law_plain", "_law_found", "_law_came", "_law_e", "_law_body_here", "_law_k"] ["_law_h", "_law_most"] (defScope s_law_program) := ⟨rfl, rfl, rfl, by decide +kernel, rfl, by decide +kernel, by decide +kernel⟩
-- 0 _law_h, 1 _law_most, 2 _law_kinds, 3 _law_plain, 4 _law_found, 5 _law_came, 6 _law_e, 7 _law_body_here, 8 _law_k
theorem ok_law_program (T : Txt w K mg) : FnOk P w K mg base CX0 16 (He.ga K "_law_program") (fdOf K d_law_program) ["_law_h", "_law_most"] spProgram := by
  have G_law_next := ok_law_next (P := P) (base := base) T
  have G_law_leaf : FnOk P w K mg base CX0 2 (He.ga K "_law_leaf") (fdOf K d_law_leaf) ["_law_h", "_law_e", "_law_kind_here"] spLeaves := fn_ex (k := fun _ => 2) (fun n => ok_law_leaf T) fun _ => Nat.le_refl _
  have G_law_body : FnOk P w K mg base CX0 15 (He.ga K "_law_body") (fdOf K d_law_body) ["_law_h", "_law_e", "_law_kind_here", "_law_deep"] spBodies := fn_ex (k := fun i : Nat × _root_.Fin 5 => 3 * i.2.val + 3) (fun i => ok_law_body T i.2.val) fun i => by have := i.2.isLt; omega
  have G_law_words := ok_law_words (P := P) (base := base) T 7
  refine T.F_law_program.ok sc_law_program (fun vs H Q E h => ?_) (fun cdv A outer s H vs Q E hr h => ?_)
  · obtain ⟨h, c, m, rfl, _⟩ := h
    rfl
  obtain ⟨h, c, m, rfl, dr, m1, m8, q⟩ := h
  refine ⟨_, PSs.nox (Evl.pss_cut (ps_set (i := 2) sc_law_program.nd rfl (by first | exact Or.inl rfl | exact Or.inr rfl) (pe_op op_cat (pe_lst (pa_cons pe_str pa_nil)) (pe_lc (own := [("_law_k", 8)]) rfl sc_law_program.nd (pi_range1 (by rfl) T.z_range (pa_cons (pe_call G_law_next (hr.mono (by omega)) (by rfl) T.g_law_next T.kp_law_next T.b_law_next .nil pass0 (pa_cons (pv 0) (pa_cons (pv 1) pa_nil))) pa_nil)) (blkOk_by (own := [("_law_k", 8)]) (N := ["_law_h", "_law_most", "_law_kinds", "_law_plain", "_law_found", "_law_came", "_law_e", "_law_body_here", "_law_k"]) (sc := defScope s_law_program) (by decide +kernel)) (fun _ _ _ _ _ => (pg_name (i := 8) sc_law_program.nd rfl (by first | exact Or.inl rfl | exact Or.inr rfl))) (fun _ _ _ _ _ => pts_nil) (fun _ _ _ _ _ => (pe_ix (r := rIxL K) ix_list (pe_lst (pa_cons pe_str (pa_cons pe_str (pa_cons pe_str pa_nil)))) (pe_call G_law_next (hr.mono (by omega)) (by rfl) T.g_law_next T.kp_law_next T.b_law_next .nil pass0 (pa_cons (pv 0) (pa_cons pe_int pa_nil))) (fun _ _ => rfl))))))
      (Evl.pss_cut (ps_setLc (i := 3) (own := [("_law_k", 8)]) rfl sc_law_program.nd rfl rfl (sw_true rfl rfl rfl (by decide +kernel)) (pi_range1 (by rfl) T.z_range (pa_cons (pe_callB (r := Evl.rLenS K) call_len_seq (by rfl) T.z_len PySem.boot_len (pa_cons (pv 2) pa_nil)) pa_nil)) (blkOk_by (own := [("_law_k", 8)]) (N := ["_law_h", "_law_most", "_law_kinds", "_law_plain", "_law_found", "_law_came", "_law_e", "_law_body_here", "_law_k"]) (sc := defScope s_law_program) (by decide +kernel)) (fun _ _ _ _ _ => (pg_name (i := 8) sc_law_program.nd rfl (by first | exact Or.inl rfl | exact Or.inr rfl))) (fun _ _ _ _ _ => (pts_one (pt_cmpR op_eq (pe_ix (r := rIxL K) ix_list (pv 2) (pv 8) (fun _ _ => rfl)) pe_str (nomark _)))) (fun _ _ _ _ _ => (pv 8)))
      (pss_cons (ps_set (i := 4) sc_law_program.nd rfl (by first | exact Or.inl rfl | exact Or.inr rfl) (pe_lst pa_nil))
      (pss_cons (ps_for PassesOwn.never rfl (Ov.pi_listK (K := K) rfl (pv 2)) (pg_name (i := 5) sc_law_program.nd rfl (by first | exact Or.inl rfl | exact Or.inr rfl)) (pss_cons (ps_set (i := 6) sc_law_program.nd rfl (by first | exact Or.inl rfl | exact Or.inr rfl) (pe_disp (pps_cons pe_str (pv 5) (pps_cons pe_str (pv 3) (pps_cons pe_str (pv 2) pps_nil))) (by rfl) (by rfl) (fun z => by cases z) (by decide)))
      (pss_cons (ps_set (i := 7) sc_law_program.nd rfl (by first | exact Or.inl rfl | exact Or.inr rfl) (pe_call G_law_body (hr.mono (by omega)) (by rfl) T.g_law_body T.kp_law_body T.b_law_body .nil pass0 (pa_cons (pv 0) (pa_cons (pv 6) (pa_cons (pe_ix (r := rIxL K) ix_list (pe_lst (pa_cons pe_str (pa_cons pe_str (pa_cons pe_str (pa_cons pe_str pa_nil))))) (pe_call G_law_next (hr.mono (by omega)) (by rfl) T.g_law_next T.kp_law_next T.b_law_next .nil pass0 (pa_cons (pv 0) (pa_cons pe_int pa_nil))) (fun _ _ => rfl)) (pa_cons (pe_op op_add pe_int (pe_call G_law_next (hr.mono (by omega)) (by rfl) T.g_law_next T.kp_law_next T.b_law_next .nil pass0 (pa_cons (pv 0) (pa_cons pe_int pa_nil)))) pa_nil))))))
      (Evl.pss_cut (ps_if (PW.pt (pw_and (pt_cmpR op_eq (pv 5) pe_str (nomark _)) (pw_and1 (pt_cmpR op_gt (pe_call G_law_next (hr.mono (by omega)) (by rfl) T.g_law_next T.kp_law_next T.b_law_next .nil pass0 (pa_cons (pv 0) (pa_cons pe_int pa_nil))) pe_int (nomark _))))) (pss_one (ps_set (i := 7) sc_law_program.nd rfl (by first | exact Or.inl rfl | exact Or.inr rfl) (pe_tup (pa_cons pe_str (pa_cons (pe_tup (pa_cons pe_str pa_nil)) (pa_cons (pv 7) (pa_cons (pe_call G_law_leaf (hr.mono (by omega)) (by rfl) T.g_law_leaf T.kp_law_leaf T.b_law_leaf .nil pass0 (pa_cons (pv 0) (pa_cons (pv 6) (pa_cons pe_str pa_nil)))) pa_nil))))))) pss_nil)
      (Evl.pss_cut (ps_if (pt_cmpR op_gt (pe_call G_law_words (hr.mono (by omega)) (by rfl) T.g_law_words T.kp_law_words T.b_law_words .nil pass0 (pa_cons (pv 7) pa_nil)) pe_int (nomark _)) (pss_one (ps_set (i := 7) sc_law_program.nd rfl (by first | exact Or.inl rfl | exact Or.inr rfl) (pe_call G_law_leaf (hr.mono (by omega)) (by rfl) T.g_law_leaf T.kp_law_leaf T.b_law_leaf .nil pass0 (pa_cons (pv 0) (pa_cons (pv 6) (pa_cons pe_str pa_nil)))))) pss_nil)
      (pss_one (ps_expr (Ov.pe_bmK (K := K) rfl PySem.F.plainAttrs_list PySem.F.slot_list_append PySem.F.type_list_append mt_append (pv 4) (pa_cons (pe_tup (pa_cons (pe_op op_add pe_int (pe_call G_law_next (hr.mono (by omega)) (by rfl) T.g_law_next T.kp_law_next T.b_law_next .nil pass0 (pa_cons (pv 0) (pa_cons (pe_ix (r := rIxL K) ix_list (pe_lst (pa_cons pe_int (pa_cons pe_int pa_nil))) (pe_call G_law_next (hr.mono (by omega)) (by rfl) T.g_law_next T.kp_law_next T.b_law_next .nil pass0 (pa_cons (pv 0) (pa_cons pe_int pa_nil))) (fun _ _ => rfl)) pa_nil)))) (pa_cons (pv 7) pa_nil))) pa_nil)))))))))
      (pss_one (ps_ret (pe_callTy (r := Ov.rTupS K) call_tuple_of (by rfl) T.z_tuple (by decide +kernel) (pa_cons (pv 4) pa_nil)))))))), ?_⟩
  -- the kinds
  refine ⟨fun σ' H' => ∃ (kl : Addr) (ks : List Str), σ' = [some (.ref h), some (.int m), some (.ref kl), none, none, none, none, none, none] ∧ But h c H H' ∧ Dr H' h c ∧ H' kl = some (.lst ((("number" :: ks : List Str)).map V.str)) ∧ ks.length ≤ 7 ∧ (∀ k ∈ ks, KindS k) ∧ kl ≠ h ∧ kl ≠ c, ?_, ?_⟩
  · refine ⟨sml 1, fun l0 hl0 => ?_⟩
    have n0 := Dr.new dr hl0
    refine ⟨_, rfl, _, rfl, h, c, m, rfl, dr.same (Same.new hl0), by omega, by omega, fun r H1 r0 r1 b1 d1 => ⟨r, rfl, by omega, by omega, fun D hD => ?_⟩⟩
    have nD := Dr.new d1 hD
    have h1 := b1 _ _ n0.1 n0.2 upd_same
    refine lc_rangeY (lo := 0) (n := r.toNat) (fun i H' => ∃ ks : List Str, But h c H1 H' ∧ Dr H' h c ∧ H' D = some (.lst (ks.map V.str)) ∧ ks.length = i ∧ ∀ k ∈ ks, KindS k) ⟨[], But.new hD, d1.same (Same.new hD), upd_same, rfl, (fun _ h => nomatch h)⟩ ?_ ?_
    · rintro i H2 hi ⟨ks, b2, d2, e2, hl, hk⟩
      refine ⟨rfl, sml 3, fun l hl3 => ?_⟩
      have nl := Dr.new d2 hl3
      refine ⟨_, rfl, h, c, 3, rfl, d2.same (Same.new hl3), by decide, by decide, fun r3 H3 r30 r31 b3 d3 => ?_⟩
      obtain ⟨k3, hk3, e3⟩ := three_kinds r3 r30 r31
      have b23 := (But.new (h := h) (c := c) (o := .lst [.str "number", .str "number", .str "way"]) hl3).trans b3
      have eD := b23 _ _ nD.1 nD.2 e2
      refine ⟨l, _, r3, .str k3, rfl, rfl, SqL.of (b3 _ _ nl.1 nl.2 upd_same), e3, _, eD, sm _ (by rw [List.length_map]; omega), ks ++ [k3], (b2.trans b23).updn hD, d3.upd nD.1 nD.2, ?_, by rw [List.length_append, hl]; rfl, fun k hk4 => ?_⟩
      · rw [upd_same, List.map_append]; rfl
      · rcases List.mem_append.mp hk4 with z | z
        · exact hk k z
        · rw [List.mem_singleton.mp z]; exact hk3
    · rintro H2 ⟨ks, b2, d2, e2, hl, hk⟩
      have h2 := b2 _ _ n0.1 n0.2 h1
      refine ⟨l0, D, _, _, rfl, rfl, h2, e2, sml _ (by rw [List.length_map, List.length_singleton]; omega), fun p hp => ?_⟩
      have np := Dr.new d2 hp
      exact ⟨p, ks, rfl, (But.new hl0).trans (b1.trans (b2.trans (But.new hp))), d2.same (Same.new hp), upd_same, by omega, hk, np.1, np.2⟩
  rintro σ1 H1 ⟨kl, ks, rfl, b1, d1, hkl, hk7, hks, nkh, nkc⟩
  -- the plain ones
  refine ⟨fun σ' H' => ∃ (pl : Addr) (ps : List Int), σ' = [some (.ref h), some (.int m), some (.ref kl), some (.ref pl), none, none, none, none, none] ∧ Same H1 H' ∧ H' pl = some (.lst (ps.map V.int)) ∧ ps ≠ [] ∧ ps.length ≤ 8 ∧ (∀ z ∈ ps, 0 ≤ z ∧ z < ((ks.length + 1 : Nat) : Int)) ∧ pl ≠ h ∧ pl ≠ c, ?_, ?_⟩
  · refine ⟨_, rfl, kl, _, rfl, .inl (SqL.of hkl), _, rfl, by omega, by rw [List.length_map, List.length_cons]; omega, fun D hD => ?_⟩
    have nD := Dr.new d1 hD
    refine lc_range (lo := 0) (fun i H' => ∃ ps : List Int, Same H1 H' ∧ H' D = some (.lst (ps.map V.int)) ∧ ps.length ≤ i ∧ (∀ z ∈ ps, 0 ≤ z ∧ z < ((ks.length + 1 : Nat) : Int)) ∧ (0 < i → ps ≠ [])) ⟨[], Same.new hD, upd_same, Nat.le_refl _, (fun _ h => nomatch h), fun h => absurd h (Nat.lt_irrefl _)⟩ ?_ ?_
    · rintro i H2 hi ⟨ps, s2, e2, hl, hp, hne⟩
      have hi2 : i < ks.length + 1 := by simp only [List.length_map, List.length_cons] at hi; omega
      refine ⟨rfl, _, rfl, _, rfl, kl, _, _, .str ((("number" :: ks : List Str))[i]'(by rw [List.length_cons]; exact hi2)), rfl, rfl, SqL.of (s2 _ _ hkl), ?_, rfl, _, rfl, ite2 (fun a => ?_) (fun a => ?_)⟩
      · rw [Int.zero_add]
        exact atI_nat (by rw [List.getElem?_map, List.getElem?_eq_getElem (by rw [List.length_cons]; exact hi2)]; rfl)
      · refine ⟨_, rfl, _, e2, sm _ (by rw [List.length_map]; omega), ps ++ [(0 + (i : Int))], Ov.Same.updn s2 hD, ?_, by rw [List.length_append]; exact Nat.succ_le_succ hl, fun z hz => ?_, fun _ z => by simp at z⟩
        · rw [upd_same, List.map_append]; rfl
        · rcases List.mem_append.mp hz with y | y
          · exact hp z y
          · rw [List.mem_singleton.mp y]; omega
      · refine ⟨ps, s2, e2, by omega, hp, fun _ => ?_⟩
        cases i with
        | zero => exact absurd (decide_eq_true rfl) a
        | succ j => exact hne (Nat.succ_pos j)
    · rintro H2 ⟨ps, s2, e2, hl, hp, hne⟩
      exact ⟨D, ps, rfl, s2, e2, hne (by simp only [List.length_map, List.length_cons]; omega), by simp only [List.length_map, List.length_cons] at hl; omega, hp, nD.1, nD.2⟩
  rintro σ2 H2 ⟨pl, ps, rfl, s2, hpl, hp0, hp8, hps, nph, npc⟩
  have d2 := d1.same s2
  have hkl2 := s2 _ _ hkl
  have b2 := b1.trans (But.same s2)
  refine ⟨sml 0, fun fl hfl => ?_⟩
  have nf := Dr.new d2 hfl
  have s3 := Same.new (o := .lst []) hfl
  refine ⟨_, rfl, kl, rfl, ⟨_, SqL.of (s3 _ _ hkl2)⟩, for_list (K := K) (a := kl) (xs := (("number" :: ks : List Str)).map V.str) (fun i σ H' => ∃ (y5 y6 y7 : Option V) (vs : List V) (p : List (Int × W)), σ = [some (.ref h), some (.int m), some (.ref kl), some (.ref pl), some (.ref fl), y5, y6, y7, none] ∧ But h c H2 H' ∧ Dr H' h c ∧ H' fl = some (.lst vs) ∧ Paired (FAt H') vs p ∧ p.length = i ∧ ∀ f ∈ p, FOk (ks.length + 1) f)
    ⟨none, none, none, [], [], rfl, But.same s3, d2.same s3, upd_same, .nil, rfl, (fun _ h => nomatch h)⟩ (fun i σ H' _ ⟨_, _, _, _, _, _, b, _⟩ => SqL.of (b _ _ nkh nkc hkl2)) ?_ ?_⟩
  · rintro i x σ H3 hi ⟨y5, y6, y7, vs, p, rfl, b3, d3, hf, hvs, hlen, hok⟩
    obtain ⟨came, hcm, rfl⟩ : ∃ came, KindS came ∧ x = V.str came := by
      rw [List.getElem?_map] at hi
      cases e : (("number" :: ks : List Str))[i]? with
      | none => rw [e] at hi; cases hi
      | some u =>
        rw [e] at hi
        refine ⟨u, ?_, (Option.some.inj hi).symm⟩
        rcases List.mem_cons.mp (List.mem_of_getElem? e) with z | z
        · rw [z]; exact kindN
        · exact hks u z
    have hi8 : i < ks.length + 1 := by
      have z := (List.getElem?_eq_some_iff.mp hi).1
      rw [List.length_map, List.length_cons] at z
      exact z
    -- what the body is drawn by
    refine fun e he => ⟨_, rfl, _, rfl, _, rfl, upd_same, [(.inr "came", .str came), (.inr "plain", .ref pl), (.inr "kinds", .ref kl)], rfl, (by show 3 ≤ 15; decide), ?_⟩
    have s4 : Same H3 (upd (upd H3 e (.dK [])) e (.dK (mergeK [] [(.inr "came", .str came), (.inr "plain", .ref pl), (.inr "kinds", .ref kl)]))) := by
      rw [upd_upd]
      exact Same.new he
    generalize hH4 : upd (upd H3 e (.dK [])) e (.dK (mergeK [] [(.inr "came", .str came), (.inr "plain", .ref pl), (.inr "kinds", .ref kl)])) = H4 at s4
    have d4 := d3.same s4
    have x4 : preE (ks.length + 1) h c e H4 := ⟨came, pl, kl, ps, "number" :: ks, {
      e := by rw [← hH4]; exact upd_same
      ck := hcm
      p := s4 _ _ (b3 _ _ nph npc hpl)
      p0 := hp0
      p8 := hp8
      pn := hps
      k := s4 _ _ (b3 _ _ nkh nkc hkl2)
      kn := rfl
      n1 := by omega
      n8 := by omega
      kk := fun y hy => by
        rcases List.mem_cons.mp hy with z | z
        · rw [z]; exact kindN
        · exact hks y z
      ph := nph
      pc := npc
      kh := nkh
      kc := nkc }⟩
    have hf4 := s4 _ _ hf
    -- the body
    refine ⟨_, rfl, _, rfl, sml 4, fun l hl => ⟨_, rfl, h, c, 4, rfl, d4.same (Same.new hl), by decide, by decide, fun r5 H5 r50 r51 b5 d5 => ?_⟩⟩
    have nl := Dr.new d4 hl
    obtain ⟨k5, hk5, e5⟩ := four_kinds r5 r50 r51
    have b45 := (But.new (h := h) (c := c) (o := .lst [.str "number", .str "number", .str "number", .str "way"]) hl).trans b5
    refine ⟨l, _, r5, .str k5, rfl, rfl, SqL.of (b5 _ _ nl.1 nl.2 upd_same), e5, ?_⟩
    refine ⟨_, rfl, h, c, 3, rfl, d5, by decide, by decide, fun r6 H6 r60 r61 b6 d6 => ⟨2, r6, rfl, rfl, ?_⟩⟩
    have b46 := b45.trans b6
    refine ⟨(ks.length + 1, ⟨(2 + r6).toNat, by omega⟩), h, c, ⟨e, k5, 2 + r6, rfl, by show 2 + r6 = (((2 + r6).toNat : Nat) : Int); omega, hk5, x4.but d4 b46⟩, d6, fun v7 H7 b7 d7 w7 => ?_⟩
    have b47 := b46.trans b7
    have x7 := x4.but d4 b47
    have w7' : Wd H7 (ks.length + 1) 6 v7 := w7.mono (by show (2 + r6).toNat + 2 ≤ 6; omega)
    have hf7 : H7 fl = some (.lst vs) := b47 _ _ nf.1 nf.2 hf4
    -- if came is a number: an if around it
    refine ⟨fun σ' H' => ∃ v, σ' = [some (.ref h), some (.int m), some (.ref kl), some (.ref pl), some (.ref fl), some (.str came), some (.ref e), some v, none] ∧ But h c H7 H' ∧ Dr H' h c ∧ Wd H' (ks.length + 1) 7 v, ?_, ?_⟩
    · refine ⟨_, rfl, rfl, _, rfl, ite2 (fun _ => ?_) (fun _ => ?_)⟩
      · refine ⟨_, rfl, h, c, 4, rfl, d7, by decide, by decide, fun r8 H8 r80 r81 b8 d8 => ⟨r8, 0, rfl, rfl, _, rfl, ite2 (fun _ => ?_) (fun _ => ?_)⟩⟩
        · refine ⟨sml 1, fun t1 h1 => ⟨_, rfl, _, rfl, _, rfl, ks.length + 1, h, c, ⟨e, _, rfl, kindN, (x7.but d7 b8).but d8 (But.new h1)⟩, d8.same (Same.new h1), fun v9 H9 b9 d9 w9 => ⟨sml 4, fun t ht => ?_⟩⟩⟩
          have n1 := Dr.new d8 h1
          have b89 := (But.new (h := h) (c := c) (o := .tup [.str "argument"]) h1).trans b9
          have k9 := Keep.same (Same.new (o := .tup [.str "if", .ref t1, v7, v9]) ht)
          refine ⟨_, rfl, b8.trans (b89.trans (But.new ht)), d9.same (Same.new ht), wd3 .ife 0 upd_same trivial (Wd.mono (wd0 (d := 0) .arg 0 (k9 _ _ (b9 _ _ n1.1 n1.2 upd_same)) trivial) (by omega)) (w7'.keep ((Keep.but b8 d7).trans ((Keep.but b89 d8).trans k9))) ((w9.mono (by omega)).keep k9)⟩
        · exact ⟨v7, rfl, b8, d8, (w7'.keep (Keep.but b8 d7)).mono (by omega)⟩
      · exact ⟨v7, rfl, But.refl _, d7, w7'.mono (by omega)⟩
    rintro σ8 H8 ⟨v8, rfl, b8, d8, w8⟩
    have b48 := b47.trans b8
    have x8 := x4.but d4 b48
    -- if it is too long: a leaf
    refine ⟨fun σ' H' => ∃ v u, σ' = [some (.ref h), some (.int m), some (.ref kl), some (.ref pl), some (.ref fl), some (.str came), some (.ref e), some v, none] ∧ But h c H8 H' ∧ Dr H' h c ∧ WAt H' v u ∧ WOk (ks.length + 1) 7 u ∧ u.size ≤ 40, ?_, ?_⟩
    · obtain ⟨u8, hu8, ok8⟩ := w8
      refine ⟨_, rfl, v8, _, u8, rfl, hu8, ok8, fun H9 s9 => ⟨_, 40, rfl, rfl, _, rfl, ite2 (fun _ => ?_) (fun a => ?_)⟩⟩
      · refine ⟨_, rfl, _, rfl, ks.length + 1, h, c, ⟨e, _, rfl, kindN, x8.but d8 (But.same s9)⟩, d8.same s9, fun v9 H10 b10 d10 ⟨u9, w9, ok9⟩ => ?_⟩
        exact ⟨v9, u9, rfl, (But.same s9).trans b10, d10, w9, ok9.mono (by omega), by rw [wok1_size ok9]; omega⟩
      · have a2 : ¬ (40 : Int) < (u8.size : Int) := of_decide_eq_false (Bool.eq_false_iff.mpr a)
        exact ⟨v8, u8, rfl, But.same s9, d8.same s9, hu8.keep (Keep.same s9), ok8, by omega⟩
    rintro σ9 H9 ⟨v9, u9, rfl, b9, d9, w9, ok9, z9⟩
    have hf9 : H9 fl = some (.lst vs) := (b8.trans b9) _ _ nf.1 nf.2 hf7
    have b49 := b48.trans b9
    have k39 : Keep H3 H9 := (Keep.same s4).trans (Keep.but b49 d4)
    -- found.append
    refine ⟨_, rfl, .inl ⟨rfl, _, SqL.of hf9⟩, _, rfl, sml 2, fun l2 hl2 => ?_⟩
    have n2 := Dr.new d9 hl2
    refine ⟨_, rfl, h, c, 2, rfl, d9.same (Same.new hl2), by decide, by decide, fun r10 H10 r100 r101 b10 d10 => ?_⟩
    obtain ⟨z10, z1, z8, e10⟩ := two_sizes r10 r100 r101
    refine ⟨l2, _, r10, .int z10, rfl, rfl, SqL.of (b10 _ _ n2.1 n2.2 upd_same), e10, ?_⟩
    refine ⟨h, c, z10, rfl, d10, by omega, by omega, fun r11 H11 r110 r111 b11 d11 => ⟨1, r11, rfl, rfl, _, rfl, sml 2, fun t ht => ?_⟩⟩
    have b9b := (But.new (h := h) (c := c) (o := .lst [.int 2, .int 8]) hl2).trans (b10.trans b11)
    have ntf : fl ≠ t := ne_of_none (b9b _ _ nf.1 nf.2 hf9) ht
    have hf12 : upd H11 t (.tup [.int (1 + r11), v9]) fl = some (.lst vs) := by rw [upd_ne ntf]; exact b9b _ _ nf.1 nf.2 hf9
    have k12 : Keep H9 (upd H11 t (.tup [.int (1 + r11), v9])) := (Keep.but b9b d9).trans (Keep.same (Same.new ht))
    have kL := Keep.updL (ys := vs ++ [V.ref t]) hf12
    have hvlen := hvs.length
    refine ⟨fl, vs, _, rfl, rfl, hf12, sm _ (by omega), _, _, _, vs ++ [V.ref t], p ++ [(1 + r11, u9)], rfl, ?_, ?_, upd_same, ?_, ?_, ?_⟩
    · exact (b3.trans ((But.same s4).trans (b49.trans (b9b.trans (But.new ht))))).updn hfl
    · exact (d11.same (Same.new ht)).upd nf.1 nf.2
    · exact (L2.Paired.mapP hvs fun _ _ z => z.keep (k39.trans (k12.trans kL))).snoc ⟨t, v9, rfl, kL _ _ upd_same, w9.keep (k12.trans kL)⟩
    · rw [List.length_append, hlen]; rfl
    · intro f hf2
      rcases List.mem_append.mp hf2 with z | z
      · exact hok f z
      · rw [List.mem_singleton.mp z]
        exact ⟨by show 1 ≤ 1 + r11; omega, by show 1 + r11 ≤ 8; omega, ok9, z9⟩
  · rintro σ H3 ⟨y5, y6, y7, vs, p, rfl, b3, d3, hf, hvs, hlen, hok⟩
    rw [List.length_map, List.length_cons] at hlen
    refine ⟨_, rfl, fl, vs, rfl, .inl ⟨SqL.of hf, fun t ht => ?_⟩⟩
    have kt := Keep.same (Same.new (o := .tup vs) ht)
    refine q _ _ p (b2.trans (b3.trans (But.new ht))) (d3.same (Same.new ht)) ⟨t, vs, rfl, upd_same, L2.Paired.mapP hvs fun _ _ z => z.keep kt⟩ ⟨by omega, by omega, fun f hf2 => ?_⟩
    rw [hlen]
    exact hok f hf2
end
end K03

namespace K03
open PySem PySem.Spec PyProof.Rows L2 Ov
section
variable {P : Program} {w : World} {K : PySem.W.Frag} {mg : Str → Option Value} {base : Heap}
theorem sc_law_tree : FnScope ["_law_h", "_law_program_here", "_law_parts", "_law_function", "_law_k", "_law_left", "_law_order", "_law_stands", "_law_part"] ["_law_h", "_law_program_here"] (defScope s_law_tree) := ⟨rfl, rfl, rfl, by decide +kernel, rfl, by decide +kernel, by decide +kernel⟩
-- 0 _law_h, 1 _law_program_here, 2 _law_parts, 3 _law_function, 4 _law_k, 5 _law_left, 6 _law_order, 7 _law_stands, 8 _law_part
theorem ok_law_tree (T : Txt w K mg) : FnOk P w K mg base CX0 2 (He.ga K "_law_tree") (fdOf K d_law_tree) ["_law_h", "_law_program_here"] spTree := by
  have G_law_next := ok_law_next (P := P) (base := base) T
  refine T.F_law_tree.ok sc_law_tree (fun vs H Q E h => ?_) (fun cdv A outer s H vs Q E hr h => ?_)
  · obtain ⟨h, c, a, n, vp, rfl, _⟩ := h
    rfl
  obtain ⟨h, c, a, n, vp, rfl, dr, hp, hvp, n1, n8, q⟩ := h
  refine ⟨_, PSs.nox (pss_cons (ps_set (i := 2) sc_law_tree.nd rfl (by first | exact Or.inl rfl | exact Or.inr rfl) (pe_lst pa_nil))
      (Evl.pss_cut (ps_for PassesOwn.never rfl (pi_range1 (by rfl) T.z_range (pa_cons (pe_callB (r := Evl.rLenS K) call_len_seq (by rfl) T.z_len PySem.boot_len (pa_cons (pv 1) pa_nil)) pa_nil)) (pg_name (i := 3) sc_law_tree.nd rfl (by first | exact Or.inl rfl | exact Or.inr rfl)) (pss_cons (ps_set (i := 4) sc_law_tree.nd rfl (by first | exact Or.inl rfl | exact Or.inr rfl) (pe_call G_law_next (hr.mono (by omega)) (by rfl) T.g_law_next T.kp_law_next T.b_law_next .nil pass0 (pa_cons (pv 0) (pa_cons (pe_op op_add (pe_op op_add (pe_callB (r := Evl.rLenS K) call_len_seq (by rfl) T.z_len PySem.boot_len (pa_cons (pv 2) pa_nil)) pe_int) (pe_call G_law_next (hr.mono (by omega)) (by rfl) T.g_law_next T.kp_law_next T.b_law_next .nil pass0 (pa_cons (pv 0) (pa_cons pe_int pa_nil)))) pa_nil))))
      (Evl.pss_cut (ps_if (pt_cmpR op_ge (pv 4) (pe_callB (r := Evl.rLenS K) call_len_seq (by rfl) T.z_len PySem.boot_len (pa_cons (pv 2) pa_nil)) (nomark _)) (pss_cons (ps_expr (Ov.pe_bmK (K := K) rfl PySem.F.plainAttrs_list PySem.F.slot_list_append PySem.F.type_list_append mt_append (pv 2) (pa_cons (pe_lst pa_nil) pa_nil)))
      (pss_one (ps_set (i := 4) sc_law_tree.nd rfl (by first | exact Or.inl rfl | exact Or.inr rfl) (pe_op op_sub (pe_callB (r := Evl.rLenS K) call_len_seq (by rfl) T.z_len PySem.boot_len (pa_cons (pv 2) pa_nil)) pe_int)))) pss_nil)
      (pss_one (ps_expr (Ov.pe_bmK (K := K) rfl PySem.F.plainAttrs_list PySem.F.slot_list_append PySem.F.type_list_append mt_append (pe_ix (r := rIxL K) ix_list (pv 2) (pv 4) (fun _ _ => rfl)) (pa_cons (pv 3) pa_nil)))))))
      (pss_cons (ps_set (i := 5) sc_law_tree.nd rfl (by first | exact Or.inl rfl | exact Or.inr rfl) (pe_listRg rfl (by rfl) T.z_list (prg_1 (by rfl) T.z_range (pe_callB (r := Evl.rLenS K) call_len_seq (by rfl) T.z_len PySem.boot_len (pa_cons (pv 2) pa_nil)))))
      (pss_cons (ps_setLc (i := 6) (own := [("_law_k", 4)]) rfl sc_law_tree.nd rfl rfl (sw_true rfl rfl rfl (by decide +kernel)) (pi_range1 (by rfl) T.z_range (pa_cons (pe_callB (r := Evl.rLenS K) call_len_seq (by rfl) T.z_len PySem.boot_len (pa_cons (pv 2) pa_nil)) pa_nil)) (blkOk_by (own := [("_law_k", 4)]) (N := ["_law_h", "_law_program_here", "_law_parts", "_law_function", "_law_k", "_law_left", "_law_order", "_law_stands", "_law_part"]) (sc := defScope s_law_tree) (by decide +kernel)) (fun _ _ _ _ _ => (pg_name (i := 4) sc_law_tree.nd rfl (by first | exact Or.inl rfl | exact Or.inr rfl))) (fun _ _ _ _ _ => pts_nil) (fun _ _ _ _ _ => (Ov.pe_bmK (K := K) rfl PySem.F.plainAttrs_list PySem.F.slot_list_pop PySem.F.type_list_pop mt_popAt (pv 5) (pa_cons (pe_call G_law_next (hr.mono (by omega)) (by rfl) T.g_law_next T.kp_law_next T.b_law_next .nil pass0 (pa_cons (pv 0) (pa_cons (pe_callB (r := Evl.rLenS K) call_len_seq (by rfl) T.z_len PySem.boot_len (pa_cons (pv 5) pa_nil)) pa_nil))) pa_nil))))
      (pss_cons (ps_set (i := 7) sc_law_tree.nd rfl (by first | exact Or.inl rfl | exact Or.inr rfl) (pe_op op_rep (pe_lst (pa_cons (pe_un un_neg pe_int) pa_nil)) (pe_callB (r := Evl.rLenS K) call_len_seq (by rfl) T.z_len PySem.boot_len (pa_cons (pv 2) pa_nil))))
      (Evl.pss_cut (ps_for PassesOwn.never rfl (pi_range2 (by rfl) T.z_range (pa_cons pe_int (pa_cons (pe_callB (r := Evl.rLenS K) call_len_seq (by rfl) T.z_len PySem.boot_len (pa_cons (pv 6) pa_nil)) pa_nil))) (pg_name (i := 4) sc_law_tree.nd rfl (by first | exact Or.inl rfl | exact Or.inr rfl)) (pss_one (ps_asg (pe_ix (r := rIxL K) ix_list (pe_op op_cat (pe_lst (pa_cons (pe_un un_neg pe_int) pa_nil)) (pe_slice (r := rSlL K) sl_list (pv 6) po_none (po_some (pv 4)))) (pe_call G_law_next (hr.mono (by omega)) (by rfl) T.g_law_next T.kp_law_next T.b_law_next .nil pass0 (pa_cons (pv 0) (pa_cons (pe_op op_add (pv 4) pe_int) pa_nil))) (fun _ _ => rfl)) (pg_sub (pv 7) (pe_ix (r := rIxL K) ix_list (pv 6) (pv 4) (fun _ _ => rfl)) set_list))))
      (pss_one (ps_ret (pe_tup (pa_cons (pe_callTy (r := Ov.rTupS K) call_tuple_of (by rfl) T.z_tuple (by decide +kernel) (pa_cons (pe_lc (own := [("_law_part", 8)]) rfl sc_law_tree.nd (Ov.pi_listK (K := K) rfl (pv 2)) (blkOk_by (own := [("_law_part", 8)]) (N := ["_law_h", "_law_program_here", "_law_parts", "_law_function", "_law_k", "_law_left", "_law_order", "_law_stands", "_law_part"]) (sc := defScope s_law_tree) (by decide +kernel)) (fun _ _ _ _ _ => (pg_name (i := 8) sc_law_tree.nd rfl (by first | exact Or.inl rfl | exact Or.inr rfl))) (fun _ _ _ _ _ => pts_nil) (fun _ _ _ _ _ => (pe_callTy (r := Ov.rTupS K) call_tuple_of (by rfl) T.z_tuple (by decide +kernel) (pa_cons (pv 8) pa_nil)))) pa_nil)) (pa_cons (pe_callTy (r := Ov.rTupS K) call_tuple_of (by rfl) T.z_tuple (by decide +kernel) (pa_cons (pv 7) pa_nil)) pa_nil))))))))))), ?_⟩
  refine ⟨sml 0, fun pl hpl => ?_⟩
  have npl := Dr.new dr hpl
  -- the parts
  refine ⟨fun σ' H' => ∃ (bs : List Addr) (ps : List (List Nat)) (y3 y4 : Option V), σ' = [some (.ref h), some (.ref a), some (.ref pl), y3, y4, none, none, none, none] ∧ But h c H H' ∧ Dr H' h c ∧ H' pl = some (.lst (bs.map V.ref)) ∧ bs.Nodup ∧ LsAt H' bs ps ∧ PInv n ps ∧ ∀ b ∈ bs, b ≠ h ∧ b ≠ c ∧ b ≠ pl, ?_, ?_⟩
  · refine ⟨_, rfl, a, vp, rfl, .inr (SqT.of (Same.new hpl _ _ hp)), _, rfl, by omega, by omega, for_range (lo := 0) (n := ((vp.length : Nat) : Int).toNat) (fun i σ' H' => ∃ (bs : List Addr) (ps : List (List Nat)) (y3 y4 : Option V), σ' = [some (.ref h), some (.ref a), some (.ref pl), y3, y4, none, none, none, none] ∧ But h c H H' ∧ Dr H' h c ∧ H' pl = some (.lst (bs.map V.ref)) ∧ bs.Nodup ∧ LsAt H' bs ps ∧ PInv i ps ∧ ∀ b ∈ bs, H b = none ∧ b ≠ h ∧ b ≠ c ∧ b ≠ pl)
      ⟨[], [], none, none, rfl, But.new hpl, dr.same (Same.new hpl), upd_same, List.nodup_nil, .nil, ⟨(fun _ h => nomatch h), (fun _ h => nomatch h), List.Pairwise.nil, List.Perm.refl _⟩, (fun _ h => nomatch h)⟩ ?_ ?_⟩
    · rintro i σ H1 hi ⟨bs, ps, y3, y4, rfl, b1, d1, hpl1, nd, ls, pv, hbs⟩
      rw [Int.toNat_natCast, hvp] at hi
      have hcount := pv.count
      have hlen : bs.length = ps.length := Paired.length ls
      have hrl : (bs.map V.ref).length = ps.length := by rw [List.length_map, hlen]
      -- k = next
      refine ⟨_, rfl, _, rfl, pl, _, rfl, .inl (SqL.of hpl1), _, 1, rfl, rfl, ?_⟩
      refine ⟨_, rfl, h, c, 2, rfl, d1, by decide, by decide, fun r1 H2 r10 r11 b2 d2 => ⟨_, r1, rfl, rfl, ?_⟩⟩
      refine ⟨h, c, _, rfl, d2, by rw [hrl]; omega, by rw [hrl]; omega, fun r H3 r0 r1 b3 d3 => ?_⟩
      have b23 := b2.trans b3
      have hpl3 := b23 _ _ npl.1 npl.2 hpl1
      have ls3 : LsAt H3 bs ps := LsAt.keep (fun b hb o ho => b23 b o (hbs b hb).2.1 (hbs b hb).2.2.1 ho) ls
      -- if k >= len(parts)
      refine ⟨fun σ' H' => ∃ (bs : List Addr) (ps : List (List Nat)) (j : Nat) (p : List Nat), σ' = [some (.ref h), some (.ref a), some (.ref pl), some (.int (0 + (i : Int))), some (.int (j : Int)), none, none, none, none] ∧ But h c H H' ∧ Dr H' h c ∧ H' pl = some (.lst (bs.map V.ref)) ∧ bs.Nodup ∧ LsAt H' bs ps ∧ ps[j]? = some p ∧ p.length ≤ i ∧ PInv (i + 1) (ps.set j (p ++ [i])) ∧ ∀ b ∈ bs, H b = none ∧ b ≠ h ∧ b ≠ c ∧ b ≠ pl, ?_, ?_⟩
      · refine ⟨_, rfl, _, rfl, pl, _, rfl, .inl (SqL.of hpl3), r, _, rfl, rfl, _, rfl, ite2 (fun _ => ?_) (fun ck => ?_)⟩
        · refine ⟨_, rfl, .inl ⟨rfl, _, SqL.of hpl3⟩, sml 0, fun b hb => ?_⟩
          have nb := Dr.new d3 hb
          have npb : pl ≠ b := ne_of_none hpl3 hb
          have hpl4 : upd H3 b (.lst []) pl = some (.lst (bs.map V.ref)) := by rw [upd_ne npb]; exact hpl3
          have nbs : ∀ b' ∈ bs, b' ≠ b := fun b' hb' => by
            obtain ⟨q, hq⟩ := ls3.mem b' hb'
            exact ne_of_none hq hb
          have fb : H b = none := by
            cases e : H b with
            | none => rfl
            | some o =>
              have := (b1.trans b23) b o nb.1 nb.2 e
              rw [hb] at this
              cases this
          refine ⟨pl, _, _, rfl, rfl, hpl4, sm _ (by rw [hrl]; omega), ?_⟩
          refine ⟨_, rfl, pl, _, rfl, .inl (SqL.of upd_same), _, 1, rfl, rfl, ?_⟩
          refine ⟨bs ++ [b], ps ++ [[]], ps.length, [], ?_, ?_, ?_, ?_, ?_, ?_, ?_, Nat.zero_le _, ?_, ?_⟩
          · have e : (((bs.map V.ref ++ [V.ref b]).length : Nat) : Int) - 1 = (ps.length : Int) := by
              rw [List.length_append, hrl, List.length_singleton]
              omega
            show [some (V.ref h), some (.ref a), some (.ref pl), some (.int (0 + (i : Int))), some (.int ((((bs.map V.ref ++ [V.ref b]).length : Nat) : Int) - 1)), none, none, none, none] = _
            rw [e]
          · exact (((b1.trans b23).trans (But.new hb))).updn hpl
          · exact (d3.same (Same.new hb)).upd npl.1 npl.2
          · rw [upd_same, List.map_append]; rfl
          · rw [List.nodup_append]
            exact ⟨nd, by simp, fun x hx y hy => by rw [List.mem_singleton.mp hy]; exact nbs x hx⟩
          · refine Paired.snoc (LsAt.keep (fun b' hb' o ho => ?_) ls3) ?_
            · rw [upd_ne (hbs b' hb').2.2.2, upd_ne (nbs b' hb')]
              exact ho
            · rw [upd_ne npb.symm, upd_same]
              rfl
          · rw [List.getElem?_append_right (Nat.le_refl _), Nat.sub_self]
            rfl
          · rw [set_last]
            exact pv.app
          · intro b' hb'
            rcases List.mem_append.mp hb' with z | z
            · exact hbs b' z
            · rw [List.mem_singleton.mp z]
              exact ⟨fb, nb.1, nb.2, npb.symm⟩
        · have ck2 : ¬ (((bs.map V.ref).length : Nat) : Int) ≤ r := of_decide_eq_false (Bool.eq_false_iff.mpr ck)
          rw [hrl] at ck2
          obtain ⟨j, rfl⟩ : ∃ j : Nat, r = (j : Int) := ⟨r.toNat, by omega⟩
          have hj : j < ps.length := by omega
          exact ⟨bs, ps, j, ps[j], rfl, b1.trans b23, d3, hpl3, nd, ls3, List.getElem?_eq_getElem hj, pv.plen (List.getElem_mem hj), pv.set (List.getElem?_eq_getElem hj), hbs⟩
      rintro σ4 H4 ⟨bs, ps, j, p, rfl, b4, d4, hpl4, nd, ls4, hj, hpi, pv4, hbs⟩
      obtain ⟨b, hbj, hb⟩ := ls4.get hj
      refine ⟨_, rfl, _, rfl, pl, _, j, .ref b, rfl, rfl, SqL.of hpl4, atI_nat (by rw [List.getElem?_map, hbj]; rfl), .inl ⟨rfl, _, SqL.of hb⟩, ?_⟩
      refine ⟨_, rfl, b, _, _, rfl, rfl, hb, sm _ (by rw [nV_len]; omega), ?_⟩
      have nb := hbs b (List.mem_of_getElem? hbj)
      have e : nV p ++ [V.int (0 + (i : Int))] = nV (p ++ [i]) := by rw [nV_app, Int.zero_add]
      rw [e]
      exact ⟨bs, _, _, _, rfl, b4.updn nb.1, d4.upd nb.2.1 nb.2.2.1, by rw [upd_ne nb.2.2.2.symm]; exact hpl4, nd, ls4.set nd hbj, pv4, hbs⟩
    · rintro σ H1 ⟨bs, ps, y3, y4, rfl, b1, d1, hpl1, nd, ls, pv, hbs⟩
      rw [Int.toNat_natCast, hvp] at pv
      exact ⟨bs, ps, y3, y4, rfl, b1, d1, hpl1, nd, ls, pv, fun b hb => (hbs b hb).2⟩
  rintro σ1 H1 ⟨bs, ps, y3, y4, rfl, b1, d1, hpl1, nd, ls, pv, hbs⟩
  have hcount := pv.count
  have hpos := pv.pos (by omega)
  have hlen : bs.length = ps.length := Paired.length ls
  have hrl : (bs.map V.ref).length = ps.length := by rw [List.length_map, hlen]
  -- left = list(range(len(parts)))
  refine ⟨_, rfl, pl, _, rfl, .inl (SqL.of hpl1), _, rfl, RgOk.of_le (by omega) (by omega) (by omega) (by omega), fun l hl => ?_⟩
  have nl := Dr.new d1 hl
  have erg : rgV 0 (((bs.map V.ref).length : Nat) : Int) = nV (List.range ps.length) := by rw [hrl, rgV_nV]
  rw [erg]
  have s2 := Same.new (o := .lst (nV (List.range ps.length))) hl
  have d2 := d1.same s2
  have hpl2 := s2 _ _ hpl1
  have ls2 : LsAt _ bs ps := LsAt.keep (fun b hb o ho => s2 b o ho) ls
  have npll : pl ≠ l := ne_of_none hpl1 hl
  have nbl : ∀ b ∈ bs, b ≠ l := fun b hb => by
    obtain ⟨q, hq⟩ := ls.mem b hb
    exact ne_of_none hq hl
  -- order
  refine ⟨_, rfl, pl, _, rfl, .inl (SqL.of hpl2), _, rfl, by omega, by omega, fun D hD => ?_⟩
  have nD := Dr.new d2 hD
  have nDl : l ≠ D := ne_of_none upd_same hD
  have nplD : pl ≠ D := ne_of_none hpl2 hD
  have nbD : ∀ b ∈ bs, b ≠ D := fun b hb => by
    obtain ⟨q, hq⟩ := ls2.mem b hb
    exact ne_of_none hq hD
  have fl1 : H l = none := by
    cases e : H l with
    | none => rfl
    | some o =>
      have := b1 l o nl.1 nl.2 e
      rw [hl] at this
      cases this
  have fD1 : H D = none := by
    cases e : H D with
    | none => rfl
    | some o =>
      have := s2 D o (b1 D o nD.1 nD.2 e)
      rw [hD] at this
      cases this
  refine lc_rangeY (lo := 0) (n := (((bs.map V.ref).length : Nat) : Int).toNat) (fun i H' => ∃ od lf : List Nat, But h c H H' ∧ Dr H' h c ∧ H' pl = some (.lst (bs.map V.ref)) ∧ LsAt H' bs ps ∧ H' l = some (.lst (nV lf)) ∧ H' D = some (.lst (nV od)) ∧ od.length = i ∧ (od ++ lf).Perm (List.range ps.length))
    ⟨[], List.range ps.length, (b1.trans (But.same s2)).trans (But.new hD), d2.same (Same.new hD), by rw [upd_ne nplD]; exact hpl2, LsAt.keep (fun b hb o ho => Same.new hD _ _ ho) ls2, by rw [upd_ne nDl, upd_same], upd_same, rfl, List.Perm.refl _⟩ ?_ ?_
  · rintro i H3 hi ⟨od, lf, b3, d3, hpl3, ls3, hl3, hD3, hod, hpm⟩
    rw [Int.toNat_natCast, hrl] at hi
    have hlf : od.length + lf.length = ps.length := by
      have z := hpm.length_eq
      rw [List.length_append, List.length_range] at z
      exact z
    refine ⟨rfl, _, rfl, .inl ⟨rfl, _, SqL.of hl3⟩, _, rfl, _, rfl, l, _, rfl, .inl (SqL.of hl3), ?_⟩
    refine ⟨h, c, _, rfl, d3, by rw [nV_len]; omega, by rw [nV_len]; omega, fun r H4 r0 r1 b4 d4 => ?_⟩
    rw [nV_len] at r1
    obtain ⟨j, rfl⟩ : ∃ j : Nat, r = (j : Int) := ⟨r.toNat, by omega⟩
    have hj : j < lf.length := by omega
    have hl4 := b4 _ _ nl.1 nl.2 hl3
    have hD4 := b4 _ _ nD.1 nD.2 hD3
    have hjx := List.getElem?_eq_getElem hj
    refine ⟨l, nV lf, j, j, .int ((lf[j] : Nat) : Int), rfl, rfl, hl4, by omega, by omega, ?_, nV_get hjx, ?_⟩
    · have z : ((j : Nat) : Int) < (((nV lf).length : Nat) : Int) := by rw [nV_len]; omega
      rw [PySem.seqIndex_of (by omega) z, Int.toNat_natCast]
    refine ⟨nV od, by rw [upd_ne nDl.symm]; exact hD4, sm _ (by rw [nV_len]; omega), od ++ [lf[j]], lf.eraseIdx j, ((b3.trans b4).updn fl1).updn fD1, (d4.upd nl.1 nl.2).upd nD.1 nD.2, ?_, ?_, ?_, ?_, by rw [List.length_append, hod]; rfl, ?_⟩
    · rw [upd_ne nplD, upd_ne npll]; exact b4 _ _ npl.1 npl.2 hpl3
    · refine LsAt.keep (fun b hb o ho => ?_) ls3
      rw [upd_ne (nbD b hb), upd_ne (nbl b hb)]
      exact b4 b o (hbs b hb).1 (hbs b hb).2.1 ho
    · rw [upd_ne nDl, upd_same, nV_erase]
    · rw [upd_same, nV_app]
    · rw [List.append_assoc]
      exact (List.Perm.append_left od (Ov.erase_perm lf j _ hjx)).trans hpm
  rintro H3 ⟨od, lf, b3, d3, hpl3, ls3, hl3, hD3, hod, hpm⟩
  rw [Int.toNat_natCast, hrl] at hod
  have elf : lf = [] := by
    have z := hpm.length_eq
    rw [List.length_append, List.length_range, hod] at z
    exact List.length_eq_zero_iff.mp (by omega)
  subst elf
  rw [List.append_nil] at hpm
  have hodn : od.Nodup := hpm.nodup_iff.mpr List.nodup_range
  have hodlt : ∀ x ∈ od, x < ps.length := fun x hx => List.mem_range.mp (hpm.mem_iff.mp hx)
  -- stands
  refine ⟨1, rfl, sml 1, fun l2 hl2 => ⟨_, rfl, pl, _, rfl, .inl (SqL.of (Same.new hl2 _ _ hpl3)), ?_⟩⟩
  refine ⟨l2, (((bs.map V.ref).length : Nat) : Int), _, rfl, rfl, upd_same, by omega, by omega, sml _ (by rw [List.length_singleton, Int.toNat_natCast, hrl]; omega), fun sl hsl => ?_⟩
  have erep : (List.replicate (((bs.map V.ref).length : Nat) : Int).toNat [V.int (-1)]).flatten = (List.replicate ps.length (-1 : Int)).map V.int := by rw [rep_neg, hrl]
  rw [erep]
  have s4 : Same H3 (upd (upd H3 l2 (.lst [V.int (-1)])) sl (.lst ((List.replicate ps.length (-1 : Int)).map V.int))) := (Same.new hl2).trans (Same.new hsl)
  have nsl := Dr.new (d3.same (Same.new hl2)) hsl
  have fsl := Same.free (Same.new (o := .lst [V.int (-1)]) hl2) hsl
  refine ⟨fun σ' H' => ∃ (st : List Int) (y4 : Option V), σ' = [some (.ref h), some (.ref a), some (.ref pl), y3, y4, some (.ref l), some (.ref D), some (.ref sl), none] ∧ But h c H3 H' ∧ Dr H' h c ∧ H' sl = some (.lst (st.map V.int)) ∧ st.length = ps.length ∧ SInv od st, ?_, ?_⟩
  · refine ⟨_, rfl, D, _, rfl, .inl (SqL.of (s4 _ _ hD3)), 1, _, rfl, ⟨by omega, by omega, by rw [nV_len]; omega, by rw [nV_len]; omega⟩, for_range (lo := 1) (n := ((((nV od).length : Nat) : Int) - 1).toNat) (fun i σ' H' => ∃ (st : List Int) (y4 : Option V), σ' = [some (.ref h), some (.ref a), some (.ref pl), y3, y4, some (.ref l), some (.ref D), some (.ref sl), none] ∧ But h c H3 H' ∧ Dr H' h c ∧ H' sl = some (.lst (st.map V.int)) ∧ st.length = ps.length ∧ SInv od st)
      ⟨List.replicate ps.length (-1), y4, rfl, But.same s4, d3.same s4, upd_same, List.length_replicate, SInv.start od _ hodlt⟩ ?_ ?_⟩
    · rintro i σ H5 hi ⟨st, y4', rfl, b5, d5, hst, hstl, sinv⟩
      have hk : 1 + i < od.length := by rw [nV_len] at hi; omega
      have hD5 := b5 _ _ nD.1 nD.2 hD3
      refine ⟨1, rfl, sml 1, fun l3 hl3 => ?_⟩
      have s6 := Same.new (o := .lst [V.int (-1)]) hl3
      refine ⟨_, rfl, _, rfl, _, rfl, D, _, rfl, SqL.of (s6 _ _ hD5), fun l4 hl4 => ?_⟩
      have ek : (1 : Int) + (i : Int) = (((1 + i : Nat)) : Int) := by omega
      rw [ek, cut_to (nV od) (1 + i) (by rw [nV_len]; omega)]
      have s7 := Same.new (o := .lst ((nV od).take (1 + i))) hl4
      refine ⟨l3, l4, _, _, rfl, rfl, s7 _ _ upd_same, upd_same, sml _ (by rw [List.length_take, nV_len, List.length_singleton]; omega), fun l5 hl5 => ?_⟩
      have s8 := Same.new (o := .lst ([V.int (-1)] ++ (nV od).take (1 + i))) hl5
      have d8 := ((d5.same s6).same s7).same s8
      have n5 := Dr.new ((d5.same s6).same s7) hl5
      refine ⟨_, rfl, _, rfl, _, 1, rfl, rfl, h, c, _, rfl, d8, by omega, by omega, fun r H9 r0 r1 b9 d9 => ?_⟩
      have b59 : But h c H5 H9 := (But.same (s6.trans (s7.trans s8))).trans b9
      have hD9 := b59 _ _ nD.1 nD.2 hD5
      have hst9 := b59 _ _ nsl.1 nsl.2 hst
      obtain ⟨z, hz, ez⟩ : ∃ z : Int, (z = -1 ∨ ∃ (j y : Nat), j < 1 + i ∧ od[j]? = some y ∧ z = ((y : Nat) : Int)) ∧ atI ([V.int (-1)] ++ (nV od).take (1 + i)) r = some (.int z) := by
        obtain ⟨j, rfl⟩ : ∃ j : Nat, r = (j : Int) := ⟨r.toNat, by omega⟩
        cases j with
        | zero => exact ⟨-1, .inl rfl, atI_nat (j := 0) rfl⟩
        | succ j =>
          have hj : j < 1 + i := by omega
          have hjo : j < od.length := by omega
          refine ⟨((od[j] : Nat) : Int), .inr ⟨j, od[j], hj, List.getElem?_eq_getElem hjo, rfl⟩, atI_nat ?_⟩
          show ((nV od).take (1 + i))[j]? = _
          rw [List.getElem?_take, if_pos hj]
          exact nV_get (List.getElem?_eq_getElem hjo)
      refine ⟨l5, _, r, .int z, rfl, rfl, SqL.of (b9 _ _ n5.1 n5.2 upd_same), ez, ?_⟩
      have hx := List.getElem?_eq_getElem hk
      have hxm : od[1 + i] < st.length := by rw [hstl]; exact hodlt _ (List.getElem_mem hk)
      refine ⟨_, rfl, _, rfl, _, rfl, D, _, _, .int ((od[1 + i] : Nat) : Int), rfl, rfl, SqL.of hD9, atI_nat (nV_get hx), ?_⟩
      refine ⟨sl, _, _, od[1 + i], rfl, rfl, hst9, Evl.ixN_nat (by rw [List.length_map]; exact hxm), ?_⟩
      refine ⟨st.set od[1 + i] z, _, rfl, (b5.trans b59).updn fsl, d9.upd nsl.1 nsl.2, by rw [upd_same, List.map_set], by rw [List.length_set]; exact hstl, sinv.set hodn hx hxm hz⟩
    · rintro σ H5 ⟨st, y4', rfl, b5, d5, hst, hstl, sinv⟩
      exact ⟨st, y4', rfl, b5, d5, hst, hstl, sinv⟩
  rintro σ5 H5 ⟨st, y4', rfl, b5, d5, hst, hstl, sinv⟩
  have hpl5 := b5 _ _ npl.1 npl.2 hpl3
  have ls5 : LsAt H5 bs ps := LsAt.keep (fun b hb o ho => b5 b o (hbs b hb).1 (hbs b hb).2.1 ho) ls3
  -- the tuples
  refine ⟨_, rfl, pl, rfl, ⟨_, SqL.of hpl5⟩, fun D2 hD2 => ?_⟩
  refine lc_listY (K := K) (a := pl) (xs := bs.map V.ref) (fun i H' => ∃ acc, Same H5 H' ∧ H' D2 = some (.lst acc) ∧ Paired (PartAt H') acc (ps.take i)) ⟨[], Same.new hD2, upd_same, .nil⟩ (fun i H' _ ⟨_, s, _⟩ => SqL.of (s _ _ hpl5)) ?_ ?_
  · rintro i x H6 hi ⟨acc, s6, hacc, hpa⟩
    obtain ⟨b, rfl, hbi⟩ : ∃ b, x = V.ref b ∧ bs[i]? = some b := by
      rw [List.getElem?_map] at hi
      cases e : bs[i]? with
      | none => rw [e] at hi; cases hi
      | some u => rw [e] at hi; exact ⟨u, (Option.some.inj hi).symm, rfl⟩
    have hib : i < bs.length := (List.getElem?_eq_some_iff.mp hbi).1
    have hip : i < ps.length := by omega
    obtain ⟨b', hb1, hb2⟩ := ls5.get (List.getElem?_eq_getElem hip)
    obtain rfl : b' = b := Option.some.inj (hb1.symm.trans hbi)
    refine ⟨rfl, _, rfl, b', _, rfl, .inl ⟨SqL.of (s6 _ _ hb2), fun t ht => ?_⟩⟩
    have st7 := Same.new (o := .tup (nV ps[i])) ht
    have hlacc : acc.length = i := by
      have z := Paired.length hpa
      rw [z, List.length_take]
      omega
    have kL := Keep.updL (ys := acc ++ [V.ref t]) (st7 _ _ hacc)
    refine ⟨acc, st7 _ _ hacc, sm _ (by omega), acc ++ [V.ref t], Ov.Same.updn (s6.trans st7) hD2, upd_same, ?_⟩
    rw [List.take_add_one, List.getElem?_eq_getElem hip]
    exact (L2.Paired.mapP hpa fun _ _ z => z.keep ((Keep.same st7).trans kL)).snoc ⟨t, rfl, kL _ _ upd_same⟩
  · rintro H6 ⟨acc, s6, hacc, hpa⟩
    rw [hrl, List.take_length] at hpa
    refine ⟨D2, acc, rfl, .inl ⟨SqL.of hacc, fun pa hpa2 => ?_⟩⟩
    have s7 := Same.new (o := .tup acc) hpa2
    refine ⟨_, rfl, sl, _, rfl, .inl ⟨SqL.of (s7 _ _ (s6 _ _ hst)), fun sa hsa => ⟨sml 2, fun t ht => ?_⟩⟩⟩
    have s8 := Same.new (o := .tup (st.map V.int)) hsa
    have s9 := Same.new (o := .tup [V.ref pa, .ref sa]) ht
    refine q _ _ ps st (b3.trans (b5.trans (But.same (s6.trans (s7.trans (s8.trans s9)))))) ((((d5.same s6).same s7).same s8).same s9) ⟨t, pa, sa, acc, rfl, upd_same, s9 _ _ (s8 _ _ upd_same), L2.Paired.mapP hpa fun _ _ z => z.keep (Keep.same (s7.trans (s8.trans s9))), s9 _ _ upd_same⟩ ⟨pv, hstl, od, hpm, sinv⟩
end
end K03

namespace K03
open PySem PySem.Spec PyProof.Rows L2 Ov
section
variable {P : Program} {w : World} {K : PySem.W.Frag} {mg : Str → Option Value} {base : Heap}
/-! ### the tables -/
theorem arms_at (T : Txt w K mg) (o : Op) : KDct K w (He.ga K "ARMS") o.name (.int (o.arity : Int)) := by
  obtain ⟨es, n, D⟩ := T.kd_ARMS
  have hm : ((o.name, .int (o.arity : Int)) : Str × He.Dv) ∈ kv_ARMS := by cases o <;> simp [kv_ARMS, Op.name, Op.arity]
  obtain ⟨u, h1, h2⟩ := He.valsB_ok T.v_ARMS hm
  exact ⟨es, n, u, D.at_, D.lit, h1, h2⟩
theorem arms_in (T : Txt w K mg) (o : Op) : ∃ r, PySem.W.nsIn K (He.ga K "ARMS") o.name = some r ∧ r.isSome = true := by
  have hm : ((o.name, .int (o.arity : Int)) : Str × He.Dv) ∈ kv_ARMS := by cases o <;> simp [kv_ARMS, Op.name, Op.arity]
  obtain ⟨u, h1, h2⟩ := He.valsB_ok T.v_ARMS hm
  exact ⟨some u, h1, rfl⟩
def gword (o : Op) : Str := if o = .num then "number" else "function"
theorem given_mem (o : Op) (h : o.gives = true) : ((o.name, .str (gword o)) : Str × He.Dv) ∈ kv_GIVEN := by cases o <;> first | (simp [kv_GIVEN, Op.name, gword]; done) | cases h
theorem given_at (T : Txt w K mg) (o : Op) (h : o.gives = true) : KDct K w (He.ga K "GIVEN") o.name (.str (gword o)) := by
  obtain ⟨es, n, D⟩ := T.kd_GIVEN
  obtain ⟨u, h1, h2⟩ := He.valsB_ok T.v_GIVEN (given_mem o h)
  exact ⟨es, n, u, D.at_, D.lit, h1, h2⟩
theorem given_in (T : Txt w K mg) (o : Op) : ∃ r, PySem.W.nsIn K (He.ga K "GIVEN") o.name = some r ∧ r.isSome = o.gives := by
  cases h : o.gives with
  | true =>
    obtain ⟨u, h1, h2⟩ := He.valsB_ok T.v_GIVEN (given_mem o h)
    exact ⟨some u, h1, rfl⟩
  | false =>
    have hm : o.name ∈ miss_GIVEN := by cases o <;> first | (simp [miss_GIVEN, Op.name]; done) | cases h
    exact ⟨none, He.eqO_ok (List.all_eq_true.mp T.m_GIVEN _ hm), rfl⟩
theorem sc_between : FnScope ["value", "low", "high"] ["value", "low", "high"] (defScope s_between) := ⟨rfl, rfl, rfl, by decide +kernel, rfl, by decide +kernel, by decide +kernel⟩
-- 0 value, 1 low, 2 high
theorem ok_between (T : Txt w K mg) : FnOk P w K mg base CX0 1 (He.ga K "between") (fdOf K d_between) ["value", "low", "high"] spBetween := by
  refine T.F_between.ok sc_between (fun vs H Q E h => ?_) (fun cdv A outer s H vs Q E hr h => ?_)
  · obtain ⟨v, lo, hi, rfl, _⟩ := h
    rfl
  obtain ⟨v, lo, hi, rfl, q⟩ := h
  refine ⟨_, PSs.nox (pss_one (ps_ret (pe_and (pe_callB (r := rIsi K) call_isi (by rfl) T.z_isinstance (by decide +kernel) (pa_cons (pv 0) (pa_cons (pe_bltn (v := .ty "int") (by rfl) T.z_int (by decide +kernel) rfl) pa_nil))) (pe_and (pe_not (pe_callB (r := rIsi K) call_isi (by rfl) T.z_isinstance (by decide +kernel) (pa_cons (pv 0) (pa_cons (pe_bltn (v := .ty "bool") (by rfl) T.z_bool (by decide +kernel) rfl) pa_nil)))) (pe_one (pe_chain op_le op_le (pv 1) (pv 0) (pv 2))))))), ?_⟩
  refine ⟨_, rfl, .int v, .ty "int", .type "int", .type "int", true, rfl, .ty _, .base (.int v), k_int_int, true, rfl, ?_⟩
  refine ⟨_, rfl, .int v, .ty "bool", .type "int", .type "bool", false, rfl, .ty _, .base (.int v), k_int_bool, false, rfl, true, rfl, ?_⟩
  refine ⟨_, rfl, _, rfl, lo, v, rfl, rfl, _, rfl, ?_⟩
  refine ite2 (fun a => ?_) (fun a => ?_)
  · have a1 : lo ≤ v := of_decide_eq_true a
    refine ⟨_, rfl, v, hi, rfl, rfl, ?_⟩
    show Q (.bl (decide (v ≤ hi))) H
    rw [show decide (v ≤ hi) = decide (lo ≤ v ∧ v ≤ hi) by simp [a1]]
    exact q
  · have a1 : ¬ lo ≤ v := of_decide_eq_false (Bool.eq_false_iff.mpr a)
    show Q (.bl false) H
    rw [show false = decide (lo ≤ v ∧ v ≤ hi) by simp [a1]]
    exact q
theorem sc_given_of : FnScope ["word"] ["word"] (defScope s_given_of) := ⟨rfl, rfl, rfl, by decide +kernel, rfl, by decide +kernel, by decide +kernel⟩
-- 0 word
theorem ok_given_of (T : Txt w K mg) : FnOk P w K mg base CX0 1 (He.ga K "given_of") (fdOf K d_given_of) ["word"] spGivenOf := by
  refine T.F_given_of.ok sc_given_of (fun vs H Q E h => ?_) (fun cdv A outer s H vs Q E hr h => ?_)
  · obtain ⟨a, o, g, us, rfl, _⟩ := h
    rfl
  obtain ⟨a, o, g, us, rfl, ⟨ha, hl⟩, q⟩ := h
  obtain ⟨es, n, D_GIVEN⟩ := T.kd_GIVEN
  obtain ⟨r, hr1, hr2⟩ := given_in T o
  refine ⟨_, PSs.nox (pss_one (ps_ret (pe_ifExp (pt_cmpR (r := Ov.rInKd K (He.ga K "GIVEN") false) (op_in_kd D_GIVEN) (pe_ix (r := rIxT K) ix_tup (pv 0) pe_int (fun _ _ => rfl)) (pe_glob (v := .ref (He.ga K "GIVEN")) (by rfl) T.g_GIVEN rfl) (by first | rfl | exact nomark _)) (pe_ix (r := rIxT K) ix_tup (pv 0) pe_int (fun _ _ => rfl)) pe_non))), ?_⟩
  refine ⟨_, rfl, a, _, 0, .str o.name, rfl, rfl, SqT.of ha, atI_nat (j := 0) rfl, o.name, r, rfl, rfl, hr1, _, rfl, ?_⟩
  unfold Op.gV at q
  rw [← hr2] at q
  refine ite2 (fun z => ?_) (fun z => ?_)
  · have z1 : r.isSome = true := z
    rw [z1] at q hr2
    have eg : o.pre g = [.int g] := by unfold Op.pre; rw [← hr2]; rfl
    refine ⟨_, rfl, a, _, 1, .int g, rfl, rfl, SqT.of ha, atI_nat (j := 1) (by rw [eg]; rfl), q⟩
  · have z1 : r.isSome = false := Bool.eq_false_iff.mpr z
    rw [z1] at q
    exact q
theorem sc_arms_of : FnScope ["word"] ["word"] (defScope s_arms_of) := ⟨rfl, rfl, rfl, by decide +kernel, rfl, by decide +kernel, by decide +kernel⟩
-- 0 word
theorem ok_arms_of (T : Txt w K mg) : FnOk P w K mg base CX0 1 (He.ga K "arms_of") (fdOf K d_arms_of) ["word"] spArmsOf := by
  refine T.F_arms_of.ok sc_arms_of (fun vs H Q E h => ?_) (fun cdv A outer s H vs Q E hr h => ?_)
  · obtain ⟨a, o, g, us, rfl, _⟩ := h
    rfl
  obtain ⟨a, o, g, us, rfl, ⟨ha, hl⟩, q⟩ := h
  refine ⟨_, PSs.nox (pss_one (ps_ret (pe_slice (r := rSlA K) sl_tupA (pv 0) (po_some (pe_op op_sub (pe_callB (r := Evl.rLenS K) call_len_seq (by rfl) T.z_len PySem.boot_len (pa_cons (pv 0) pa_nil)) (pe_ix (r := rIxD K w) ix_kdict (pe_glob (v := .ref (He.ga K "ARMS")) (by rfl) T.g_ARMS rfl) (pe_ix (r := rIxT K) ix_tup (pv 0) pe_int (fun _ _ => rfl)) (fun _ _ => rfl)))) po_none))), ?_⟩
  refine ⟨_, rfl, _, rfl, a, _, rfl, .inr (SqT.of ha), _, rfl, a, _, 0, .str o.name, rfl, rfl, SqT.of ha, atI_nat (j := 0) rfl, _, o.name, _, rfl, rfl, arms_at T o, _, _, rfl, rfl, _, rfl, ?_⟩
  have hn : (.str o.name :: (o.pre g ++ us) : List V).length = 1 + (o.pre g).length + us.length := by rw [List.length_cons, List.length_append]; omega
  have ec : (((.str o.name :: (o.pre g ++ us) : List V).length : Nat) : Int) - (o.arity : Int) = (((1 + (o.pre g).length : Nat)) : Int) := by rw [hn, ← hl]; omega
  have es : HT.sIx (.str o.name :: (o.pre g ++ us) : List V).length 0 (some ((((.str o.name :: (o.pre g ++ us) : List V).length : Nat) : Int) - (o.arity : Int))) = 1 + (o.pre g).length := by
    rw [ec, HT.sIx_nat, hn]
    omega
  refine ⟨a, _, rfl, SqT.of ha, fun z => ?_, fun _ p hp => ?_⟩
  · have z1 := z.1
    rw [es] at z1
    omega
  · have ecut : cutV (.str o.name :: (o.pre g ++ us) : List V) (some ((((.str o.name :: (o.pre g ++ us) : List V).length : Nat) : Int) - (o.arity : Int))) none = us := by
      unfold cutV
      rw [es, HT.sIx_none, hn]
      have e1 : (.str o.name :: (o.pre g ++ us) : List V).drop (1 + (o.pre g).length) = us := by
        rw [Nat.add_comm, List.drop_succ_cons, List.drop_left]
      rw [e1, show 1 + (o.pre g).length + us.length - (1 + (o.pre g).length) = us.length by omega, List.take_length]
    rw [ecut]
    exact q p hp
theorem sc_given_fits : FnScope ["kind", "given", "functions"] ["kind", "given", "functions"] (defScope s_given_fits) := ⟨rfl, rfl, rfl, by decide +kernel, rfl, by decide +kernel, by decide +kernel⟩
-- 0 kind, 1 given, 2 functions
theorem ok_given_fits (T : Txt w K mg) : FnOk P w K mg base CX0 2 (He.ga K "given_fits") (fdOf K d_given_fits) ["kind", "given", "functions"] spGivenFits := by
  have G_between := ok_between (P := P) (base := base) T
  refine T.F_given_fits.ok sc_given_fits (fun vs H Q E h => ?_) (fun cdv A outer s H vs Q E hr h => ?_)
  · obtain ⟨o, g, n, rfl, _⟩ := h
    rfl
  obtain ⟨o, g, n, rfl, hg, hf, q⟩ := h
  refine ⟨_, PSs.nox (pss_cons (ps_if (pt_cmpR op_eq (pv 0) pe_str (nomark _)) (pss_one (ps_ret (pe_call G_between (hr.mono (by omega)) (by rfl) T.g_between T.kp_between T.b_between .nil pass0 (pa_cons (pv 1) (pa_cons pe_int (pa_cons (pe_op op_sub (pv 2) pe_int) pa_nil)))))) pss_nil)
      (pss_one (ps_ret (pe_call G_between (hr.mono (by omega)) (by rfl) T.g_between T.kp_between T.b_between .nil pass0 (pa_cons (pv 1) (pa_cons pe_int (pa_cons (pe_glob (v := .int 99) (by rfl) T.i_GREATEST_WRITTEN.choose_spec ⟨_, rfl⟩) pa_nil))))))), ?_⟩
  refine ⟨_, rfl, rfl, _, rfl, ?_⟩
  have no : decide (V.str "number" = V.str "function") = false := by decide +kernel
  have yes : decide (V.str "function" = V.str "function") = true := decide_eq_true rfl
  cases o with
  | num =>
    rw [if_pos rfl, no]
    refine iteF ?_
    refine ⟨_, rfl, g, 0, 99, rfl, ?_⟩
    rw [decide_eq_true (show (0 : Int) ≤ g ∧ g ≤ 99 from hf)]
    exact q
  | way =>
    rw [if_neg (by decide), yes]
    have hf2 : 0 ≤ g ∧ g < n := hf
    refine ⟨_, rfl, _, rfl, _, 1, rfl, rfl, g, 0, _, rfl, ?_⟩
    rw [decide_eq_true (show (0 : Int) ≤ g ∧ g ≤ (n : Int) - 1 from ⟨hf2.1, by omega⟩)]
    exact q
  | call =>
    rw [if_neg (by decide), yes]
    have hf2 : 0 ≤ g ∧ g < n := hf
    refine ⟨_, rfl, _, rfl, _, 1, rfl, rfl, g, 0, _, rfl, ?_⟩
    rw [decide_eq_true (show (0 : Int) ≤ g ∧ g ≤ (n : Int) - 1 from ⟨hf2.1, by omega⟩)]
    exact q
  | _ => cases hg
end
end K03

namespace K03
open PySem PySem.Spec PyProof.Rows L2 Ov
section
variable {P : Program} {w : World} {K : PySem.W.Frag} {mg : Str → Option Value} {base : Heap}
theorem sc_add_word : FnScope ["rows", "word", "number", "arms", "arm"] ["rows", "word"] (defScope s_add_word) := ⟨rfl, rfl, rfl, by decide +kernel, rfl, by decide +kernel, by decide +kernel⟩
-- 0 rows, 1 word, 2 number, 3 arms, 4 arm
theorem ok_add_wordS (T : Txt w K mg) {d : Nat} (G_add_word : FnOk P w K mg base CX0 (d + 1) (He.ga K "add_word") (fdOf K d_add_word) ["rows", "word"] (spAddWord d)) :
    FnOk P w K mg base CX0 (d + 2) (He.ga K "add_word") (fdOf K d_add_word) ["rows", "word"] (spAddWord (d + 1)) := by
  have G_arms_of := ok_arms_of (P := P) (base := base) T
  have G_given_of := ok_given_of (P := P) (base := base) T
  refine T.F_add_word.ok sc_add_word (fun vs H Q E h => ?_) (fun cdv A outer s H vs Q E hr h => ?_)
  · obtain ⟨l, v, n, u, xs, rfl, _⟩ := h
    rfl
  obtain ⟨l, v, n, u, xs, rfl, hl, hv, ok, hz, q⟩ := h
  cases hv with
  | @mk a o g vs as ha hs =>
  cases ok with
  | mk h1 h2 h3 =>
  have hlen := hs.length
  rw [W.size_mk] at hz
  have has : as.length ≤ 3 := by rw [h1]; cases o <;> decide
  refine ⟨_, PSs.nox (pss_cons (ps_set (i := 2) sc_add_word.nd rfl (by first | exact Or.inl rfl | exact Or.inr rfl) (pe_callB (r := Evl.rLenS K) call_len_seq (by rfl) T.z_len PySem.boot_len (pa_cons (pv 0) pa_nil)))
      (pss_cons (ps_expr (Ov.pe_bmK (K := K) rfl PySem.F.plainAttrs_list PySem.F.slot_list_append PySem.F.type_list_append mt_append (pv 0) (pa_cons pe_non pa_nil)))
      (pss_cons (ps_set (i := 3) sc_add_word.nd rfl (by first | exact Or.inl rfl | exact Or.inr rfl) (pe_lst pa_nil))
      (pss_cons (ps_for PassesOwn.never rfl (Ov.pi_tupK (K := K) rfl (pe_call G_arms_of (hr.mono (by omega)) (by rfl) T.g_arms_of T.kp_arms_of T.b_arms_of .nil pass0 (pa_cons (pv 1) pa_nil))) (pg_name (i := 4) sc_add_word.nd rfl (by first | exact Or.inl rfl | exact Or.inr rfl)) (pss_one (ps_expr (Ov.pe_bmK (K := K) rfl PySem.F.plainAttrs_list PySem.F.slot_list_append PySem.F.type_list_append mt_append (pv 3) (pa_cons (pe_call G_add_word (hr.mono (by omega)) (by rfl) T.g_add_word T.kp_add_word T.b_add_word .nil pass0 (pa_cons (pv 0) (pa_cons (pv 4) pa_nil))) pa_nil)))))
      (pss_cons (ps_asg (pe_tup (pa_cons (pe_ix (r := rIxT K) ix_tup (pv 1) pe_int (fun _ _ => rfl)) (pa_cons (pe_call G_given_of (hr.mono (by omega)) (by rfl) T.g_given_of T.kp_given_of T.b_given_of .nil pass0 (pa_cons (pv 1) pa_nil)) (pa_cons (pe_callTy (r := Ov.rTupS K) call_tuple_of (by rfl) T.z_tuple (by decide +kernel) (pa_cons (pv 3) pa_nil)) pa_nil)))) (pg_sub (pv 0) (pv 2) set_list))
      (pss_one (ps_ret (pv 2)))))))), ?_⟩
  refine ⟨_, rfl, l, xs, rfl, .inl (SqL.of hl), ?_⟩
  refine ⟨_, rfl, .inl ⟨rfl, _, SqL.of hl⟩, l, xs, _, rfl, rfl, hl, sm _ (by omega), sml 0, fun al hal => ?_⟩
  have nal : l ≠ al := ne_of_none upd_same hal
  have hal0 : H al = none := by rw [upd_ne nal.symm] at hal; exact hal
  have b1 : ButL l H (upd (upd H l (.lst (xs ++ [.non]))) al (.lst [])) := ButL.upd.trans (.same (Same.new hal))
  have hl1 : (upd (upd H l (.lst (xs ++ [.non]))) al (.lst [])) l = some (.lst (xs ++ [.non])) := by rw [upd_ne nal, upd_same]
  have nla : a ≠ l := ne_of ha hl (by intro z; cases z)
  have ha1 := b1 a _ nla ha
  refine ⟨_, rfl, a, o, g, vs, rfl, ⟨ha1, hlen.trans h1⟩, fun p hp => ?_⟩
  have npl : l ≠ p := ne_of_none hl1 hp
  have npa : al ≠ p := ne_of_none upd_same hp
  refine ⟨p, rfl, ⟨_, SqT.of upd_same⟩, for_tup (K := K) (a := p) (xs := vs) (fun i σ H' => ∃ (y4 : Option V) (ys : List V), σ = [some (.ref l), some (.ref a), some (.int (xs.length : Int)), some (.ref al), y4] ∧ ButL l H H' ∧ H' l = some (.lst (xs ++ [.non] ++ ys)) ∧ Paired (RowAt H') ys (W.rowss (xs.length + 1) (as.take i)) ∧ H' al = some (.lst (nV (starts (xs.length + 1) (as.take i)))) ∧ H' p = some (.tup vs))
    ⟨none, [], rfl, b1.trans (.same (Same.new hp)), by rw [upd_ne npl, hl1, List.append_nil], by rw [List.take_zero, W.rowss]; exact .nil, by rw [upd_ne npa, upd_same]; rfl, upd_same⟩ (fun i σ H' _ ⟨_, _, _, _, _, _, _, e⟩ => SqT.of e) ?_ ?_⟩
  · rintro i x σ H1 hi ⟨y4, ys, rfl, b2, hl2, hys, hal2, hp2⟩
    obtain ⟨u, hu, hxu⟩ := WsAt.get hs hi
    have hlr := Paired.length hys
    rw [W.rowss_len] at hlr
    have hsz := size_get as i u hu
    have hlx : (xs ++ [.non] ++ ys : List V).length = xs.length + 1 + W.sizes (as.take i) := by rw [List.length_append, List.length_append, hlr]; rfl
    refine ⟨_, rfl, .inl ⟨rfl, _, SqL.of hal2⟩, _, rfl, _, rfl, l, x, n, u, xs ++ [.non] ++ ys, rfl, hl2, hxu.keep (b2.keep hl), h3 u (List.mem_of_getElem? hu), by rw [hlx]; omega, fun H3 zs b3 hl3 hzs => ?_⟩
    have hal3 := b3 _ _ nal.symm hal2
    have k3 := b3.keep hl2
    have kL := Keep.updL (ys := nV (starts (xs.length + 1) (as.take i)) ++ [V.int ((xs ++ [.non] ++ ys : List V).length : Int)]) hal3
    refine ⟨al, _, _, rfl, rfl, hal3, sm _ (by rw [nV_len, starts_len, List.length_take]; omega), _, ys ++ zs, rfl, ?_, ?_, ?_, ?_, ?_⟩
    · exact fun c u' n1 e => by rw [upd_ne (ne_of_none e hal0)]; exact (b2.trans b3) c u' n1 e
    · rw [upd_ne nal, hl3, List.append_assoc _ ys zs]
    · rw [List.take_add_one, hu]
      show Paired _ _ (W.rowss (xs.length + 1) (as.take i ++ [u]))
      rw [rowss_snoc]
      refine paired_app (L2.Paired.mapP hys fun _ _ z => z.keep (k3.trans kL)) ?_
      rw [hlx] at hzs
      exact L2.Paired.mapP hzs fun _ _ z => z.keep kL
    · rw [upd_same, List.take_add_one, hu]
      show some (HO.lst _) = some (HO.lst (nV (starts (xs.length + 1) (as.take i ++ [u]))))
      rw [starts_snoc, nV_app, hlx]
    · rw [upd_ne (ne_of hp2 hal2 (by intro z; cases z)).symm.symm]
      exact b3 _ _ npl.symm hp2
  · rintro σ H1 ⟨y4, ys, rfl, b2, hl2, hys, hal2, hp2⟩
    rw [hlen, List.take_length] at hys hal2
    have ha2 := b2 a _ nla ha
    refine ⟨_, rfl, a, _, 0, .str o.name, rfl, rfl, SqT.of ha2, atI_nat (j := 0) rfl, _, rfl, a, o, g, vs, rfl, ⟨ha2, hlen.trans h1⟩, _, rfl, al, _, rfl, .inl ⟨SqL.of hal2, fun ta hta => ⟨sml 3, fun t ht => ?_⟩⟩⟩
    have s3 := (Same.new (o := .tup (nV (starts (xs.length + 1) as))) hta).trans (Same.new (o := .tup [.str o.name, o.gV g, .ref ta]) ht)
    have hl3 := s3 _ _ hl2
    refine ⟨_, rfl, _, rfl, l, _, _, xs.length, rfl, rfl, hl3, Evl.ixN_nat (by rw [List.length_append, List.length_append, List.length_singleton]; omega), _, rfl, ?_⟩
    have kL := Keep.updL (ys := (xs ++ [V.non] ++ ys).set xs.length (V.ref t)) hl3
    refine q _ (.ref t :: ys) ((b2.trans (.same s3)).trans ButL.upd) (by rw [upd_same, set_mid]) ?_
    rw [W.rows_mk]
    have nta : ta ≠ t := ne_of_none upd_same ht
    exact .cons ⟨t, ta, rfl, kL _ _ upd_same, kL _ _ (by rw [upd_ne nta, upd_same])⟩ (L2.Paired.mapP hys fun _ _ z => z.keep ((Keep.same s3).trans kL))
theorem ok_add_word (T : Txt w K mg) : ∀ d : Nat, FnOk P w K mg base CX0 (d + 1) (He.ga K "add_word") (fdOf K d_add_word) ["rows", "word"] (spAddWord d)
  | 0 => fn0 fun vs H Q E ⟨_, _, _, _, _, _, _, _, h, _⟩ => nomatch h
  | d + 1 => ok_add_wordS T (ok_add_word T d)
theorem sc_words_of : FnScope ["body", "rows"] ["body"] (defScope s_words_of) := ⟨rfl, rfl, rfl, by decide +kernel, rfl, by decide +kernel, by decide +kernel⟩
-- 0 body, 1 rows
theorem ok_words_of (T : Txt w K mg) : FnOk P w K mg base CX0 9 (He.ga K "words_of") (fdOf K d_words_of) ["body"] spWordsOf := by
  have G_add_word := ok_add_word (P := P) (base := base) T 7
  refine T.F_words_of.ok sc_words_of (fun vs H Q E h => ?_) (fun cdv A outer s H vs Q E hr h => ?_)
  · obtain ⟨v, n, u, rfl, _⟩ := h
    rfl
  obtain ⟨v, n, u, rfl, hv, ok, hz, q⟩ := h
  refine ⟨_, PSs.nox (pss_cons (ps_set (i := 1) sc_words_of.nd rfl (by first | exact Or.inl rfl | exact Or.inr rfl) (pe_lst pa_nil))
      (pss_cons (ps_expr (pe_call G_add_word (hr.mono (by omega)) (by rfl) T.g_add_word T.kp_add_word T.b_add_word .nil pass0 (pa_cons (pv 1) (pa_cons (pv 0) pa_nil))))
      (pss_one (ps_ret (pv 1))))), ?_⟩
  refine ⟨sml 0, fun l hl => ⟨_, rfl, _, rfl, l, v, n, u, [], rfl, upd_same, hv.keep (Keep.same (Same.new hl)), ok, by show 0 + u.size ≤ 1000; omega, fun H' ys b e r => ⟨_, rfl, ?_⟩⟩⟩
  exact q H' l ys (fun a o h => b a o (ne_of_none h hl) (Same.new hl a o h)) hl e r
theorem sc_word_fits : FnScope ["word", "functions", "around", "name", "ahead", "arm"] ["word", "functions", "around"] (defScope s_word_fits) := ⟨rfl, rfl, rfl, by decide +kernel, rfl, by decide +kernel, by decide +kernel⟩
-- 0 word, 1 functions, 2 around, 3 name, 4 ahead, 5 arm
theorem ok_word_fitsS (T : Txt w K mg) {d : Nat} (G_word_fits : FnOk P w K mg base CX0 (d + 2) (He.ga K "word_fits") (fdOf K d_word_fits) ["word", "functions", "around"] (spWordFits d)) :
    FnOk P w K mg base CX0 (d + 3) (He.ga K "word_fits") (fdOf K d_word_fits) ["word", "functions", "around"] (spWordFits (d + 1)) := by
  have G_arms_of := ok_arms_of (P := P) (base := base) T
  have G_given_fits := ok_given_fits (P := P) (base := base) T
  obtain ⟨_, _, D_ARMS⟩ := T.kd_ARMS
  obtain ⟨_, _, D_GIVEN⟩ := T.kd_GIVEN
  refine T.F_word_fits.ok sc_word_fits (fun vs H Q E h => ?_) (fun cdv A outer s H vs Q E hr h => ?_)
  · obtain ⟨v, n, u, r, rfl, _⟩ := h
    rfl
  obtain ⟨v, n, u, r, rfl, hv, ok, r0, r7, q⟩ := h
  cases hv with
  | @mk a o g vs as ha hs =>
  cases ok with
  | mk h1 h2 h3 =>
  have hlen := hs.length
  obtain ⟨ra, ra1, ra2⟩ := arms_in T o
  obtain ⟨rg, rg1, rg2⟩ := given_in T o
  refine ⟨_, PSs.nox (pss_cons (ps_if (PW.pt (pw_or (pt_cmpR op_gt (pv 2) (pe_glob (v := .int 6) (by rfl) T.i_MOST_AROUND.choose_spec ⟨_, rfl⟩) (nomark _)) (pw_or (pt_not (pt_val (pe_callB (r := rIsi K) call_isi (by rfl) T.z_isinstance (by decide +kernel) (pa_cons (pv 0) (pa_cons (pe_bltn (v := .ty "tuple") (by rfl) T.z_tuple (by decide +kernel) rfl) pa_nil))))) (pw_or1 (pt_cmpR op_eq (pe_callB (r := Evl.rLenS K) call_len_seq (by rfl) T.z_len PySem.boot_len (pa_cons (pv 0) pa_nil)) pe_int (nomark _)))))) (pss_one (ps_ret pe_bl)) pss_nil)
      (pss_cons (ps_set (i := 3) sc_word_fits.nd rfl (by first | exact Or.inl rfl | exact Or.inr rfl) (pe_ix (r := rIxT K) ix_tup (pv 0) pe_int (fun _ _ => rfl)))
      (pss_cons (ps_if (PW.pt (pw_or (pt_not (pt_val (pe_callB (r := rIsi K) call_isi (by rfl) T.z_isinstance (by decide +kernel) (pa_cons (pv 3) (pa_cons (pe_bltn (v := .ty "str") (by rfl) T.z_str (by decide +kernel) rfl) pa_nil))))) (pw_or1 (pt_cmpR (r := Ov.rInKd K (He.ga K "ARMS") true) (op_notIn_kd D_ARMS) (pv 3) (pe_glob (v := .ref (He.ga K "ARMS")) (by rfl) T.g_ARMS rfl) (by first | rfl | exact nomark _))))) (pss_one (ps_ret pe_bl)) pss_nil)
      (Evl.pss_cut (ps_if (pt_cmpR (r := Ov.rInKd K (He.ga K "GIVEN") true) (op_notIn_kd D_GIVEN) (pv 3) (pe_glob (v := .ref (He.ga K "GIVEN")) (by rfl) T.g_GIVEN rfl) (by first | rfl | exact nomark _)) (pss_one (ps_set (i := 4) sc_word_fits.nd rfl (by first | exact Or.inl rfl | exact Or.inr rfl) pe_int)) (pss_one (ps_if (PW.pt (pw_and (pt_cmpR op_gt (pe_callB (r := Evl.rLenS K) call_len_seq (by rfl) T.z_len PySem.boot_len (pa_cons (pv 0) pa_nil)) pe_int (nomark _)) (pw_and1 (pt_val (pe_call G_given_fits (hr.mono (by omega)) (by rfl) T.g_given_fits T.kp_given_fits T.b_given_fits .nil pass0 (pa_cons (pe_ix (r := rIxD K w) ix_kdict (pe_glob (v := .ref (He.ga K "GIVEN")) (by rfl) T.g_GIVEN rfl) (pv 3) (fun _ _ => rfl)) (pa_cons (pe_ix (r := rIxT K) ix_tup (pv 0) pe_int (fun _ _ => rfl)) (pa_cons (pv 1) pa_nil)))))))) (pss_one (ps_set (i := 4) sc_word_fits.nd rfl (by first | exact Or.inl rfl | exact Or.inr rfl) pe_int)) (pss_one (ps_ret pe_bl)))))
      (pss_cons (ps_if (pt_cmpR op_ne (pe_callB (r := Evl.rLenS K) call_len_seq (by rfl) T.z_len PySem.boot_len (pa_cons (pv 0) pa_nil)) (pe_op op_add (pv 4) (pe_ix (r := rIxD K w) ix_kdict (pe_glob (v := .ref (He.ga K "ARMS")) (by rfl) T.g_ARMS rfl) (pv 3) (fun _ _ => rfl))) (nomark _)) (pss_one (ps_ret pe_bl)) pss_nil)
      (pss_one (ps_ret (pe_callB (r := rAll K) (cr_all rfl) (by rfl) T.z_all (by decide +kernel) (pa_cons (pe_lc (own := [("arm", 5)]) rfl sc_word_fits.nd (Ov.pi_tupK (K := K) rfl (pe_call G_arms_of (hr.mono (by omega)) (by rfl) T.g_arms_of T.kp_arms_of T.b_arms_of .nil pass0 (pa_cons (pv 0) pa_nil))) (blkOk_by (own := [("arm", 5)]) (N := ["word", "functions", "around", "name", "ahead", "arm"]) (sc := defScope s_word_fits) (by decide +kernel)) (fun _ _ _ _ _ => (pg_name (i := 5) sc_word_fits.nd rfl (by first | exact Or.inl rfl | exact Or.inr rfl))) (fun _ _ _ _ _ => pts_nil) (fun _ _ _ _ _ => (pe_call G_word_fits (hr.mono (by omega)) (by rfl) T.g_word_fits T.kp_word_fits T.b_word_fits .nil pass0 (pa_cons (pv 5) (pa_cons (pv 1) (pa_cons (pe_op op_add (pv 2) pe_int) pa_nil)))))) pa_nil))))))))), ?_⟩
  have e6 : decide ((6 : Int) < r) = false := decide_eq_false (by omega)
  have hn : (.str o.name :: (o.pre g ++ vs) : List V).length = 1 + (o.pre g).length + o.arity := by rw [List.length_cons, List.length_append, hlen, h1]; omega
  have l0 : decide (V.int (((.str o.name :: (o.pre g ++ vs) : List V).length : Nat) : Int) = V.int 0) = false := decide_eq_false fun z => by
    have z1 := V.int.inj z
    rw [hn] at z1
    omega
  refine ⟨_, rfl, r, 6, rfl, rfl, _, rfl, ?_⟩
  rw [e6]
  refine iteF ⟨_, rfl, _, .ty "tuple", .type "tuple", .type "tuple", true, rfl, .ty _, .base (.tup ha), k_tuple_tuple, true, rfl, ?_⟩
  refine iteF ⟨_, rfl, a, _, rfl, .inr (SqT.of ha), rfl, _, rfl, ?_⟩
  rw [l0]
  refine iteF ?_
  refine ⟨_, rfl, a, _, 0, .str o.name, rfl, rfl, SqT.of ha, atI_nat (j := 0) rfl, ?_⟩
  refine ⟨_, rfl, .str o.name, .ty "str", .type "str", .type "str", true, rfl, .ty _, .base (.str _), k_str_str, true, rfl, ?_⟩
  refine iteF ⟨_, rfl, o.name, ra, rfl, rfl, ra1, _, rfl, ?_⟩
  rw [ra2]
  refine iteF ?_
  have epre : (o.pre g).length = if o.gives then 1 else 0 := by
    unfold Op.pre
    split <;> rfl
  refine ⟨fun σ' H' => σ' = [some (.ref a), some (.int (n : Int)), some (.int r), some (.str o.name), some (.int ((1 + (o.pre g).length : Nat) : Int)), none] ∧ H' = H, ?_, ?_⟩
  · refine ⟨_, rfl, o.name, rg, rfl, rfl, rg1, _, rfl, ?_⟩
    show if (!rg.isSome) = true then _ else _
    rw [rg2]
    cases hg : o.gives with
    | false =>
      refine ⟨?_, rfl⟩
      rw [epre, hg]
      rfl
    | true =>
      have egp : o.pre g = [.int g] := by unfold Op.pre; rw [hg]; rfl
      have l1 : decide ((1 : Int) < (((.str o.name :: (o.pre g ++ vs) : List V).length : Nat) : Int)) = true := decide_eq_true (by rw [hn, egp, List.length_singleton]; omega)
      refine ⟨_, rfl, a, _, rfl, .inr (SqT.of ha), _, 1, rfl, rfl, _, rfl, ?_⟩
      show if decide ((1 : Int) < (((.str o.name :: (o.pre g ++ vs) : List V).length : Nat) : Int)) = true then _ else _
      rw [l1]
      refine ⟨_, rfl, _, o.name, .str (gword o), rfl, rfl, given_at T o hg, _, rfl, a, _, 1, .int g, rfl, rfl, SqT.of ha, atI_nat (j := 1) (by rw [egp]; rfl), _, rfl, o, g, n, rfl, hg, h2, true, rfl, ?_⟩
      refine ⟨?_, rfl⟩
      rw [epre, hg]
      rfl
  rintro σ1 H1 ⟨rfl, rfl⟩
  have lne : (!decide (V.int (((.str o.name :: (o.pre g ++ vs) : List V).length : Nat) : Int) = V.int (((1 + (o.pre g).length : Nat) : Int) + (o.arity : Int)))) = false := by
    rw [decide_eq_true (congrArg V.int (by rw [hn]; omega))]
    rfl
  refine ⟨_, rfl, a, _, rfl, .inr (SqT.of ha), _, rfl, _, rfl, _, o.name, _, rfl, rfl, arms_at T o, _, _, rfl, rfl, rfl, _, rfl, ?_⟩
  rw [lne]
  refine iteF ?_
  refine ⟨_, rfl, a, o, g, vs, rfl, ⟨ha, hlen.trans h1⟩, fun p hp => ⟨p, rfl, ⟨_, SqT.of upd_same⟩, fun D hD => ?_⟩⟩
  have npD : p ≠ D := ne_of_none upd_same hD
  have sp := Same.new (o := .tup vs) hp
  refine lc_tupY (K := K) (a := p) (xs := vs) (fun i H' => Same H1 H' ∧ H' p = some (.tup vs) ∧ H' D = some (.lst ((List.replicate i true).map V.bl))) ⟨sp.trans (Same.new hD), by rw [upd_ne npD, upd_same], upd_same⟩ (fun i H' _ e => SqT.of e.2.1) ?_ ?_
  · rintro i x H2 hi ⟨s2, p2, e2⟩
    obtain ⟨u, hu, hxu⟩ := WsAt.get hs hi
    have hiv := (List.getElem?_eq_some_iff.mp hi).1
    have hv3 : vs.length ≤ 3 := by rw [hlen, h1]; cases o <;> decide
    have hD1 : H1 D = none := Same.free sp hD
    refine ⟨rfl, _, rfl, _, rfl, _, rfl, r, 1, rfl, rfl, x, n, u, r + 1, rfl, hxu.keep (Keep.same s2), h3 u (List.mem_of_getElem? hu), by omega, by omega, fun H3 s3 => ⟨_, s3 _ _ e2, sm _ (by rw [List.length_map, List.length_replicate]; omega), Ov.Same.updn (s2.trans s3) hD1, by rw [upd_ne npD]; exact s3 _ _ p2, ?_⟩⟩
    rw [upd_same, List.replicate_succ', List.map_append]
    rfl
  · rintro H2 ⟨s2, p2, e2⟩
    refine ⟨D, _, rfl, SqL.of e2, ?_⟩
    have eall : (List.replicate vs.length true).all id = true := by simp
    show Q (.bl ((List.replicate vs.length true).all id)) H2
    rw [eall]
    exact q H2 s2
theorem ok_word_fits (T : Txt w K mg) : ∀ d : Nat, FnOk P w K mg base CX0 (d + 2) (He.ga K "word_fits") (fdOf K d_word_fits) ["word", "functions", "around"] (spWordFits d)
  | 0 => fn0 fun vs H Q E ⟨_, _, _, _, _, _, h, _⟩ => nomatch h
  | d + 1 => ok_word_fitsS T (ok_word_fits T d)
theorem sc_function_fits : FnScope ["function", "functions", "size", "body"] ["function", "functions"] (defScope s_function_fits) := ⟨rfl, rfl, rfl, by decide +kernel, rfl, by decide +kernel, by decide +kernel⟩
-- 0 function, 1 functions, 2 size, 3 body
theorem ok_function_fits (T : Txt w K mg) : FnOk P w K mg base CX0 10 (He.ga K "function_fits") (fdOf K d_function_fits) ["function", "functions"] spFunctionFits := by
  have G_between := ok_between (P := P) (base := base) T
  have G_word_fits := ok_word_fits (P := P) (base := base) T 7
  have G_words_of := ok_words_of (P := P) (base := base) T
  refine T.F_function_fits.ok sc_function_fits (fun vs H Q E h => ?_) (fun cdv A outer s H vs Q E hr h => ?_)
  · obtain ⟨v, n, f, rfl, _⟩ := h
    rfl
  obtain ⟨v, n, f, rfl, ⟨b, bv, rfl, hb, hw⟩, ⟨f1, f8, fk, fz⟩, q⟩ := h
  refine ⟨_, PSs.nox (pss_cons (ps_if (PW.pt (pw_or (pt_not (pt_val (pe_callB (r := rIsi K) call_isi (by rfl) T.z_isinstance (by decide +kernel) (pa_cons (pv 0) (pa_cons (pe_bltn (v := .ty "tuple") (by rfl) T.z_tuple (by decide +kernel) rfl) pa_nil))))) (pw_or1 (pt_cmpR op_ne (pe_callB (r := Evl.rLenS K) call_len_seq (by rfl) T.z_len PySem.boot_len (pa_cons (pv 0) pa_nil)) pe_int (nomark _))))) (pss_one (ps_ret pe_bl)) pss_nil)
      (pss_cons (ps_asg (pv 0) (Ov.pg_tupK (K := K) (n := 2) rfl rfl (pgs_cons (pg_name (i := 2) sc_function_fits.nd rfl (by first | exact Or.inl rfl | exact Or.inr rfl)) (pgs_cons (pg_name (i := 3) sc_function_fits.nd rfl (by first | exact Or.inl rfl | exact Or.inr rfl)) pgs_nil))))
      (pss_cons (ps_if (PW.pt (pw_or (pt_not (pt_val (pe_call G_between (hr.mono (by omega)) (by rfl) T.g_between T.kp_between T.b_between .nil pass0 (pa_cons (pv 2) (pa_cons pe_int (pa_cons (pe_glob (v := .int 8) (by rfl) T.i_MOST_CELLS.choose_spec ⟨_, rfl⟩) pa_nil)))))) (pw_or1 (pt_not (pt_val (pe_call G_word_fits (hr.mono (by omega)) (by rfl) T.g_word_fits T.kp_word_fits T.b_word_fits .nil pass0 (pa_cons (pv 3) (pa_cons (pv 1) (pa_cons pe_int pa_nil))))))))) (pss_one (ps_ret pe_bl)) pss_nil)
      (pss_one (ps_ret (pe_cmpR op_le (pe_callB (r := Evl.rLenS K) call_len_seq (by rfl) T.z_len PySem.boot_len (pa_cons (pe_call G_words_of (hr.mono (by omega)) (by rfl) T.g_words_of T.kp_words_of T.b_words_of .nil pass0 (pa_cons (pv 3) pa_nil)) pa_nil)) (pe_glob (v := .int 40) (by rfl) T.i_MOST_WORDS.choose_spec ⟨_, rfl⟩) (nomark _))))))), ?_⟩
  refine ⟨_, rfl, _, .ty "tuple", .type "tuple", .type "tuple", true, rfl, .ty _, .base (.tup hb), k_tuple_tuple, true, rfl, ?_⟩
  refine iteF ⟨_, rfl, b, _, rfl, .inr (SqT.of hb), rfl, _, rfl, iteNS rfl ?_⟩
  refine ⟨_, rfl, b, _, rfl, SqT.of hb, rfl, _, _, rfl, _, _, rfl, rfl, ?_⟩
  refine ⟨_, rfl, f.1, 1, 8, rfl, _, rfl, ?_⟩
  rw [decide_eq_true (show (1 : Int) ≤ f.1 ∧ f.1 ≤ 8 from ⟨f1, f8⟩)]
  refine iteF ⟨_, rfl, _, rfl, bv, n, f.2, 0, rfl, hw, fk, by omega, by decide, fun H1 s1 => ⟨true, rfl, iteF ?_⟩⟩
  have hw1 := hw.keep (Keep.same s1)
  refine ⟨_, rfl, bv, n, f.2, rfl, hw1, fk, by omega, fun H2 p ys s2 hp he hr2 => ⟨p, ys, rfl, .inl (SqL.of he), _, 40, rfl, rfl, ?_⟩⟩
  have hl := Paired.length hr2
  rw [W.rows_len] at hl
  have e : decide ((ys.length : Int) ≤ 40) = true := decide_eq_true (by omega)
  show Q (.bl (decide ((ys.length : Int) ≤ 40))) H2
  rw [e]
  exact q H2 (s1.trans s2)
theorem sc_check_program : FnScope ["program", "number", "function"] ["program"] (defScope s_check_program) := ⟨rfl, rfl, rfl, by decide +kernel, rfl, by decide +kernel, by decide +kernel⟩
-- 0 program, 1 number, 2 function
theorem ok_check_program (T : Txt w K mg) : FnOk P w K mg base CX0 11 (He.ga K "check_program") (fdOf K d_check_program) ["program"] spCheckProgram := by
  have G_function_fits := ok_function_fits (P := P) (base := base) T
  refine T.F_check_program.ok sc_check_program (fun vs H Q E h => ?_) (fun cdv A outer s H vs Q E hr h => ?_)
  · obtain ⟨v, p, rfl, _⟩ := h
    rfl
  obtain ⟨v, p, rfl, ⟨a, vs, rfl, ha, hf⟩, ok, q⟩ := h
  have hl := Paired.length hf
  have l1 := ok.l1
  have l8 := ok.l8
  refine ⟨_, PSs.nox (pss_cons (ps_if (pt_cmpR op_eq (pe_callB (r := Evl.rLenS K) call_len_seq (by rfl) T.z_len PySem.boot_len (pa_cons (pv 0) pa_nil)) pe_int (nomark _)) (pss_one ps_never) pss_nil)
      (pss_one (ps_for PassesOwn.never rfl (Ov.pi_en (K := K) .t rfl (by rfl) T.z_enumerate (pa_cons (pv 0) pa_nil)) (Ov.pg_tupK (K := K) (n := 2) rfl rfl (pgs_cons (pg_name (i := 1) sc_check_program.nd rfl (by first | exact Or.inl rfl | exact Or.inr rfl)) (pgs_cons (pg_name (i := 2) sc_check_program.nd rfl (by first | exact Or.inl rfl | exact Or.inr rfl)) pgs_nil))) (pss_one (ps_if (PW.pt (pw_or (pt_cmpR op_ge (pv 1) (pe_glob (v := .int 8) (by rfl) T.i_MOST_FUNCTIONS.choose_spec ⟨_, rfl⟩) (nomark _)) (pw_or1 (pt_not (pt_val (pe_call G_function_fits (hr.mono (by omega)) (by rfl) T.g_function_fits T.kp_function_fits T.b_function_fits .nil pass0 (pa_cons (pv 2) (pa_cons (pe_callB (r := Evl.rLenS K) call_len_seq (by rfl) T.z_len PySem.boot_len (pa_cons (pv 0) pa_nil)) pa_nil)))))))) (pss_one ps_never) pss_nil))))), ?_⟩
  have e0 : decide (V.int ((vs.length : Nat) : Int) = V.int 0) = false := decide_eq_false fun z => by
    have z1 := V.int.inj z
    omega
  refine ⟨_, rfl, a, vs, rfl, .inr (SqT.of ha), rfl, _, rfl, ?_⟩
  rw [e0]
  refine iteF ?_
  refine ⟨_, rfl, a, vs, rfl, SqT.of ha, for_it (walk_en (K := K) (k := .t) (a := a) (xs := vs)) (fun i σ H' => ∃ y1 y2 : Option V, σ = [some (.ref a), y1, y2] ∧ Same H H') ⟨none, none, rfl, Same.refl H⟩ (fun i σ H' _ ⟨_, _, _, s⟩ => SqT.of (s _ _ ha)) ?_ ?_⟩
  · rintro i x σ H1 H2 hi ⟨y1, y2, rfl, s1⟩ ⟨t, x1, x2, rfl, ht, rfl, e1, e2⟩
    have e1' := Option.some.inj e1
    subst e1'
    have s2 := s1.trans (Same.new (o := .tup [.int (i : Nat), x2]) ht)
    obtain ⟨f, hf1, hf2⟩ := Paired.get2 hf e2
    refine ⟨t, _, rfl, SqT.of upd_same, rfl, _, _, rfl, _, _, rfl, rfl, ?_⟩
    have e8 : decide ((8 : Int) ≤ (i : Int)) = false := decide_eq_false (by omega)
    refine ⟨_, rfl, _, 8, rfl, rfl, _, rfl, ?_⟩
    rw [e8]
    refine iteF ?_
    refine ⟨_, rfl, _, rfl, a, vs, rfl, .inr (SqT.of (s2 _ _ ha)), x2, vs.length, f, rfl, hf2.keep (Keep.same s2), by rw [hl]; exact ok.f f (List.mem_of_getElem? hf1), fun H3 s3 => ⟨true, rfl, iteF ?_⟩⟩
    exact ⟨_, _, rfl, s2.trans s3⟩
  · rintro σ H1 ⟨y1, y2, rfl, s1⟩
    exact q H1 s1
end
end K03

namespace K03
open PySem PySem.Spec PyProof.Rows L2 Ov
section
variable {P : Program} {w : World} {K : PySem.W.Frag} {mg : Str → Option Value} {base : Heap}
theorem sc_check_function : FnScope ["function", "functions"] ["function", "functions"] (defScope s_check_function) := ⟨rfl, rfl, rfl, by decide +kernel, rfl, by decide +kernel, by decide +kernel⟩
-- 0 function, 1 functions
theorem ok_check_function (T : Txt w K mg) : FnOk P w K mg base CX0 2 (He.ga K "check_function") (fdOf K d_check_function) ["function", "functions"] spCheckFunction := by
  have G_between := ok_between (P := P) (base := base) T
  refine T.F_check_function.ok sc_check_function (fun vs H Q E h => ?_) (fun cdv A outer s H vs Q E hr h => ?_)
  · obtain ⟨f, n, rfl, _⟩ := h
    rfl
  obtain ⟨f, n, rfl, hlt, q⟩ := h
  refine ⟨_, PSs.nox (pss_one (ps_if (pt_not (pt_val (pe_call G_between (hr.mono (by omega)) (by rfl) T.g_between T.kp_between T.b_between .nil pass0 (pa_cons (pv 0) (pa_cons pe_int (pa_cons (pe_op op_sub (pv 1) pe_int) pa_nil)))))) (pss_one ps_never) pss_nil)), ?_⟩
  refine ⟨_, rfl, _, rfl, _, 1, rfl, rfl, f, 0, _, rfl, _, rfl, ?_⟩
  rw [decide_eq_true (show (0 : Int) ≤ (f : Int) ∧ (f : Int) ≤ (n : Int) - 1 from ⟨by omega, by omega⟩)]
  exact iteF q
end
end K03

namespace K03
open PySem PySem.Spec PyProof.Rows L2 Ov
section
variable {P : Program} {w : World} {K : PySem.W.Frag} {mg : Str → Option Value} {base : Heap}
theorem sc_rises : FnScope ["row", "low", "high"] ["row"] (defScope s_rises) := ⟨rfl, rfl, rfl, by decide +kernel, rfl, by decide +kernel, by decide +kernel⟩
-- 0 row, 1 low, 2 high
theorem ok_rises (T : Txt w K mg) : FnOk P w K mg base CX0 1 (He.ga K "rises") (fdOf K d_rises) ["row"] spRises := by
  refine T.F_rises.ok sc_rises (fun vs H Q E h => ?_) (fun cdv A outer s H vs Q E hr h => ?_)
  · obtain ⟨a, ns, rfl, _⟩ := h
    rfl
  obtain ⟨a, ns, rfl, ha, hp, hl, q⟩ := h
  have hn : ns.length - 1 = min (nV ns).length ((nV ns).drop 1).length := by rw [List.length_drop, nV_len]; omega
  have up : ∀ (i : Nat) (x y : V), (nV ns)[i]? = some x → ((nV ns).drop 1)[i]? = some y → ∃ u v : Nat, x = .int (u : Int) ∧ y = .int (v : Int) ∧ u < v := fun i x y hx hy => by
    rw [List.getElem?_drop] at hy
    obtain ⟨u, hu, rfl⟩ := nV_int hx
    obtain ⟨v, hv, rfl⟩ := nV_int hy
    obtain ⟨h1, e1⟩ := List.getElem?_eq_some_iff.mp hu
    obtain ⟨h2, e2⟩ := List.getElem?_eq_some_iff.mp hv
    have z := List.pairwise_iff_getElem.mp hp i (1 + i) h1 h2 (by omega)
    rw [e1, e2] at z
    exact ⟨u, v, rfl, rfl, z⟩
  rcases ha with ha | ⟨ha, hne⟩
  · refine ⟨_, PSs.nox (pss_one (ps_ret (pe_callB (r := rAll K) (cr_all rfl) (by rfl) T.z_all (by decide +kernel) (pa_cons (pe_lc (own := [("low", 1), ("high", 2)]) rfl sc_rises.nd (Ov.pi_zp (K := K) .l .l rfl (by rfl) T.z_zip (pa_cons (pv 0) (pa_cons (pe_slice (r := rSlL K) sl_list (pv 0) (po_some pe_int) po_none) pa_nil))) (blkOk_by (own := [("low", 1), ("high", 2)]) (N := ["row", "low", "high"]) (sc := defScope s_rises) (by decide +kernel)) (fun _ _ _ _ _ => (Ov.pg_tupK (K := K) (n := 2) rfl rfl (pgs_cons (pg_name (i := 1) sc_rises.nd rfl (by first | exact Or.inl rfl | exact Or.inr rfl)) (pgs_cons (pg_name (i := 2) sc_rises.nd rfl (by first | exact Or.inl rfl | exact Or.inr rfl)) pgs_nil)))) (fun _ _ _ _ _ => pts_nil) (fun _ _ _ _ _ => (pe_cmpR op_lt (pv 1) (pv 2) (nomark _)))) pa_nil)))), ?_⟩
    refine ⟨_, rfl, _, rfl, 1, rfl, a, nV ns, rfl, SqL.of ha, fun c hc => ?_⟩
    have s1 := Same.new (o := .lst (cutV (nV ns) (some 1) none)) hc
    refine ⟨a, c, nV ns, _, rfl, SqL.of (s1 _ _ ha), SqL.of upd_same, fun D hD => ?_⟩
    have ncD : c ≠ D := ne_of_none upd_same hD
    have fD := Same.free s1 hD
    have ecut : cutV (nV ns) (some 1) none = (nV ns).drop 1 := by
      cases ns with
      | nil => rfl
      | cons x r => exact cut_from _ 1 (by rw [nV_len]; exact Nat.succ_le_succ (Nat.zero_le _))
    rw [ecut] at hD s1 ⊢
    refine lc_itY (walk_zp (K := K) (k := .l) (m := .l) (a := a) (b := c) hn) (fun i H' => Same H H' ∧ H' c = some (.lst ((nV ns).drop 1)) ∧ H' D = some (.lst ((List.replicate i true).map V.bl))) ⟨s1.trans (Same.new hD), by rw [upd_ne ncD, upd_same], upd_same⟩ (fun i H' _ e => ⟨SqL.of (e.1 _ _ ha), SqL.of e.2.1⟩) ?_ ?_
    · rintro i z H1 H2 hi ⟨s2, c2, e2⟩ ⟨t, x, y, rfl, ht, rfl, hx, hy⟩
      obtain ⟨u, v, rfl, rfl, lt⟩ := up i x y hx hy
      have s3 := Same.new (o := .tup [.int (u : Int), .int (v : Int)]) ht
      refine ⟨t, _, rfl, SqT.of upd_same, rfl, _, _, rfl, _, _, rfl, rfl, rfl, _, rfl, _, rfl, _, _, rfl, rfl, _, s3 _ _ e2, sm _ (by rw [List.length_map, List.length_replicate]; omega), Ov.Same.updn (s2.trans s3) fD, by rw [upd_ne ncD]; exact s3 _ _ c2, ?_⟩
      have elt : decide (((u : Nat) : Int) < (v : Int)) = true := decide_eq_true (by omega)
      show upd _ D (.lst ((List.replicate i true).map V.bl ++ [.bl (decide (((u : Nat) : Int) < (v : Int)))])) D = _
      rw [upd_same, elt, rep_snoc]
    · rintro H1 ⟨s2, c2, e2⟩
      refine ⟨D, _, rfl, SqL.of e2, ?_⟩
      show Q (.bl ((List.replicate (ns.length - 1) true).all id)) H1
      rw [rep_all]
      exact q H1 s2
  · 
    refine ⟨_, PSs.nox (pss_one (ps_ret (pe_callB (r := rAll K) (cr_all rfl) (by rfl) T.z_all (by decide +kernel) (pa_cons (pe_lc (own := [("low", 1), ("high", 2)]) rfl sc_rises.nd (Ov.pi_zp (K := K) .t .t rfl (by rfl) T.z_zip (pa_cons (pv 0) (pa_cons (pe_slice (r := rSlA K) sl_tupA (pv 0) (po_some pe_int) po_none) pa_nil))) (blkOk_by (own := [("low", 1), ("high", 2)]) (N := ["row", "low", "high"]) (sc := defScope s_rises) (by decide +kernel)) (fun _ _ _ _ _ => (Ov.pg_tupK (K := K) (n := 2) rfl rfl (pgs_cons (pg_name (i := 1) sc_rises.nd rfl (by first | exact Or.inl rfl | exact Or.inr rfl)) (pgs_cons (pg_name (i := 2) sc_rises.nd rfl (by first | exact Or.inl rfl | exact Or.inr rfl)) pgs_nil)))) (fun _ _ _ _ _ => pts_nil) (fun _ _ _ _ _ => (pe_cmpR op_lt (pv 1) (pv 2) (nomark _)))) pa_nil)))), ?_⟩
    have hns : 1 ≤ ns.length := List.length_pos_iff.mpr hne
    have ecut : cutV (nV ns) (some 1) none = (nV ns).drop 1 := cut_from _ 1 (by rw [nV_len]; exact hns)
    refine ⟨_, rfl, _, rfl, 1, rfl, a, nV ns, rfl, SqT.of ha, fun z => ?_, fun _ c hc => ?_⟩
    · have z1 := z.1
      have z2 : HT.sIx (nV ns).length 0 (some 1) = min 1 (nV ns).length := HT.sIx_nat _ 0 1
      rw [nV_len] at z1 z2
      omega
    have s1 := Same.new (o := .tup (cutV (nV ns) (some 1) none)) hc
    refine ⟨a, c, nV ns, _, rfl, SqT.of (s1 _ _ ha), SqT.of upd_same, fun D hD => ?_⟩
    have ncD : c ≠ D := ne_of_none upd_same hD
    have fD := Same.free s1 hD
    rw [ecut] at hD s1 ⊢
    refine lc_itY (walk_zp (K := K) (k := .t) (m := .t) (a := a) (b := c) hn) (fun i H' => Same H H' ∧ H' c = some (.tup ((nV ns).drop 1)) ∧ H' D = some (.lst ((List.replicate i true).map V.bl))) ⟨s1.trans (Same.new hD), by rw [upd_ne ncD, upd_same], upd_same⟩ (fun i H' _ e => ⟨SqT.of (e.1 _ _ ha), SqT.of e.2.1⟩) ?_ ?_
    · rintro i z H1 H2 hi ⟨s2, c2, e2⟩ ⟨t, x, y, rfl, ht, rfl, hx, hy⟩
      obtain ⟨u, v, rfl, rfl, lt⟩ := up i x y hx hy
      have s3 := Same.new (o := .tup [.int (u : Int), .int (v : Int)]) ht
      refine ⟨t, _, rfl, SqT.of upd_same, rfl, _, _, rfl, _, _, rfl, rfl, rfl, _, rfl, _, rfl, _, _, rfl, rfl, _, s3 _ _ e2, sm _ (by rw [List.length_map, List.length_replicate]; omega), Ov.Same.updn (s2.trans s3) fD, by rw [upd_ne ncD]; exact s3 _ _ c2, ?_⟩
      have elt : decide (((u : Nat) : Int) < (v : Int)) = true := decide_eq_true (by omega)
      show upd _ D (.lst ((List.replicate i true).map V.bl ++ [.bl (decide (((u : Nat) : Int) < (v : Int)))])) D = _
      rw [upd_same, elt, rep_snoc]
    · rintro H1 ⟨s2, c2, e2⟩
      refine ⟨D, _, rfl, SqL.of e2, ?_⟩
      show Q (.bl ((List.replicate (ns.length - 1) true).all id)) H1
      rw [rep_all]
      exact q H1 s2
theorem sc_part_fits : FnScope ["part", "functions", "function"] ["part", "functions"] (defScope s_part_fits) := ⟨rfl, rfl, rfl, by decide +kernel, rfl, by decide +kernel, by decide +kernel⟩
-- 0 part, 1 functions, 2 function
theorem ok_part_fits (T : Txt w K mg) : FnOk P w K mg base CX0 2 (He.ga K "part_fits") (fdOf K d_part_fits) ["part", "functions"] spPartFits := by
  have G_between := ok_between (P := P) (base := base) T
  have G_rises := ok_rises (P := P) (base := base) T
  refine T.F_part_fits.ok sc_part_fits (fun vs H Q E h => ?_) (fun cdv A outer s H vs Q E hr h => ?_)
  · obtain ⟨v, n, p, rfl, _⟩ := h
    rfl
  obtain ⟨v, n, p, rfl, ⟨b, rfl, hb⟩, hne, hri, hlt, h8, q⟩ := h
  refine ⟨_, PSs.nox (pss_cons (ps_if (PW.pt (pw_or (pt_not (pt_val (pe_callB (r := rIsi K) call_isi (by rfl) T.z_isinstance (by decide +kernel) (pa_cons (pv 0) (pa_cons (pe_bltn (v := .ty "tuple") (by rfl) T.z_tuple (by decide +kernel) rfl) pa_nil))))) (pw_or1 (pt_cmpR op_eq (pe_callB (r := Evl.rLenS K) call_len_seq (by rfl) T.z_len PySem.boot_len (pa_cons (pv 0) pa_nil)) pe_int (nomark _))))) (pss_one (ps_ret pe_bl)) pss_nil)
      (pss_one (ps_ret (pe_and (pe_callB (r := rAll K) (cr_all rfl) (by rfl) T.z_all (by decide +kernel) (pa_cons (pe_lc (own := [("function", 2)]) rfl sc_part_fits.nd (Ov.pi_tupK (K := K) rfl (pv 0)) (blkOk_by (own := [("function", 2)]) (N := ["part", "functions", "function"]) (sc := defScope s_part_fits) (by decide +kernel)) (fun _ _ _ _ _ => (pg_name (i := 2) sc_part_fits.nd rfl (by first | exact Or.inl rfl | exact Or.inr rfl))) (fun _ _ _ _ _ => pts_nil) (fun _ _ _ _ _ => (pe_call G_between (hr.mono (by omega)) (by rfl) T.g_between T.kp_between T.b_between .nil pass0 (pa_cons (pv 2) (pa_cons pe_int (pa_cons (pe_op op_sub (pv 1) pe_int) pa_nil)))))) pa_nil)) (pe_one (pe_call G_rises (hr.mono (by omega)) (by rfl) T.g_rises T.kp_rises T.b_rises .nil pass0 (pa_cons (pv 0) pa_nil))))))), ?_⟩
  have e0 : decide (V.int (((nV p).length : Nat) : Int) = V.int 0) = false := decide_eq_false fun z => by
    have z1 := V.int.inj z
    have := List.length_pos_iff.mpr hne
    rw [nV_len] at z1
    omega
  refine ⟨_, rfl, _, .ty "tuple", .type "tuple", .type "tuple", true, rfl, .ty _, .base (.tup hb), k_tuple_tuple, true, rfl, iteF ⟨_, rfl, b, _, rfl, .inr (SqT.of hb), rfl, _, rfl, ?_⟩⟩
  rw [e0]
  refine iteF ⟨_, rfl, b, rfl, ⟨_, SqT.of hb⟩, fun D hD => ?_⟩
  refine lc_tupY (K := K) (a := b) (xs := nV p) (fun i H' => Same H H' ∧ H' D = some (.lst ((List.replicate i true).map V.bl))) ⟨Same.new hD, upd_same⟩ (fun i H' _ e => SqT.of (e.1 _ _ hb)) ?_ ?_
  · rintro i x H1 hi ⟨s1, e1⟩
    obtain ⟨y, hy, rfl⟩ := nV_int hi
    have hyn := hlt y (List.mem_of_getElem? hy)
    have hil := (List.getElem?_eq_some_iff.mp hy).1
    refine ⟨rfl, _, rfl, _, rfl, _, 1, rfl, rfl, (y : Int), 0, _, rfl, _, e1, sm _ (by rw [List.length_map, List.length_replicate]; omega), Ov.Same.updn s1 hD, ?_⟩
    rw [upd_same, decide_eq_true (show (0 : Int) ≤ (y : Int) ∧ (y : Int) ≤ (n : Int) - 1 from ⟨by omega, by omega⟩), rep_snoc]
  · rintro H1 ⟨s1, e1⟩
    refine ⟨D, _, rfl, SqL.of e1, _, rfl, ?_⟩
    show if (List.replicate (nV p).length true).all id = true then _ else _
    rw [rep_all]
    refine iteT ?_
    exact ⟨_, rfl, b, p, rfl, .inr ⟨s1 _ _ hb, hne⟩, hri, by omega, fun H2 s2 => q H2 (s1.trans s2)⟩
end
end K03

namespace K03
open PySem PySem.Spec PyProof.Rows L2 Ov
section
variable {P : Program} {w : World} {K : PySem.W.Frag} {mg : Str → Option Value} {base : Heap}
theorem sc_parts_fit : FnScope ["parts", "functions", "held", "part", "function"] ["parts", "functions"] (defScope s_parts_fit) := ⟨rfl, rfl, rfl, by decide +kernel, rfl, by decide +kernel, by decide +kernel⟩
-- 0 parts, 1 functions, 2 held, 3 part, 4 function
theorem ok_parts_fit (T : Txt w K mg) : FnOk P w K mg base CX0 3 (He.ga K "parts_fit") (fdOf K d_parts_fit) ["parts", "functions"] spPartsFit := by
  have G_part_fits := ok_part_fits (P := P) (base := base) T
  have G_rises := ok_rises (P := P) (base := base) T
  refine T.F_parts_fit.ok sc_parts_fit (fun vs H Q E h => ?_) (fun cdv A outer s H vs Q E hr h => ?_)
  · obtain ⟨a, n, us, ps, rfl, _⟩ := h
    rfl
  obtain ⟨a, n, us, ps, rfl, ha, hps, pi, n8, q⟩ := h
  have hl := Paired.length hps
  have hc := pi.count
  refine ⟨_, PSs.nox (pss_cons (ps_if (PW.pt (pw_or (pt_not (pt_val (pe_callB (r := rIsi K) call_isi (by rfl) T.z_isinstance (by decide +kernel) (pa_cons (pv 0) (pa_cons (pe_bltn (v := .ty "tuple") (by rfl) T.z_tuple (by decide +kernel) rfl) pa_nil))))) (pw_or1 (pt_not (pt_val (pe_callB (r := rAll K) (cr_all rfl) (by rfl) T.z_all (by decide +kernel) (pa_cons (pe_lc (own := [("part", 3)]) rfl sc_parts_fit.nd (Ov.pi_tupK (K := K) rfl (pv 0)) (blkOk_by (own := [("part", 3)]) (N := ["parts", "functions", "held", "part", "function"]) (sc := defScope s_parts_fit) (by decide +kernel)) (fun _ _ _ _ _ => (pg_name (i := 3) sc_parts_fit.nd rfl (by first | exact Or.inl rfl | exact Or.inr rfl))) (fun _ _ _ _ _ => pts_nil) (fun _ _ _ _ _ => (pe_call G_part_fits (hr.mono (by omega)) (by rfl) T.g_part_fits T.kp_part_fits T.b_part_fits .nil pass0 (pa_cons (pv 3) (pa_cons (pv 1) pa_nil))))) pa_nil))))))) (pss_one (ps_ret pe_bl)) pss_nil)
      (pss_cons (ps_setLc2 (i := 2) (own := [("part", 3), ("function", 4)]) (vs1 := [4]) rfl sc_parts_fit.nd rfl rfl (sw_true rfl rfl rfl (by decide +kernel)) (Ov.pi_tupK (K := K) rfl (pv 0)) (blkOk_by (own := [("part", 3), ("function", 4)]) (N := ["parts", "functions", "held", "part", "function"]) (sc := defScope s_parts_fit) (by decide +kernel)) (by decide) (fun _ _ _ _ _ => (pg_name (i := 3) sc_parts_fit.nd rfl (by first | exact Or.inl rfl | exact Or.inr rfl))) (fun _ _ _ _ _ => pts_nil) (fun _ _ _ _ _ => (Ov.pi_tupK (K := K) rfl (pv 3))) (fun _ _ _ _ _ => (pg_name (i := 4) sc_parts_fit.nd rfl (by first | exact Or.inl rfl | exact Or.inr rfl))) (fun _ _ _ _ _ => pts_nil) (fun _ _ _ _ _ => (pv 4)))
      (pss_one (ps_ret (pe_and (pe_call G_rises (hr.mono (by omega)) (by rfl) T.g_rises T.kp_rises T.b_rises .nil pass0 (pa_cons (pe_lc (own := [("part", 3)]) rfl sc_parts_fit.nd (Ov.pi_tupK (K := K) rfl (pv 0)) (blkOk_by (own := [("part", 3)]) (N := ["parts", "functions", "held", "part", "function"]) (sc := defScope s_parts_fit) (by decide +kernel)) (fun _ _ _ _ _ => (pg_name (i := 3) sc_parts_fit.nd rfl (by first | exact Or.inl rfl | exact Or.inr rfl))) (fun _ _ _ _ _ => pts_nil) (fun _ _ _ _ _ => (pe_ix (r := rIxT K) ix_tup (pv 3) pe_int (fun _ _ => rfl)))) pa_nil)) (pe_one (pe_cmpR (r := rEqD K) (op_eqD hr.units) (pe_callB (r := rSorted K) cr_sorted (by rfl) T.z_sorted (by decide +kernel) (pa_cons (pv 2) pa_nil)) (pe_listRg rfl (by rfl) T.z_list (prg_1 (by rfl) T.z_range (pv 1))) (nomark _)))))))), ?_⟩
  refine ⟨_, rfl, _, .ty "tuple", .type "tuple", .type "tuple", true, rfl, .ty _, .base (.tup ha), k_tuple_tuple, true, rfl, iteF ⟨_, rfl, a, rfl, ⟨_, SqT.of ha⟩, fun D hD => ?_⟩⟩
  refine lc_tupY (K := K) (a := a) (xs := us) (fun i H' => Same H H' ∧ H' D = some (.lst ((List.replicate i true).map V.bl))) ⟨Same.new hD, upd_same⟩ (fun i H' _ e => SqT.of (e.1 _ _ ha)) ?_ ?_
  · rintro i x H1 hi ⟨s1, e1⟩
    obtain ⟨p, hp, hx⟩ := Paired.get2 hps hi
    have hm := List.mem_of_getElem? hp
    have hil := (List.getElem?_eq_some_iff.mp hi).1
    refine ⟨rfl, _, rfl, _, rfl, x, n, p, rfl, hx.keep (Keep.same s1), pi.ne p hm, pi.rise p hm, fun y hy => pi.lt hm hy, by have := pi.plen hm; omega, fun H2 s2 => ⟨_, s2 _ _ e1, sm _ (by rw [List.length_map, List.length_replicate]; omega), Ov.Same.updn (s1.trans s2) hD, ?_⟩⟩
    rw [upd_same, rep_snoc]
  rintro H1 ⟨s1, e1⟩
  refine ⟨D, _, rfl, SqL.of e1, _, rfl, ?_⟩
  show if (!(List.replicate us.length true).all id) = true then _ else _
  rw [rep_all]
  refine iteF ?_
  -- held
  refine ⟨_, rfl, a, rfl, ⟨_, SqT.of (s1 _ _ ha)⟩, fun B hB => ?_⟩
  refine lc2_out (walk_tup (K := K) (a := a) (xs := us)) (fun i H' => Same H1 H' ∧ H' B = some (.lst (nV (ps.take i).flatten))) ⟨Same.new hB, upd_same⟩ (fun i H' _ e => SqT.of (e.1 _ _ (s1 _ _ ha))) ?_ ?_
  · rintro i x H2 H3 hi ⟨s2, e2⟩ ⟨rfl, hx⟩
    obtain ⟨p, hp, ⟨b, rfl, hb⟩⟩ := Paired.get2 hps hx
    have hm := List.mem_of_getElem? hp
    have hb2 := s2 _ _ (s1 _ _ hb)
    refine ⟨rfl, _, rfl, b, rfl, ⟨_, SqT.of hb2⟩, ?_⟩
    refine lc2_in (walk_tup (K := K) (a := b) (xs := nV p)) (fun j H' => Same H1 H' ∧ H' B = some (.lst (nV ((ps.take i).flatten ++ p.take j)))) ⟨s2, by rw [List.take_zero, List.append_nil]; exact e2⟩ (fun j H' _ e => SqT.of (e.1 _ _ (s1 _ _ hb))) ?_ ?_
    · rintro j y H4 H5 hj ⟨s4, e4⟩ ⟨rfl, hy⟩
      obtain ⟨z, hz, rfl⟩ := nV_int hy
      have hpl := pi.plen hm
      have hfl : (ps.take i).flatten.length ≤ n := by
        have z1 : ps.flatten.length = n := by rw [pi.perm.length_eq, List.length_range]
        have z2 : ps.flatten = (ps.take i).flatten ++ (ps.drop i).flatten := by rw [← List.flatten_append, List.take_append_drop]
        rw [z2, List.length_append] at z1
        omega
      refine ⟨rfl, _, rfl, _, e4, sm _ (by rw [nV_len, List.length_append, List.length_take]; omega), Ov.Same.updn s4 hB, ?_⟩
      rw [upd_same, List.take_add_one, hz, ← List.append_assoc]
      exact congrArg (fun l => some (HO.lst l)) (nV_app _ z).symm
    · rintro H4 ⟨s4, e4⟩
      refine ⟨s4, ?_⟩
      rw [nV_len, List.take_length] at e4
      rw [e4, List.take_add_one, hp]
      simp
  rintro H2 ⟨s2, e2⟩
  rw [hl, List.take_length] at e2
  have s02 := s1.trans s2
  -- rises of the firsts
  refine ⟨_, rfl, a, rfl, ⟨_, SqT.of (s02 _ _ ha)⟩, fun C hC => ?_⟩
  refine lc_tupY (K := K) (a := a) (xs := us) (fun i H' => Same H2 H' ∧ H' C = some (.lst (nV ((ps.take i).map (·.headD 0))))) ⟨Same.new hC, upd_same⟩ (fun i H' _ e => SqT.of (e.1 _ _ (s02 _ _ ha))) ?_ ?_
  · rintro i x H3 hi ⟨s3, e3⟩
    obtain ⟨p, hp, ⟨b, rfl, hb⟩⟩ := Paired.get2 hps hi
    have hm := List.mem_of_getElem? hp
    have hil := (List.getElem?_eq_some_iff.mp hi).1
    have hne := pi.ne p hm
    have h0 : (nV p)[0]? = some (.int ((p.headD 0 : Nat) : Int)) := by
      cases p with
      | nil => exact absurd rfl hne
      | cons x r => rfl
    refine ⟨rfl, _, rfl, b, _, 0, _, rfl, rfl, SqT.of (s3 _ _ (s02 _ _ hb)), atI_nat (j := 0) h0, _, e3, sm _ (by rw [nV_len, List.length_map, List.length_take]; omega), Ov.Same.updn s3 hC, ?_⟩
    rw [upd_same, List.take_add_one, hp, List.map_append]
    exact congrArg (fun l => some (HO.lst l)) (nV_app _ _).symm
  rintro H3 ⟨s3, e3⟩
  rw [hl, List.take_length] at e3
  refine ⟨C, _, rfl, .inl e3, pi.firsts, by rw [List.length_map]; omega, fun H4 s4 => ⟨true, rfl, iteT ?_⟩⟩
  -- sorted(held) == list(range(functions))
  have e4 := s4 _ _ (s3 _ _ e2)
  rw [nV_ints] at e4
  have hfl : ps.flatten.length = n := by rw [pi.perm.length_eq, List.length_range]
  refine ⟨_, rfl, B, _, rfl, SqL.of e4, by rw [List.length_map, hfl]; omega, fun ns p hperm hpw hp => ?_⟩
  have ens := pi.sorted hperm hpw
  refine ⟨_, rfl, _, rfl, RgOk.of_le (by omega) (by omega) (by omega) (by omega), fun r hr2 => ?_⟩
  have npr : p ≠ r := ne_of_none upd_same hr2
  have er : rgV 0 (n : Int) = ns.map V.int := by rw [rgV_nV, nV_ints, ens]
  have s5 := (Same.new (o := .lst (ns.map V.int)) hp).trans (Same.new (o := .lst (rgV 0 (n : Int))) hr2)
  refine ⟨.list (ns.map PyData.int), .list (ns.map PyData.int), .lst (SqL.of (by rw [upd_ne npr]; exact upd_same)) (dpInts ns), .lst (xs := ns.map V.int) (SqL.of (by rw [upd_same, er])) (dpInts ns), intsShaped ns, intsShaped ns, ?_⟩
  rw [eqvInts]
  exact q _ (s02.trans (s3.trans (s4.trans s5)))
theorem sc_has_end : FnScope ["stands", "part", "under", "_"] ["stands", "part"] (defScope s_has_end) := ⟨rfl, rfl, rfl, by decide +kernel, rfl, by decide +kernel, by decide +kernel⟩
-- 0 stands, 1 part, 2 under, 3 _
theorem ok_has_end (T : Txt w K mg) : FnOk P w K mg base CX0 1 (He.ga K "has_end") (fdOf K d_has_end) ["stands", "part"] spHasEnd := by
  refine T.F_has_end.ok sc_has_end (fun vs H Q E h => ?_) (fun cdv A outer s H vs Q E hr h => ?_)
  · obtain ⟨a, st, x, od, rfl, _⟩ := h
    rfl
  obtain ⟨a, st, x, od, rfl, ha, hod, sinv, hx, h8, q⟩ := h
  have hol : od.length = st.length := by rw [hod.length_eq, List.length_range]
  refine ⟨_, PSs.nox (pss_cons (ps_set (i := 2) sc_has_end.nd rfl (by first | exact Or.inl rfl | exact Or.inr rfl) (pv 1))
      (pss_cons (ps_for PassesOwn.never rfl (pi_range1 (by rfl) T.z_range (pa_cons (pe_callB (r := Evl.rLenS K) call_len_seq (by rfl) T.z_len PySem.boot_len (pa_cons (pv 0) pa_nil)) pa_nil)) (pg_name (i := 3) sc_has_end.nd rfl (by first | exact Or.inl rfl | exact Or.inr rfl)) (pss_one (ps_if (pt_cmpR op_ne (pv 2) (pe_glob (v := .int (-1)) (by rfl) T.i_NO_PART.choose_spec ⟨_, rfl⟩) (nomark _)) (pss_one (ps_set (i := 2) sc_has_end.nd rfl (by first | exact Or.inl rfl | exact Or.inr rfl) (pe_ix (r := rIxT K) ix_tup (pv 0) (pv 2) (fun _ _ => rfl)))) pss_nil)))
      (pss_one (ps_ret (pe_cmpR op_eq (pv 2) (pe_glob (v := .int (-1)) (by rfl) T.i_NO_PART.choose_spec ⟨_, rfl⟩) (nomark _)))))), ?_⟩
  refine ⟨_, rfl, _, rfl, a, _, rfl, .inr (SqT.of ha), _, rfl, by omega, by rw [List.length_map]; omega, for_range (lo := 0) (n := (((st.map V.int).length : Nat) : Int).toNat) (fun i σ H' => ∃ (z : Int) (y3 : Option V), σ = [some (.ref a), some (.int (x : Int)), some (.int z), y3] ∧ H' = H ∧ (z = -1 ∨ ∃ t y : Nat, od[t]? = some y ∧ z = (y : Int) ∧ t + i < st.length)) ⟨x, none, rfl, rfl, ?_⟩ ?_ ?_⟩
  · obtain ⟨t, ht⟩ := List.mem_iff_getElem?.mp (hod.mem_iff.mpr (List.mem_range.mpr hx))
    exact .inr ⟨t, x, ht, rfl, by have := (List.getElem?_eq_some_iff.mp ht).1; omega⟩
  · rintro i σ H1 hi ⟨z, y3, rfl, rfl, hz⟩
    refine ⟨_, rfl, rfl, _, rfl, ?_⟩
    rcases hz with rfl | ⟨t, y, ht, rfl, hti⟩
    · show if (!decide (V.int (-1) = V.int (-1))) = true then _ else _
      rw [decide_eq_true rfl]
      exact ⟨-1, _, rfl, rfl, .inl rfl⟩
    · have ne : decide (V.int (y : Int) = V.int (-1)) = false := decide_eq_false fun e => by
        have := V.int.inj e
        omega
      show if (!decide (V.int (y : Int) = V.int (-1))) = true then _ else _
      rw [ne]
      rcases sinv t y ht with e | ⟨j, u, hj, hu, e⟩
      · exact ⟨_, rfl, _, rfl, a, _, _, .int (-1), rfl, rfl, SqT.of ha, atI_nat (by rw [List.getElem?_map, e]; rfl), -1, _, rfl, rfl, .inl rfl⟩
      · exact ⟨_, rfl, _, rfl, a, _, _, .int ((u : Nat) : Int), rfl, rfl, SqT.of ha, atI_nat (by rw [List.getElem?_map, e]; rfl), _, _, rfl, rfl, .inr ⟨j, u, hu, rfl, by omega⟩⟩
  · rintro σ H1 ⟨z, y3, rfl, rfl, hz⟩
    rcases hz with rfl | ⟨t, y, ht, rfl, hti⟩
    · refine ⟨_, rfl, rfl, ?_⟩
      show Q (.bl (decide (V.int (-1) = V.int (-1)))) H1
      rw [decide_eq_true rfl]
      exact q
    · rw [Int.toNat_natCast, List.length_map] at hti
      omega
theorem sc_stands_fit : FnScope ["stands", "parts", "stand", "part"] ["stands", "parts"] (defScope s_stands_fit) := ⟨rfl, rfl, rfl, by decide +kernel, rfl, by decide +kernel, by decide +kernel⟩
-- 0 stands, 1 parts, 2 stand, 3 part
theorem ok_stands_fit (T : Txt w K mg) : FnOk P w K mg base CX0 2 (He.ga K "stands_fit") (fdOf K d_stands_fit) ["stands", "parts"] spStandsFit := by
  have G_between := ok_between (P := P) (base := base) T
  have G_has_end := ok_has_end (P := P) (base := base) T
  refine T.F_stands_fit.ok sc_stands_fit (fun vs H Q E h => ?_) (fun cdv A outer s H vs Q E hr h => ?_)
  · obtain ⟨a, st, m, od, rfl, _⟩ := h
    rfl
  obtain ⟨a, st, m, od, rfl, ha, hm, hod, sinv, h8, q⟩ := h
  have hol : od.length = m := by rw [hod.length_eq, List.length_range]
  have hlm : (st.map V.int).length = m := by rw [List.length_map, hm]
  refine ⟨_, PSs.nox (pss_cons (ps_if (PW.pt (pw_or (pt_not (pt_val (pe_callB (r := rIsi K) call_isi (by rfl) T.z_isinstance (by decide +kernel) (pa_cons (pv 0) (pa_cons (pe_bltn (v := .ty "tuple") (by rfl) T.z_tuple (by decide +kernel) rfl) pa_nil))))) (pw_or1 (pt_cmpR op_ne (pe_callB (r := Evl.rLenS K) call_len_seq (by rfl) T.z_len PySem.boot_len (pa_cons (pv 0) pa_nil)) (pv 1) (nomark _))))) (pss_one (ps_ret pe_bl)) pss_nil)
      (pss_cons (ps_if (pt_not (pt_val (pe_callB (r := rAll K) (cr_all rfl) (by rfl) T.z_all (by decide +kernel) (pa_cons (pe_lc (own := [("stand", 2)]) rfl sc_stands_fit.nd (Ov.pi_tupK (K := K) rfl (pv 0)) (blkOk_by (own := [("stand", 2)]) (N := ["stands", "parts", "stand", "part"]) (sc := defScope s_stands_fit) (by decide +kernel)) (fun _ _ _ _ _ => (pg_name (i := 2) sc_stands_fit.nd rfl (by first | exact Or.inl rfl | exact Or.inr rfl))) (fun _ _ _ _ _ => pts_nil) (fun _ _ _ _ _ => (pe_call G_between (hr.mono (by omega)) (by rfl) T.g_between T.kp_between T.b_between .nil pass0 (pa_cons (pv 2) (pa_cons (pe_glob (v := .int (-1)) (by rfl) T.i_NO_PART.choose_spec ⟨_, rfl⟩) (pa_cons (pe_op op_sub (pv 1) pe_int) pa_nil)))))) pa_nil)))) (pss_one (ps_ret pe_bl)) pss_nil)
      (pss_one (ps_ret (pe_callB (r := rAll K) (cr_all rfl) (by rfl) T.z_all (by decide +kernel) (pa_cons (pe_lc (own := [("part", 3)]) rfl sc_stands_fit.nd (pi_range1 (by rfl) T.z_range (pa_cons (pv 1) pa_nil)) (blkOk_by (own := [("part", 3)]) (N := ["stands", "parts", "stand", "part"]) (sc := defScope s_stands_fit) (by decide +kernel)) (fun _ _ _ _ _ => (pg_name (i := 3) sc_stands_fit.nd rfl (by first | exact Or.inl rfl | exact Or.inr rfl))) (fun _ _ _ _ _ => pts_nil) (fun _ _ _ _ _ => (pe_call G_has_end (hr.mono (by omega)) (by rfl) T.g_has_end T.kp_has_end T.b_has_end .nil pass0 (pa_cons (pv 0) (pa_cons (pv 3) pa_nil))))) pa_nil)))))), ?_⟩
  have enm : (!decide (V.int (((st.map V.int).length : Nat) : Int) = V.int (m : Int))) = false := by rw [hlm, decide_eq_true rfl]; rfl
  refine ⟨_, rfl, _, .ty "tuple", .type "tuple", .type "tuple", true, rfl, .ty _, .base (.tup ha), k_tuple_tuple, true, rfl, iteF ⟨_, rfl, a, _, rfl, .inr (SqT.of ha), _, rfl, rfl, _, rfl, ?_⟩⟩
  rw [enm]
  refine iteF ⟨_, rfl, a, rfl, ⟨_, SqT.of ha⟩, fun D hD => ?_⟩
  refine lc_tupY (K := K) (a := a) (xs := st.map V.int) (fun i H' => Same H H' ∧ H' D = some (.lst ((List.replicate i true).map V.bl))) ⟨Same.new hD, upd_same⟩ (fun i H' _ e => SqT.of (e.1 _ _ ha)) ?_ ?_
  · rintro i x H1 hi ⟨s1, e1⟩
    obtain ⟨y, hy, rfl⟩ := ints_int hi
    have hil := (List.getElem?_eq_some_iff.mp hy).1
    have hb : -1 ≤ y ∧ y ≤ (m : Int) - 1 := by
      obtain ⟨t, ht⟩ := List.mem_iff_getElem?.mp (hod.mem_iff.mpr (List.mem_range.mpr (by omega : i < m)))
      rcases sinv t i ht with e | ⟨j, u, hj, hu, e⟩
      · have := Option.some.inj (hy.symm.trans e)
        omega
      · have z1 := Option.some.inj (hy.symm.trans e)
        have z2 := List.mem_range.mp (hod.mem_iff.mp (List.mem_of_getElem? hu))
        omega
    refine ⟨rfl, _, rfl, _, rfl, _, 1, rfl, rfl, y, -1, _, rfl, _, e1, sm _ (by rw [List.length_map, List.length_replicate]; omega), Ov.Same.updn s1 hD, ?_⟩
    rw [upd_same, decide_eq_true hb, rep_snoc]
  rintro H1 ⟨s1, e1⟩
  refine ⟨D, _, rfl, SqL.of e1, true, ?_, iteF ?_⟩
  · show V.bl ((List.replicate (st.map V.int).length true).all id) = V.bl true
    rw [rep_all]
  refine ⟨_, rfl, _, rfl, by omega, by omega, fun B hB => ?_⟩
  refine lc_rangeY (lo := 0) (n := ((m : Nat) : Int).toNat) (fun i H' => Same H1 H' ∧ H' B = some (.lst ((List.replicate i true).map V.bl))) ⟨Same.new hB, upd_same⟩ ?_ ?_
  · rintro i H2 hi ⟨s2, e2⟩
    rw [Int.toNat_natCast] at hi
    refine ⟨rfl, _, rfl, _, rfl, a, st, i, od, ?_, s2 _ _ (s1 _ _ ha), by rw [hm]; exact hod, sinv, by omega, by omega, _, e2, sm _ (by rw [List.length_map, List.length_replicate]; omega), Ov.Same.updn s2 hB, ?_⟩
    · show [V.ref a, V.int (0 + (i : Int))] = _
      rw [Int.zero_add]
    · rw [upd_same, rep_snoc]
  · rintro H2 ⟨s2, e2⟩
    refine ⟨B, _, rfl, SqL.of e2, ?_⟩
    show Q (.bl ((List.replicate ((m : Nat) : Int).toNat true).all id)) H2
    rw [rep_all]
    exact q H2 (s1.trans s2)
theorem sc_check_tree : FnScope ["program", "tree"] ["program", "tree"] (defScope s_check_tree) := ⟨rfl, rfl, rfl, by decide +kernel, rfl, by decide +kernel, by decide +kernel⟩
-- 0 program, 1 tree
theorem ok_check_tree (T : Txt w K mg) : FnOk P w K mg base CX0 12 (He.ga K "check_tree") (fdOf K d_check_tree) ["program", "tree"] spCheckTree := by
  have G_check_program := ok_check_program (P := P) (base := base) T
  have G_parts_fit := ok_parts_fit (P := P) (base := base) T
  have G_stands_fit := ok_stands_fit (P := P) (base := base) T
  refine T.F_check_tree.ok sc_check_tree (fun vs H Q E h => ?_) (fun cdv A outer s H vs Q E hr h => ?_)
  · obtain ⟨v, t, pr, ps, st, rfl, _⟩ := h
    rfl
  obtain ⟨v, t, pr, ps, st, rfl, ⟨hpr, hok, ⟨a, pa, sa, us, rfl, ha, hpa, hus, hsa⟩, htr⟩, q⟩ := h
  obtain ⟨od, hod, sinv⟩ := htr.ord
  have l8 := hok.l8
  have hc := htr.p.count
  refine ⟨_, PSs.nox (pss_cons (ps_expr (pe_call G_check_program (hr.mono (by omega)) (by rfl) T.g_check_program T.kp_check_program T.b_check_program .nil pass0 (pa_cons (pv 0) pa_nil)))
      (pss_cons (ps_if (PW.pt (pw_or (pt_cmpR op_ne (pe_callB (r := Evl.rLenS K) call_len_seq (by rfl) T.z_len PySem.boot_len (pa_cons (pv 1) pa_nil)) pe_int (nomark _)) (pw_or1 (pt_not (pt_val (pe_call G_parts_fit (hr.mono (by omega)) (by rfl) T.g_parts_fit T.kp_parts_fit T.b_parts_fit .nil pass0 (pa_cons (pe_ix (r := rIxT K) ix_tup (pv 1) pe_int (fun _ _ => rfl)) (pa_cons (pe_callB (r := Evl.rLenS K) call_len_seq (by rfl) T.z_len PySem.boot_len (pa_cons (pv 0) pa_nil)) pa_nil)))))))) (pss_one ps_never) pss_nil)
      (pss_one (ps_if (pt_not (pt_val (pe_call G_stands_fit (hr.mono (by omega)) (by rfl) T.g_stands_fit T.kp_stands_fit T.b_stands_fit .nil pass0 (pa_cons (pe_ix (r := rIxT K) ix_tup (pv 1) pe_int (fun _ _ => rfl)) (pa_cons (pe_callB (r := Evl.rLenS K) call_len_seq (by rfl) T.z_len PySem.boot_len (pa_cons (pe_ix (r := rIxT K) ix_tup (pv 1) pe_int (fun _ _ => rfl)) pa_nil)) pa_nil))))) (pss_one ps_never) pss_nil)))), ?_⟩
  refine ⟨_, rfl, v, pr, rfl, hpr, hok, fun H1 s1 => ?_⟩
  obtain ⟨pp, pvs, rfl, hpp, hpf⟩ := hpr.keep (Keep.same s1)
  have hpl := Paired.length hpf
  have hul := Paired.length hus
  refine ⟨_, rfl, a, _, rfl, .inr (SqT.of (s1 _ _ ha)), rfl, _, rfl, iteNS rfl ?_⟩
  refine ⟨_, rfl, a, _, 0, _, rfl, rfl, SqT.of (s1 _ _ ha), atI_nat (j := 0) rfl, _, rfl, pp, _, rfl, .inr (SqT.of hpp), pa, pr.length, us, ps, by rw [hpl]; rfl, s1 _ _ hpa, L2.Paired.mapP hus fun _ _ z => z.keep (Keep.same s1), htr.p, l8, fun H2 s2 => ⟨true, rfl, iteF ?_⟩⟩
  have s02 := s1.trans s2
  refine ⟨_, rfl, a, _, 1, _, rfl, rfl, SqT.of (s02 _ _ ha), atI_nat (j := 1) rfl, _, rfl, a, _, 0, _, rfl, rfl, SqT.of (s02 _ _ ha), atI_nat (j := 0) rfl, pa, us, rfl, .inr (SqT.of (s02 _ _ hpa)), ?_⟩
  exact ⟨sa, st, us.length, od, rfl, s02 _ _ hsa, by rw [htr.len, hul], by rw [hul]; exact hod, sinv, by omega, fun H3 s3 => ⟨true, rfl, iteF (q H3 (s02.trans s3))⟩⟩
end
end K03

namespace K03
open PySem PySem.Spec PyProof.Rows L2 Ov
section
variable {P : Program} {w : World} {K : PySem.W.Frag} {mg : Str → Option Value} {base : Heap}
theorem sc_parts_below : FnScope ["stands", "part", "below", "under"] ["stands", "part"] (defScope s_parts_below) := ⟨rfl, rfl, rfl, by decide +kernel, rfl, by decide +kernel, by decide +kernel⟩
-- 0 stands, 1 part, 2 below, 3 under
theorem ok_parts_below (T : Txt w K mg) : FnOk P w K mg base CX0 1 (He.ga K "parts_below") (fdOf K d_parts_below) ["stands", "part"] spPartsBelow := by
  refine T.F_parts_below.ok sc_parts_below (fun vs H Q E h => ?_) (fun cdv A outer s H vs Q E hr h => ?_)
  · obtain ⟨a, st, x, l, rfl, _⟩ := h
    rfl
  obtain ⟨a, st, x, l, rfl, ha, hd, hl, q⟩ := h
  refine ⟨_, PSs.nox (pss_cons (ps_set (i := 2) sc_parts_below.nd rfl (by first | exact Or.inl rfl | exact Or.inr rfl) (pe_lst pa_nil))
      (pss_cons (ps_set (i := 3) sc_parts_below.nd rfl (by first | exact Or.inl rfl | exact Or.inr rfl) (pe_ix (r := rIxT K) ix_tup (pv 0) (pv 1) (fun _ _ => rfl)))
      (pss_cons (ps_while PassesOwn.never (pt_cmpR op_ne (pv 3) (pe_glob (v := .int (-1)) (by rfl) T.i_NO_PART.choose_spec ⟨_, rfl⟩) (nomark _)) (pss_cons (ps_expr (Ov.pe_bmK (K := K) rfl PySem.F.plainAttrs_list PySem.F.slot_list_append PySem.F.type_list_append mt_append (pv 2) (pa_cons (pv 3) pa_nil)))
      (pss_one (ps_set (i := 3) sc_parts_below.nd rfl (by first | exact Or.inl rfl | exact Or.inr rfl) (pe_ix (r := rIxT K) ix_tup (pv 0) (pv 3) (fun _ _ => rfl))))))
      (pss_one (ps_ret (Ov.pe_revLK (K := K) rfl (pv 2))))))), ?_⟩
  refine ⟨sml 0, fun D hD => ?_⟩
  have s1 := Same.new (o := .lst []) hD
  obtain ⟨z, hz⟩ := hd.get
  refine ⟨_, rfl, _, rfl, a, _, _, _, rfl, rfl, SqT.of (s1 _ _ ha), atI_nat (by rw [List.getElem?_map, hz]; rfl), ?_⟩
  refine ⟨fun m σ H' => ∃ (c : Nat) (z : Int) (l' acc : List Nat), σ = [some (.ref a), some (.int (x : Int)), some (.ref D), some (.int z)] ∧ Same H H' ∧ H' D = some (.lst (nV acc)) ∧ Down st c l' ∧ st[c]? = some z ∧ l = l' ++ acc.reverse ∧ m = l'.length, ⟨_, x, z, l, [], rfl, s1, upd_same, hd, hz, by rw [List.reverse_nil, List.append_nil], rfl⟩, ?_⟩
  rintro m σ H1 ⟨c, z, l', acc, rfl, s2, e2, d2, hz2, el, rfl⟩
  have hlen : l.length = l'.length + acc.length := by rw [el, List.length_append, List.length_reverse]
  refine ⟨_, rfl, rfl, _, rfl, ?_⟩
  cases d2 with
  | base e =>
    obtain rfl : z = -1 := Option.some.inj (hz2.symm.trans e)
    show if (!decide (V.int (-1) = V.int (-1))) = true then _ else _
    rw [decide_eq_true (rfl : V.int (-1) = V.int (-1))]
    refine iteF ?_
    refine ⟨_, rfl, D, _, rfl, SqL.of e2, fun p hp => ?_⟩
    have er : (nV acc).reverse = nV l := by rw [el]; unfold nV; rw [List.nil_append, List.map_reverse]
    rw [er]
    exact q _ p (s2.trans (Same.new hp)) (Same.free s2 hp) upd_same
  | @step _ y l2 e d3 =>
    obtain rfl : z = (y : Int) := Option.some.inj (hz2.symm.trans e)
    have ne : decide (V.int (y : Int) = V.int (-1)) = false := decide_eq_false fun e => by
      have := V.int.inj e
      omega
    show if (!decide (V.int (y : Int) = V.int (-1))) = true then _ else _
    rw [ne]
    obtain ⟨z3, hz3⟩ := d3.get
    have e1 := s2 _ _ ha
    rw [List.length_append, List.length_singleton] at hlen
    refine iteT ⟨_, fun σ' H' h => h, ?_⟩
    refine ⟨_, rfl, .inl ⟨rfl, _, SqL.of e2⟩, _, rfl, D, _, _, rfl, rfl, e2, sm _ (by rw [nV_len]; omega), ?_⟩
    refine ⟨_, rfl, _, rfl, a, _, _, _, rfl, rfl, SqT.of (Ov.Same.updn s2 hD _ _ ha), atI_nat (by rw [List.getElem?_map, hz3]; rfl), ?_⟩
    refine ⟨l2.length, by rw [List.length_append, List.length_singleton]; omega, y, z3, l2, acc ++ [y], rfl, Ov.Same.updn s2 hD, ?_, d3, hz3, ?_, rfl⟩
    · rw [upd_same, nV_app]
    · rw [el, List.reverse_append, List.append_assoc]
      rfl
theorem sc_size_of : FnScope ["program", "part", "function"] ["program", "part"] (defScope s_size_of) := ⟨rfl, rfl, rfl, by decide +kernel, rfl, by decide +kernel, by decide +kernel⟩
-- 0 program, 1 part, 2 function
theorem ok_size_of (T : Txt w K mg) : FnOk P w K mg base CX0 1 (He.ga K "size_of") (fdOf K d_size_of) ["program", "part"] spSizeOf := by
  refine T.F_size_of.ok sc_size_of (fun vs H Q E h => ?_) (fun cdv A outer s H vs Q E hr h => ?_)
  · obtain ⟨v, u, pr, p, rfl, _⟩ := h
    rfl
  obtain ⟨v, u, pr, p, rfl, ⟨a, vs, rfl, ha, hvs⟩, ⟨b, rfl, hb⟩, hlt, hl, q⟩ := h
  refine ⟨_, PSs.nox (pss_one (ps_ret (pe_callB (r := rSum K) (cr_sum rfl) (by rfl) T.z_sum (by decide +kernel) (pa_cons (pe_lc (own := [("function", 2)]) rfl sc_size_of.nd (Ov.pi_tupK (K := K) rfl (pv 1)) (blkOk_by (own := [("function", 2)]) (N := ["program", "part", "function"]) (sc := defScope s_size_of) (by decide +kernel)) (fun _ _ _ _ _ => (pg_name (i := 2) sc_size_of.nd rfl (by first | exact Or.inl rfl | exact Or.inr rfl))) (fun _ _ _ _ _ => pts_nil) (fun _ _ _ _ _ => (pe_ix (r := rIxT K) ix_tup (pe_ix (r := rIxT K) ix_tup (pv 0) (pv 2) (fun _ _ => rfl)) pe_int (fun _ _ => rfl)))) pa_nil)))), ?_⟩
  refine ⟨_, rfl, b, rfl, ⟨_, SqT.of hb⟩, fun D hD => ?_⟩
  refine lc_tupY (K := K) (a := b) (xs := nV p) (fun i H' => Same H H' ∧ H' D = some (.lst (((p.take i).map (fsz pr)).map V.int))) ⟨Same.new hD, upd_same⟩ (fun i H' _ e => SqT.of (e.1 _ _ hb)) ?_ ?_
  · rintro i x H1 hi ⟨s1, e1⟩
    obtain ⟨y, hy, rfl⟩ := nV_int hi
    have hyl := hlt y (List.mem_of_getElem? hy)
    obtain ⟨f, hf⟩ : ∃ f, pr[y]? = some f := ⟨_, List.getElem?_eq_getElem hyl⟩
    obtain ⟨u, hu, ⟨c, wv, rfl, hc, _⟩⟩ := Paired.got hvs hf
    have efs : fsz pr y = f.1 := by unfold fsz; rw [hf]; rfl
    refine ⟨rfl, _, rfl, _, rfl, a, _, _, _, rfl, rfl, SqT.of (s1 _ _ ha), atI_nat hu, c, _, 0, _, rfl, rfl, SqT.of (s1 _ _ hc), atI_nat (j := 0) rfl, _, e1, sm _ (by rw [List.length_map, List.length_map, List.length_take]; omega), Ov.Same.updn s1 hD, ?_⟩
    rw [upd_same, List.take_add_one, hy, List.map_append, List.map_append]
    show some (HO.lst (_ ++ [V.int f.1])) = some (HO.lst (_ ++ [V.int (fsz pr y)]))
    rw [efs]
  · rintro H1 ⟨s1, e1⟩
    rw [nV_len, List.take_length] at e1
    exact ⟨D, _, rfl, SqL.of e1, q H1 s1⟩
def osc_begins : Scope := { kind := .function, names := [(".0", .local), ("part", .local), ("sum", .globalImplicit), ("parts_below", .globalImplicit), ("sizes", .cell), ("stands", .cell)], isGenerator := false, isCoroutine := false }
theorem sc_begins : FnScope ["program", "tree", "parts", "stands", "sizes", "part", "under"] ["program", "tree"] (defScope s_begins) := ⟨rfl, rfl, rfl, by decide +kernel, rfl, by decide +kernel, by decide +kernel⟩
-- 0 program, 1 tree, 2 parts, 3 stands, 4 sizes, 5 part, 6 under
theorem ok_begins (T : Txt w K mg) : FnOk P w K mg base CX0 2 (He.ga K "begins") (fdOf K d_begins) ["program", "tree"] spBegins := by
  have G_parts_below := ok_parts_below (P := P) (base := base) T
  have G_size_of := ok_size_of (P := P) (base := base) T
  refine T.F_begins.ok sc_begins (fun vs H Q E h => ?_) (fun cdv A outer s H vs Q E hr h => ?_)
  · obtain ⟨v, t, pr, ps, st, dn, rfl, _⟩ := h
    rfl
  obtain ⟨v, t, pr, ps, st, dn, rfl, ⟨hpr, hok, ⟨a, pa, sa, us, rfl, ha, hpa, hus, hsa⟩, htr⟩, hdn, q⟩ := h
  have l8 := hok.l8
  have hc := htr.p.count
  have hul := Paired.length hus
  refine ⟨_, PSs.nox (pss_cons (ps_asg (pv 1) (Ov.pg_tupK (K := K) (n := 2) rfl rfl (pgs_cons (pg_name (i := 2) sc_begins.nd rfl (by first | exact Or.inl rfl | exact Or.inr rfl)) (pgs_cons (pg_name (i := 3) sc_begins.nd rfl (by first | exact Or.inl rfl | exact Or.inr rfl)) pgs_nil))))
      (pss_cons (ps_set (i := 4) sc_begins.nd rfl (by first | exact Or.inl rfl | exact Or.inr rfl) (pe_lc (own := [("part", 5)]) rfl sc_begins.nd (Ov.pi_tupK (K := K) rfl (pv 2)) (by first | exact blkOk_by (own := [("part", 5)]) (N := ["program", "tree", "parts", "stands", "sizes", "part", "under"]) (sc := defScope s_begins) (by decide +kernel) | exact blkOk_by (own := [("part", 5)]) (N := ["program", "tree", "parts", "stands", "sizes", "part", "under"]) (sc := osc_begins) (by decide +kernel)) (fun _ _ _ _ _ => (pg_name (i := 5) sc_begins.nd rfl (by first | exact Or.inl rfl | exact Or.inr rfl))) (fun _ _ _ _ _ => pts_nil) (fun _ _ _ _ _ => (pe_call G_size_of (hr.mono (by omega)) (by rfl) T.g_size_of T.kp_size_of T.b_size_of .nil pass0 (pa_cons (pv 0) (pa_cons (pv 5) pa_nil))))))
      (pss_one (ps_ret (pe_lc (own := [("part", 5)]) rfl sc_begins.nd (pi_range1 (by rfl) T.z_range (pa_cons (pe_callB (r := Evl.rLenS K) call_len_seq (by rfl) T.z_len PySem.boot_len (pa_cons (pv 2) pa_nil)) pa_nil)) (by first | exact blkOk_by (own := [("part", 5)]) (N := ["program", "tree", "parts", "stands", "sizes", "part", "under"]) (sc := defScope s_begins) (by decide +kernel) | exact blkOk_by (own := [("part", 5)]) (N := ["program", "tree", "parts", "stands", "sizes", "part", "under"]) (sc := osc_begins) (by decide +kernel)) (fun _ _ _ _ _ => (pg_name (i := 5) sc_begins.nd rfl (by first | exact Or.inl rfl | exact Or.inr rfl))) (fun _ _ _ _ _ => pts_nil) (fun _ _ _ _ _ => (pe_callB (r := rSum K) (cr_sum rfl) (by rfl) T.z_sum (by decide +kernel) (pa_cons (pe_lc (own := [("under", 6)]) rfl sc_begins.nd (Ov.pi_listK (K := K) rfl (pe_call G_parts_below (hr.mono (by omega)) (by rfl) T.g_parts_below T.kp_parts_below T.b_parts_below .nil pass0 (pa_cons (pv 3) (pa_cons (pv 5) pa_nil)))) (by first | exact blkOk_by (own := [("under", 6)]) (N := ["program", "tree", "parts", "stands", "sizes", "part", "under"]) (sc := defScope s_begins) (by decide +kernel) | exact blkOk_by (own := [("under", 6)]) (N := ["program", "tree", "parts", "stands", "sizes", "part", "under"]) (sc := osc_begins) (by decide +kernel)) (fun _ _ _ _ _ => (pg_name (i := 6) sc_begins.nd rfl (by first | exact Or.inl rfl | exact Or.inr rfl))) (fun _ _ _ _ _ => pts_nil) (fun _ _ _ _ _ => (pe_ix (r := rIxL K) ix_list (pv 4) (pv 6) (fun _ _ => rfl)))) pa_nil)))))))), ?_⟩
  refine ⟨_, rfl, a, _, rfl, SqT.of ha, rfl, _, _, rfl, _, _, rfl, rfl, _, rfl, pa, rfl, ⟨us, SqT.of hpa⟩, fun D hD => ?_⟩
  refine lc_tupY (K := K) (a := pa) (xs := us) (fun i H' => Same H H' ∧ H' D = some (.lst (((ps.take i).map (psz pr)).map V.int))) ⟨Same.new hD, upd_same⟩ (fun i H' _ e => SqT.of (e.1 _ _ hpa)) ?_ ?_
  · rintro i x H1 hi ⟨s1, e1⟩
    obtain ⟨p, hp, hx⟩ := Paired.get2 hus hi
    have hm := List.mem_of_getElem? hp
    have hil := (List.getElem?_eq_some_iff.mp hp).1
    refine ⟨rfl, _, rfl, _, rfl, v, x, pr, p, rfl, hpr.keep (Keep.same s1), hx.keep (Keep.same s1), fun y hy => htr.p.lt hm hy, by have := htr.p.plen hm; omega, fun H2 s2 => ⟨_, s2 _ _ e1, sm _ (by rw [List.length_map, List.length_map, List.length_take]; omega), Ov.Same.updn (s1.trans s2) hD, ?_⟩⟩
    rw [upd_same, List.take_add_one, hp, List.map_append, List.map_append]
    rfl
  rintro H1 ⟨s1, e1⟩
  rw [hul, List.take_length] at e1
  refine ⟨_, rfl, pa, _, rfl, .inr (SqT.of (s1 _ _ hpa)), _, rfl, by omega, by omega, fun B hB => ?_⟩
  refine lc_rangeY (lo := 0) (n := ((us.length : Nat) : Int).toNat) (fun i H' => Same H1 H' ∧ H' B = some (.lst (((List.range i).map (bgn pr ps dn)).map V.int))) ⟨Same.new hB, upd_same⟩ ?_ ?_
  · rintro i H2 hi ⟨s2, e2⟩
    rw [Int.toNat_natCast, hul] at hi
    have sz : ∀ y, y < ps.length → (((ps.map (psz pr)).map V.int))[y]? = some (.int (psz pr (ps[y]?.getD []))) := fun y hy => by
      rw [List.getElem?_map, List.getElem?_map, List.getElem?_eq_getElem hy]
      rfl
    refine ⟨rfl, _, rfl, _, rfl, sa, st, i, dn i, ?_, s2 _ _ (s1 _ _ hsa), hdn.down i hi, by have := hdn.len i hi; omega, fun H3 p s3 hp3 e3 => ?_⟩
    · show [V.ref sa, V.int (0 + (i : Int))] = _
      rw [Int.zero_add]
    refine ⟨p, rfl, ⟨_, SqL.of e3⟩, fun C hC => ?_⟩
    refine lc_listY (K := K) (a := p) (xs := nV (dn i)) (fun j H' => Same H3 H' ∧ H' C = some (.lst ((((dn i).take j).map fun y => psz pr (ps[y]?.getD [])).map V.int))) ⟨Same.new hC, upd_same⟩ (fun j H' _ e => SqL.of (e.1 _ _ e3)) ?_ ?_
    · rintro j x H4 hj ⟨s4, e4⟩
      obtain ⟨y, hy, rfl⟩ := nV_int hj
      have hjl := (List.getElem?_eq_some_iff.mp hy).1
      have hdl := hdn.len i hi
      refine ⟨rfl, _, rfl, _, rfl, D, _, _, _, rfl, rfl, SqL.of (s4 _ _ (s3 _ _ (s2 _ _ e1))), atI_nat (sz y (hdn.lt i hi y (List.mem_of_getElem? hy))), _, e4, sm _ (by rw [List.length_map, List.length_map, List.length_take]; omega), Ov.Same.updn s4 hC, ?_⟩
      rw [upd_same, List.take_add_one, hy, List.map_append, List.map_append]
      rfl
    · rintro H4 ⟨s4, e4⟩
      rw [nV_len, List.take_length] at e4
      refine ⟨C, _, rfl, SqL.of e4, _, s4 _ _ (s3 _ _ e2), sm _ (by rw [List.length_map, List.length_map, List.length_range]; omega), Ov.Same.updn (s2.trans (s3.trans s4)) hB, ?_⟩
      rw [upd_same, List.range_succ, List.map_append, List.map_append]
      rfl
  · rintro H2 ⟨s2, e2⟩
    rw [Int.toNat_natCast, hul] at e2
    exact q H2 B (s1.trans s2) (Same.free s1 hB) e2
end
end K03

namespace K03
open PySem PySem.Spec PyProof.Rows L2 Ov
section
variable {P : Program} {w : World} {K : PySem.W.Frag} {mg : Str → Option Value} {base : Heap}
theorem sc_firsts_of : FnScope ["program", "tree", "firsts", "part", "begin", "cell", "function"] ["program", "tree"] (defScope s_firsts_of) := ⟨rfl, rfl, rfl, by decide +kernel, rfl, by decide +kernel, by decide +kernel⟩
-- 0 program, 1 tree, 2 firsts, 3 part, 4 begin, 5 cell, 6 function
theorem ok_firsts_of (T : Txt w K mg) : FnOk P w K mg base CX0 3 (He.ga K "firsts_of") (fdOf K d_firsts_of) ["program", "tree"] spPlaces := by
  have G_begins := ok_begins (P := P) (base := base) T
  refine T.F_firsts_of.ok sc_firsts_of (fun vs H Q E h => ?_) (fun cdv A outer s H vs Q E hr h => ?_)
  · obtain ⟨v, t, pr, ps, st, dn, rfl, _⟩ := h
    rfl
  obtain ⟨v, t, pr, ps, st, dn, rfl, hpre, hdn, q⟩ := h
  refine ⟨_, PSs.nox (pss_cons (ps_set (i := 2) sc_firsts_of.nd rfl (by first | exact Or.inl rfl | exact Or.inr rfl) (pe_op op_rep (pe_lst (pa_cons pe_int pa_nil)) (pe_callB (r := Evl.rLenS K) call_len_seq (by rfl) T.z_len PySem.boot_len (pa_cons (pv 0) pa_nil))))
      (pss_cons (ps_for PassesOwn.never rfl (Ov.pi_zp (K := K) .t .l rfl (by rfl) T.z_zip (pa_cons (pe_ix (r := rIxT K) ix_tup (pv 1) pe_int (fun _ _ => rfl)) (pa_cons (pe_call G_begins (hr.mono (by omega)) (by rfl) T.g_begins T.kp_begins T.b_begins .nil pass0 (pa_cons (pv 0) (pa_cons (pv 1) pa_nil))) pa_nil))) (Ov.pg_tupK (K := K) (n := 2) rfl rfl (pgs_cons (pg_name (i := 3) sc_firsts_of.nd rfl (by first | exact Or.inl rfl | exact Or.inr rfl)) (pgs_cons (pg_name (i := 4) sc_firsts_of.nd rfl (by first | exact Or.inl rfl | exact Or.inr rfl)) pgs_nil))) (pss_cons (ps_set (i := 5) sc_firsts_of.nd rfl (by first | exact Or.inl rfl | exact Or.inr rfl) (pv 4))
      (pss_one (ps_for PassesOwn.never rfl (Ov.pi_tupK (K := K) rfl (pv 3)) (pg_name (i := 6) sc_firsts_of.nd rfl (by first | exact Or.inl rfl | exact Or.inr rfl)) (pss_cons (ps_asg (pv 5) (pg_sub (pv 2) (pv 6) set_list))
      (pss_one (ps_aug (i := 5) sc_firsts_of.nd rfl (by first | exact Or.inl rfl | exact Or.inr rfl) (pe_ix (r := rIxT K) ix_tup (pe_ix (r := rIxT K) ix_tup (pv 0) (pv 6) (fun _ _ => rfl)) pe_int (fun _ _ => rfl)) ip_add)))))))
      (pss_one (ps_ret (pv 2))))), ?_⟩
  have hpre1 := hpre
  obtain ⟨⟨pa, vp, rfl, hpa, hpf⟩, hok, ⟨a, qa, sa, us, rfl, ha, hqa, hus, hsa⟩, htr⟩ := hpre1
  have hpl := Paired.length hpf
  have hul := Paired.length hus
  have l8 := hok.l8
  have hc := htr.p.count
  refine ⟨sml 1, fun l2 hl2 => ⟨_, rfl, pa, _, rfl, .inr (SqT.of (Same.new hl2 _ _ hpa)), ?_⟩⟩
  refine ⟨l2, ((vp.length : Nat) : Int), _, rfl, rfl, upd_same, by omega, by omega, sml _ (by rw [List.length_singleton, Int.toNat_natCast]; omega), fun F hF => ?_⟩
  rw [rep_v]
  have s2 : Same H (upd (upd H l2 (.lst [V.int 0])) F (.lst (List.replicate vp.length (V.int 0)))) := (Same.new hl2).trans (Same.new hF)
  have fF := Same.free (Same.new (o := .lst [V.int 0]) hl2) hF
  have hpre2 := hpre.keep (Keep.same s2)
  refine ⟨_, rfl, a, _, 0, _, rfl, rfl, SqT.of (s2 _ _ ha), atI_nat (j := 0) rfl, _, rfl, _, rfl, .ref pa, .ref a, pr, ps, st, dn, rfl, hpre2, hdn, fun H2 p s3 hp2 e2 => ?_⟩
  have nFp : F ≠ p := ne_of_none upd_same hp2
  refine ⟨qa, p, us, _, rfl, SqT.of (s3 _ _ (s2 _ _ hqa)), SqL.of e2, ?_⟩
  refine for_it (walk_zp (K := K) (k := .t) (m := .l) (a := qa) (b := p) (n := ps.length) (by rw [List.length_map, List.length_map, List.length_range]; omega)) (fun i σ' H' => ∃ (y3 y4 y5 y6 : Option V) (cs : List Int), σ' = [some (.ref pa), some (.ref a), some (.ref F), y3, y4, y5, y6] ∧ Same H H' ∧ H' p = some (.lst (((List.range ps.length).map (bgn pr ps dn)).map V.int)) ∧ H' F = some (.lst (cs.map V.int)) ∧ Fill pr.length ps (IsCell pr ps dn) i 0 cs)
    ⟨none, none, none, none, List.replicate vp.length 0, rfl, s2.trans s3, e2, by rw [List.map_replicate]; exact s3 _ _ upd_same, Fill.start (by rw [List.length_replicate, hpl])⟩ (fun i σ' H' _ ⟨_, _, _, _, _, _, z1, z2, _⟩ => ⟨SqT.of (z1 _ _ hqa), SqL.of z2⟩) ?_ ?_
  · rintro i z σ' H3 H4 hi ⟨y3, y4, y5, y6, cs, rfl, s4, ep, eF, fl⟩ ⟨tt, x, y, rfl, ht, rfl, hx, hy⟩
    obtain ⟨pt, hpt, ⟨b, rfl, hb⟩⟩ := Paired.get2 hus hx
    obtain ⟨yb, hyb, rfl⟩ := ints_int hy
    rw [List.getElem?_map, List.getElem?_range hi] at hyb
    obtain rfl := Option.some.inj hyb
    have s5 := Same.new (o := .tup [.ref b, .int (bgn pr ps dn i)]) ht
    have s45 := s4.trans s5
    refine ⟨tt, _, rfl, SqT.of upd_same, rfl, _, _, rfl, _, _, rfl, rfl, _, rfl, _, rfl, b, rfl, ⟨_, SqT.of (s45 _ _ hb)⟩, ?_⟩
    refine for_tup (K := K) (a := b) (xs := nV pt) (fun j σ' H' => ∃ (y6 : Option V) (cs : List Int), σ' = [some (.ref pa), some (.ref a), some (.ref F), some (.ref b), some (.int (bgn pr ps dn i)), some (.int (bgn pr ps dn i + psz pr (pt.take j))), y6] ∧ Same H H' ∧ H' p = some (.lst (((List.range ps.length).map (bgn pr ps dn)).map V.int)) ∧ H' F = some (.lst (cs.map V.int)) ∧ Fill pr.length ps (IsCell pr ps dn) i j cs)
      ⟨y6, cs, ?_, s45, s5 _ _ ep, s5 _ _ eF, fl⟩ (fun j σ' H' _ ⟨_, _, _, z1, _⟩ => SqT.of (z1 _ _ hb)) ?_ ?_
    · have e0 : bgn pr ps dn i + psz pr (pt.take 0) = bgn pr ps dn i := by
        rw [List.take_zero]
        exact Int.add_zero _
      rw [e0]
      rfl
    · rintro j x σ' H5 hj ⟨y6, cs, rfl, s6, ep, eF, fl⟩
      obtain ⟨f, hf, rfl⟩ := nV_int hj
      have hm := List.mem_of_getElem? hpt
      have hfl := htr.p.lt hm (List.mem_of_getElem? hf)
      obtain ⟨g, hg⟩ : ∃ g, pr[f]? = some g := ⟨_, List.getElem?_eq_getElem hfl⟩
      obtain ⟨u, hu, ⟨c, wv, rfl, hc2, _⟩⟩ := Paired.got hpf hg
      have efs : fsz pr f = g.1 := by unfold fsz; rw [hg]; rfl
      have s7 := Ov.Same.updn (o := .lst ((cs.map V.int).set f (.int (bgn pr ps dn i + psz pr (pt.take j))))) s6 fF
      refine ⟨_, rfl, _, rfl, _, rfl, F, _, _, f, rfl, rfl, eF, ixN_nat (by rw [List.length_map, fl.1]; exact hfl), ?_⟩
      refine ⟨_, rfl, _, rfl, _, rfl, pa, _, _, _, rfl, rfl, SqT.of (s7 _ _ hpa), atI_nat hu, c, _, 0, _, rfl, rfl, SqT.of (s7 _ _ hc2), atI_nat (j := 0) rfl, _, _, rfl, rfl, some (.int (f : Int)), cs.set f (bgn pr ps dn i + psz pr (pt.take j)), ?_, s7, ?_, ?_, fl.step htr.p hpt hf ?_⟩
      · have ez : bgn pr ps dn i + psz pr (pt.take j) + g.1 = bgn pr ps dn i + psz pr (pt.take (j + 1)) := by
          rw [List.take_add_one, hf]
          show _ = bgn pr ps dn i + psz pr (pt.take j ++ [f])
          rw [psz_snoc, efs, Int.add_assoc]
        rw [← ez]
        rfl
      · rw [upd_ne nFp.symm]
        exact ep
      · rw [upd_same, List.map_set]
      · unfold IsCell
        rw [hpt]
        rfl
    · rintro σ' H5 ⟨y6, cs, rfl, s6, ep, eF, fl⟩
      rw [nV_len] at fl
      exact ⟨_, _, _, _, cs, rfl, s6, ep, eF, fl.next hpt⟩
  · rintro σ' H3 ⟨y3, y4, y5, y6, cs, rfl, s4, ep, eF, fl⟩
    exact ⟨_, rfl, q H3 F cs (s4) (fF) eF fl.cells⟩
theorem sc_end_of : FnScope ["program", "tree", "part", "begin"] ["program", "tree"] (defScope s_end_of) := ⟨rfl, rfl, rfl, by decide +kernel, rfl, by decide +kernel, by decide +kernel⟩
-- 0 program, 1 tree, 2 part, 3 begin
theorem ok_end_of (T : Txt w K mg) : FnOk P w K mg base CX0 3 (He.ga K "end_of") (fdOf K d_end_of) ["program", "tree"] spWanted := by
  have G_begins := ok_begins (P := P) (base := base) T
  have G_size_of := ok_size_of (P := P) (base := base) T
  refine T.F_end_of.ok sc_end_of (fun vs H Q E h => ?_) (fun cdv A outer s H vs Q E hr h => ?_)
  · obtain ⟨v, t, pr, ps, st, dn, rfl, _⟩ := h
    rfl
  obtain ⟨v, t, pr, ps, st, dn, rfl, hpre, hdn, q⟩ := h
  refine ⟨_, PSs.nox (pss_one (ps_ret (pe_callB (r := rMax K) (cr_max rfl) (by rfl) T.z_max (by decide +kernel) (pa_cons (pe_lc (own := [("part", 2), ("begin", 3)]) rfl sc_end_of.nd (Ov.pi_zp (K := K) .t .l rfl (by rfl) T.z_zip (pa_cons (pe_ix (r := rIxT K) ix_tup (pv 1) pe_int (fun _ _ => rfl)) (pa_cons (pe_call G_begins (hr.mono (by omega)) (by rfl) T.g_begins T.kp_begins T.b_begins .nil pass0 (pa_cons (pv 0) (pa_cons (pv 1) pa_nil))) pa_nil))) (blkOk_by (own := [("part", 2), ("begin", 3)]) (N := ["program", "tree", "part", "begin"]) (sc := defScope s_end_of) (by decide +kernel)) (fun _ _ _ _ _ => (Ov.pg_tupK (K := K) (n := 2) rfl rfl (pgs_cons (pg_name (i := 2) sc_end_of.nd rfl (by first | exact Or.inl rfl | exact Or.inr rfl)) (pgs_cons (pg_name (i := 3) sc_end_of.nd rfl (by first | exact Or.inl rfl | exact Or.inr rfl)) pgs_nil)))) (fun _ _ _ _ _ => pts_nil) (fun _ _ _ _ _ => (pe_op op_add (pv 3) (pe_call G_size_of (hr.mono (by omega)) (by rfl) T.g_size_of T.kp_size_of T.b_size_of .nil pass0 (pa_cons (pv 0) (pa_cons (pv 2) pa_nil)))))) pa_nil)))), ?_⟩
  have hpre1 := hpre
  have hpre1' := hpre1
  obtain ⟨hpr, hok, ⟨a, qa, sa, us, rfl, ha, hqa, hus, hsa⟩, htr⟩ := hpre1'
  have hul := Paired.length hus
  have l8 := hok.l8
  have hc := htr.p.count
  have hc1 := htr.p.pos hok.l1
  refine ⟨_, rfl, a, _, 0, _, rfl, rfl, SqT.of ha, atI_nat (j := 0) rfl, _, rfl, _, rfl, v, .ref a, pr, ps, st, dn, rfl, hpre1, hdn, fun H2 p s2 hp2 e2 => ?_⟩
  refine ⟨qa, p, us, _, rfl, SqT.of (s2 _ _ hqa), SqL.of e2, fun D hD => ?_⟩
  have npD : p ≠ D := ne_of_none e2 hD
  refine lc_itY (walk_zp (K := K) (k := .t) (m := .l) (a := qa) (b := p) (n := ps.length) (by rw [List.length_map, List.length_map, List.length_range]; omega)) (fun i H' => Same H2 H' ∧ H' D = some (.lst ((((List.range i).map fun k => bgn pr ps dn k + psz pr (ps[k]?.getD []))).map V.int)))
    ⟨Same.new hD, upd_same⟩ (fun i H' _ z => ⟨SqT.of (z.1 _ _ (s2 _ _ hqa)), SqL.of (z.1 _ _ e2)⟩) ?_ ?_
  · rintro i z H3 H4 hi ⟨s3, e3⟩ ⟨tt, x, y, rfl, ht, rfl, hx, hy⟩
    obtain ⟨pt, hpt, hxp⟩ := Paired.get2 hus hx
    obtain ⟨yb, hyb, rfl⟩ := ints_int hy
    rw [List.getElem?_map, List.getElem?_range hi] at hyb
    obtain rfl := Option.some.inj hyb
    have hm := List.mem_of_getElem? hpt
    have s5 := Same.new (o := .tup [x, .int (bgn pr ps dn i)]) ht
    have s35 := s2.trans (s3.trans s5)
    refine ⟨tt, _, rfl, SqT.of upd_same, rfl, _, _, rfl, _, _, rfl, rfl, rfl, _, rfl, _, rfl, _, rfl, v, x, pr, pt, rfl, hpr.keep (Keep.same s35), hxp.keep (Keep.same s35), fun f hf => htr.p.lt hm hf, by have := htr.p.plen hm; omega, fun H5 s6 => ?_⟩
    refine ⟨_, _, rfl, rfl, _, s6 _ _ (s5 _ _ e3), sm _ (by rw [List.length_map, List.length_map, List.length_range]; omega), Ov.Same.updn (s3.trans (s5.trans s6)) hD, ?_⟩
    rw [upd_same, List.range_succ, List.map_append, List.map_append]
    show some (HO.lst (_ ++ [V.int (bgn pr ps dn i + psz pr pt)])) = some (HO.lst (_ ++ [V.int (bgn pr ps dn i + psz pr (ps[i]?.getD []))]))
    rw [hpt]
    rfl
  · rintro H3 ⟨s3, e3⟩
    refine ⟨D, _, rfl, SqL.of e3, by rw [List.length_map, List.length_range]; omega, fun m hm hle => q H3 m (s2.trans s3) ⟨?_, fun i pt hpt => ?_⟩⟩
    · obtain ⟨k, hk, rfl⟩ := List.mem_map.mp hm
      have hk := List.mem_range.mp hk
      exact ⟨k, ps[k], List.getElem?_eq_getElem hk, by rw [List.getElem?_eq_getElem hk]; rfl⟩
    · have hi := (List.getElem?_eq_some_iff.mp hpt).1
      refine hle _ (List.mem_map.mpr ⟨i, List.mem_range.mpr hi, ?_⟩)
      rw [hpt]
      rfl
theorem sc_way_of : FnScope ["tree", "function", "parts", "stands", "own", "number", "part"] ["tree", "function"] (defScope s_way_of) := ⟨rfl, rfl, rfl, by decide +kernel, rfl, by decide +kernel, by decide +kernel⟩
-- 0 tree, 1 function, 2 parts, 3 stands, 4 own, 5 number, 6 part
theorem ok_way_of (T : Txt w K mg) : FnOk P w K mg base CX0 2 (He.ga K "way_of") (fdOf K d_way_of) ["tree", "function"] spWayOf := by
  have G_parts_below := ok_parts_below (P := P) (base := base) T
  refine T.F_way_of.ok sc_way_of (fun vs H Q E h => ?_) (fun cdv A outer s H vs Q E hr h => ?_)
  · obtain ⟨t, n, ps, st, dn, f, i, pt, rfl, _⟩ := h
    rfl
  obtain ⟨t, n, ps, st, dn, f, i, pt, rfl, ⟨a, qa, sa, us, rfl, ha, hqa, hus, hsa⟩, htr, l8, hdn, hpt, hf, q⟩ := h
  refine ⟨_, PSs.nox (pss_cons (ps_asg (pv 0) (Ov.pg_tupK (K := K) (n := 2) rfl rfl (pgs_cons (pg_name (i := 2) sc_way_of.nd rfl (by first | exact Or.inl rfl | exact Or.inr rfl)) (pgs_cons (pg_name (i := 3) sc_way_of.nd rfl (by first | exact Or.inl rfl | exact Or.inr rfl)) pgs_nil))))
      (pss_cons (ps_setLc (i := 4) (own := [("number", 5), ("part", 6)]) rfl sc_way_of.nd rfl rfl (sw_true rfl rfl rfl (by decide +kernel)) (Ov.pi_en (K := K) .t rfl (by rfl) T.z_enumerate (pa_cons (pv 2) pa_nil)) (blkOk_by (own := [("number", 5), ("part", 6)]) (N := ["tree", "function", "parts", "stands", "own", "number", "part"]) (sc := defScope s_way_of) (by decide +kernel)) (fun _ _ _ _ _ => (Ov.pg_tupK (K := K) (n := 2) rfl rfl (pgs_cons (pg_name (i := 5) sc_way_of.nd rfl (by first | exact Or.inl rfl | exact Or.inr rfl)) (pgs_cons (pg_name (i := 6) sc_way_of.nd rfl (by first | exact Or.inl rfl | exact Or.inr rfl)) pgs_nil)))) (fun _ _ _ _ _ => (pts_one (pt_cmpR (r := rIn K false) op_in_seq (pv 1) (pv 6) (by first | rfl | exact nomark _)))) (fun _ _ _ _ _ => (pv 5)))
      (pss_one (ps_ret (pe_op op_cat (pe_call G_parts_below (hr.mono (by omega)) (by rfl) T.g_parts_below T.kp_parts_below T.b_parts_below .nil pass0 (pa_cons (pv 3) (pa_cons (pe_ix (r := rIxL K) ix_list (pv 4) pe_int (fun _ _ => rfl)) pa_nil))) (pv 4)))))), ?_⟩
  have hul := Paired.length hus
  have hc := htr.p.count
  have hm := List.mem_of_getElem? hpt
  have hil := (List.getElem?_eq_some_iff.mp hpt).1
  refine ⟨_, rfl, a, _, rfl, SqT.of ha, rfl, _, _, rfl, _, _, rfl, rfl, _, rfl, qa, us, rfl, SqT.of hqa, fun D hD => ?_⟩
  refine lc_it (walk_en (K := K) (k := .t) (a := qa) (xs := us)) (fun k H' => Same H H' ∧ H' D = some (.lst (if i < k then [V.int (i : Int)] else [])))
    ⟨Same.new hD, upd_same⟩ (fun k H' _ z => SqT.of (z.1 _ _ hqa)) ?_ ?_
  · rintro k z H2 H3 hk ⟨s2, e2⟩ ⟨tt, x, y, rfl, ht, rfl, hx, hy⟩
    obtain rfl := Option.some.inj hx
    obtain ⟨pk, hpk, ⟨b, rfl, hb⟩⟩ := Paired.get2 hus hy
    have s3 := Same.new (o := .tup [.int (k : Nat), .ref b]) ht
    have hb3 := s3 _ _ (s2 _ _ hb)
    refine ⟨tt, _, rfl, SqT.of upd_same, rfl, _, _, rfl, _, _, rfl, rfl, rfl, _, rfl, _, rfl, b, _, rfl, .inr (SqT.of hb3), rfl, nVflat pk, ?_⟩
    refine ⟨_, rfl, ?_⟩
    have es := s3 _ _ e2
    by_cases ek : k = i
    · subst ek
      obtain rfl : pk = pt := Option.some.inj (hpk.symm.trans hpt)
      rw [if_neg (Nat.lt_irrefl _)] at es
      show if inV (.int (f : Int)) (nV pk) = true then _ else _
      rw [inVnat, decide_eq_true hf]
      refine iteT ⟨_, rfl, _, es, sm 0, Ov.Same.updn (s2.trans s3) hD, ?_⟩
      rw [upd_same, if_pos (Nat.lt_succ_self _)]
      rfl
    · have nin : ¬ f ∈ pk := fun z => by
        obtain ⟨j1, h1⟩ := List.mem_iff_getElem?.mp z
        obtain ⟨j2, h2⟩ := List.mem_iff_getElem?.mp hf
        exact ek (htr.p.uniq hpk h1 hpt h2).1
      show if inV (.int (f : Int)) (nV pk) = true then _ else _
      rw [inVnat, decide_eq_false nin]
      refine iteF ⟨s2.trans s3, ?_⟩
      rw [es]
      by_cases lt : i < k
      · rw [if_pos lt, if_pos (by omega)]
      · rw [if_neg lt, if_neg (by omega)]
  · rintro H2 ⟨s2, e2⟩
    rw [hul, if_pos hil] at e2
    refine ⟨_, rfl, _, rfl, D, _, 0, _, rfl, rfl, SqL.of e2, atI_nat (j := 0) rfl, sa, st, i, dn i, rfl, s2 _ _ hsa, hdn.down i hil, by have := hdn.len i hil; omega, fun H3 p s3 hp e3 => ?_⟩
    refine ⟨_, rfl, p, D, _, _, rfl, rfl, e3, s3 _ _ e2, sml _ (by rw [nV_len, List.length_singleton]; have := hdn.len i hil; omega), fun l hl => ?_⟩
    refine q _ l (s2.trans (s3.trans (Same.new hl))) (Same.free (s2.trans s3) hl) ?_
    rw [upd_same, nV_app]
end
end K03

namespace K03
open PySem PySem.Spec PyProof.Rows L2 Ov
section
variable {P : Program} {w : World} {K : PySem.W.Frag} {mg : Str → Option Value} {base : Heap}

theorem ok_risesB (T : Txt w K mg) : FnOk P w K mg base CX0 1 (He.ga K "rises") (fdOf K d_rises) ["row"] (spRisesB K) := by
  refine T.F_rises.ok sc_rises (fun vs H Q E h => ?_) (fun cdv A outer s H vs Q E hr h => ?_)
  · obtain ⟨a, ns, rfl, _⟩ := h
    rfl
  obtain ⟨a, ns, rfl, ha, hl, q⟩ := h
  refine ⟨_, PSs.nox (pss_one (ps_ret (pe_callB (r := rAll K) (cr_all rfl) (by rfl) T.z_all (by decide +kernel) (pa_cons (pe_lc (own := [("low", 1), ("high", 2)]) rfl sc_rises.nd (Ov.pi_zp (K := K) .t .t rfl (by rfl) T.z_zip (pa_cons (pv 0) (pa_cons (pe_slice (r := rSlA K) sl_tupA (pv 0) (po_some pe_int) po_none) pa_nil))) (blkOk_by (own := [("low", 1), ("high", 2)]) (N := ["row", "low", "high"]) (sc := defScope s_rises) (by decide +kernel)) (fun _ _ _ _ _ => (Ov.pg_tupK (K := K) (n := 2) rfl rfl (pgs_cons (pg_name (i := 1) sc_rises.nd rfl (by first | exact Or.inl rfl | exact Or.inr rfl)) (pgs_cons (pg_name (i := 2) sc_rises.nd rfl (by first | exact Or.inl rfl | exact Or.inr rfl)) pgs_nil)))) (fun _ _ _ _ _ => pts_nil) (fun _ _ _ _ _ => (pe_cmpR op_lt (pv 1) (pv 2) (nomark _)))) pa_nil)))), ?_⟩
  have ecut : ∀ k : Nat, k ≤ ns.length → cutV (ns.map V.int) (some (k : Int)) none = (ns.drop k).map V.int := fun k hk => by rw [cut_from _ k (by rw [List.length_map]; exact hk), List.map_drop]
  refine ⟨_, rfl, _, rfl, 1, rfl, ?_⟩
  dsimp only [tNoPart]
  refine slA_by ha fun H1 c s1 hc => ?_
  have hc2 : TupAt K H1 c ((ns.drop 1).map V.int) := by
    by_cases h0 : ns = []
    · subst h0
      exact hc
    · have : 1 ≤ ns.length := List.length_pos_iff.mpr h0
      rw [show (some (1 : Int)) = some ((1 : Nat) : Int) from rfl, ecut 1 this] at hc
      exact hc
  have hzl : (ns.zip (ns.drop 1)).length = min (ns.map V.int).length ((ns.drop 1).map V.int).length := by rw [List.length_zip, List.length_map, List.length_map]
  refine ⟨a, c, _, _, rfl, (ha.keep (Keep.same s1)).sq, hc2.sq, fun D hD => ?_⟩
  refine lc_itY (walk_zp (K := K) (k := .t) (m := .t) (a := a) (b := c) hzl) (fun i H' => Same H1 H' ∧ H' D = some (.lst ((((ns.zip (ns.drop 1)).take i).map fun p => decide (p.1 < p.2)).map V.bl))) ⟨Same.new hD, upd_same⟩ (fun i H' _ ⟨s2, _⟩ => ⟨(ha.keep (Keep.same (s1.trans s2))).sq, (hc2.keep (Keep.same s2)).sq⟩) ?_ ?_
  · rintro i z H2 H3 hi ⟨s2, e2⟩ ⟨t, x, y, rfl, ht, rfl, hx, hy⟩
    obtain ⟨u, hu, rfl⟩ := Option.map_eq_some_iff.mp ((List.getElem?_map ..).symm.trans hx)
    obtain ⟨v, hv, rfl⟩ := Option.map_eq_some_iff.mp ((List.getElem?_map ..).symm.trans hy)
    have s3 := Same.new (o := .tup [.int u, .int v]) ht
    have ez : (ns.zip (ns.drop 1))[i]? = some (u, v) := List.getElem?_zip_eq_some.mpr ⟨hu, hv⟩
    have il : i < ns.length := (List.getElem?_eq_some_iff.mp hu).1
    refine ⟨t, _, rfl, SqT.of upd_same, rfl, _, _, rfl, _, _, rfl, rfl, rfl, _, rfl, _, rfl, _, _, rfl, rfl, _, s3 _ _ e2, sm _ (by rw [List.length_map, List.length_map, List.length_take]; omega), Ov.Same.updn (s2.trans s3) hD, ?_⟩
    rw [upd_same, List.take_add_one, ez, List.map_append, List.map_append]
    rfl
  · rintro H2 ⟨s2, e2⟩
    refine ⟨D, _, rfl, SqL.of e2, ?_⟩
    have ez : (ns.zip (ns.drop 1)).length ≤ (ns.zip (ns.drop 1)).length := Nat.le_refl _
    have et : (((ns.zip (ns.drop 1)).take (ns.zip (ns.drop 1)).length).map fun p => decide (p.1 < p.2)).all id = risesB ns := by
      rw [List.take_length, List.all_map]
      rfl
    rw [et]
    exact q H2 (s1.trans s2)
end
end K03

namespace K03
open PySem PySem.Spec PyProof.Rows L2 Ov
section
variable {P : Program} {w : World} {K : PySem.W.Frag} {mg : Str → Option Value} {base : Heap}

theorem ok_risesL (T : Txt w K mg) : FnOk P w K mg base CX0 1 (He.ga K "rises") (fdOf K d_rises) ["row"] spRisesL := by
  refine T.F_rises.ok sc_rises (fun vs H Q E h => ?_) (fun cdv A outer s H vs Q E hr h => ?_)
  · obtain ⟨a, ns, rfl, _⟩ := h
    rfl
  obtain ⟨a, ns, rfl, ha, hl, q⟩ := h
  refine ⟨_, PSs.nox (pss_one (ps_ret (pe_callB (r := rAll K) (cr_all rfl) (by rfl) T.z_all (by decide +kernel) (pa_cons (pe_lc (own := [("low", 1), ("high", 2)]) rfl sc_rises.nd (Ov.pi_zp (K := K) .l .l rfl (by rfl) T.z_zip (pa_cons (pv 0) (pa_cons (pe_slice (r := rSlL K) sl_list (pv 0) (po_some pe_int) po_none) pa_nil))) (blkOk_by (own := [("low", 1), ("high", 2)]) (N := ["row", "low", "high"]) (sc := defScope s_rises) (by decide +kernel)) (fun _ _ _ _ _ => (Ov.pg_tupK (K := K) (n := 2) rfl rfl (pgs_cons (pg_name (i := 1) sc_rises.nd rfl (by first | exact Or.inl rfl | exact Or.inr rfl)) (pgs_cons (pg_name (i := 2) sc_rises.nd rfl (by first | exact Or.inl rfl | exact Or.inr rfl)) pgs_nil)))) (fun _ _ _ _ _ => pts_nil) (fun _ _ _ _ _ => (pe_cmpR op_lt (pv 1) (pv 2) (nomark _)))) pa_nil)))), ?_⟩
  have ecut : ∀ k : Nat, k ≤ ns.length → cutV (ns.map V.int) (some (k : Int)) none = (ns.drop k).map V.int := fun k hk => by rw [cut_from _ k (by rw [List.length_map]; exact hk), List.map_drop]
  refine ⟨_, rfl, _, rfl, 1, rfl, a, ns.map V.int, rfl, SqL.of ha, fun c hc => ?_⟩
  have s1 := Same.new (o := .lst (cutV (ns.map V.int) (some 1) none)) hc
  have e2 : (upd H c (.lst (cutV (ns.map V.int) (some 1) none))) c = some (.lst ((ns.drop 1).map V.int)) := by
    rw [upd_same]
    by_cases h0 : ns = []
    · subst h0
      rfl
    · have : 1 ≤ ns.length := List.length_pos_iff.mpr h0
      rw [show (some (1 : Int)) = some ((1 : Nat) : Int) from rfl, ecut 1 this]
  revert s1 e2
  generalize upd H c (.lst (cutV (ns.map V.int) (some 1) none)) = H1
  intro s1 hc2
  have hzl : (ns.zip (ns.drop 1)).length = min (ns.map V.int).length ((ns.drop 1).map V.int).length := by rw [List.length_zip, List.length_map, List.length_map]
  refine ⟨a, c, _, _, rfl, SqL.of (s1 _ _ ha), SqL.of hc2, fun D hD => ?_⟩
  refine lc_itY (walk_zp (K := K) (k := .l) (m := .l) (a := a) (b := c) hzl) (fun i H' => Same H1 H' ∧ H' D = some (.lst ((((ns.zip (ns.drop 1)).take i).map fun p => decide (p.1 < p.2)).map V.bl))) ⟨Same.new hD, upd_same⟩ (fun i H' _ ⟨s2, _⟩ => ⟨SqL.of (s2 _ _ (s1 _ _ ha)), SqL.of (s2 _ _ hc2)⟩) ?_ ?_
  · rintro i z H2 H3 hi ⟨s2, e2⟩ ⟨t, x, y, rfl, ht, rfl, hx, hy⟩
    obtain ⟨u, hu, rfl⟩ := Option.map_eq_some_iff.mp ((List.getElem?_map ..).symm.trans hx)
    obtain ⟨v, hv, rfl⟩ := Option.map_eq_some_iff.mp ((List.getElem?_map ..).symm.trans hy)
    have s3 := Same.new (o := .tup [.int u, .int v]) ht
    have ez : (ns.zip (ns.drop 1))[i]? = some (u, v) := List.getElem?_zip_eq_some.mpr ⟨hu, hv⟩
    have il : i < ns.length := (List.getElem?_eq_some_iff.mp hu).1
    refine ⟨t, _, rfl, SqT.of upd_same, rfl, _, _, rfl, _, _, rfl, rfl, rfl, _, rfl, _, rfl, _, _, rfl, rfl, _, s3 _ _ e2, sm _ (by rw [List.length_map, List.length_map, List.length_take]; omega), Ov.Same.updn (s2.trans s3) hD, ?_⟩
    rw [upd_same, List.take_add_one, ez, List.map_append, List.map_append]
    rfl
  · rintro H2 ⟨s2, e2⟩
    refine ⟨D, _, rfl, SqL.of e2, ?_⟩
    have ez : (ns.zip (ns.drop 1)).length ≤ (ns.zip (ns.drop 1)).length := Nat.le_refl _
    have et : (((ns.zip (ns.drop 1)).take (ns.zip (ns.drop 1)).length).map fun p => decide (p.1 < p.2)).all id = risesB ns := by
      rw [List.take_length, List.all_map]
      rfl
    rw [et]
    exact q H2 (s1.trans s2)
end
end K03

namespace K03
open PySem PySem.Spec PyProof.Rows L2 Ov
section
variable {P : Program} {w : World} {K : PySem.W.Frag} {mg : Str → Option Value} {base : Heap}

theorem ok_part_fitsB (T : Txt w K mg) : FnOk P w K mg base CX0 2 (He.ga K "part_fits") (fdOf K d_part_fits) ["part", "functions"] (spPartFitsB K) := by
  have G_between := ok_between (P := P) (base := base) T
  have G_rises := ok_risesB (P := P) (base := base) T
  refine T.F_part_fits.ok sc_part_fits (fun vs H Q E h => ?_) (fun cdv A outer s H vs Q E hr h => ?_)
  · obtain ⟨v, n, x, rfl, _⟩ := h
    rfl
  obtain ⟨v, n, x, rfl, hx, q⟩ := h
  refine ⟨_, PSs.nox (pss_cons (ps_if (PW.pt (pw_or (pt_not (pt_val (pe_callB (r := rIsi K) call_isi (by rfl) T.z_isinstance (by decide +kernel) (pa_cons (pv 0) (pa_cons (pe_bltn (v := .ty "tuple") (by rfl) T.z_tuple (by decide +kernel) rfl) pa_nil))))) (pw_or1 (pt_cmpR op_eq (pe_callB (r := Evl.rLenS K) call_len_seq (by rfl) T.z_len PySem.boot_len (pa_cons (pv 0) pa_nil)) pe_int (nomark _))))) (pss_one (ps_ret pe_bl)) pss_nil)
      (pss_one (ps_ret (pe_and (pe_callB (r := rAll K) (cr_all rfl) (by rfl) T.z_all (by decide +kernel) (pa_cons (pe_lc (own := [("function", 2)]) rfl sc_part_fits.nd (Ov.pi_tupK (K := K) rfl (pv 0)) (blkOk_by (own := [("function", 2)]) (N := ["part", "functions", "function"]) (sc := defScope s_part_fits) (by decide +kernel)) (fun _ _ _ _ _ => (pg_name (i := 2) sc_part_fits.nd rfl (by first | exact Or.inl rfl | exact Or.inr rfl))) (fun _ _ _ _ _ => pts_nil) (fun _ _ _ _ _ => (pe_call G_between (hr.mono (by omega)) (by rfl) T.g_between T.kp_between T.b_between .nil pass0 (pa_cons (pv 2) (pa_cons pe_int (pa_cons (pe_op op_sub (pv 1) pe_int) pa_nil)))))) pa_nil)) (pe_one (pe_call G_rises (hr.mono (by omega)) (by rfl) T.g_rises T.kp_rises T.b_rises .nil pass0 (pa_cons (pv 0) pa_nil))))))), ?_⟩
  cases x with
  | one z =>
    obtain rfl : v = .int z := hx
    refine ⟨_, rfl, _, .ty "tuple", .type "int", .type "tuple", false, rfl, .ty _, .base (.int _), k_int_tuple, false, rfl, iteT ?_⟩
    exact iteT (q H (Same.refl H))
  | row ns =>
    obtain ⟨b, rfl, hb, hl⟩ := hx
    refine ⟨_, rfl, _, .ty "tuple", .type "tuple", .type "tuple", true, rfl, .ty _, hb.ty, k_tuple_tuple, true, rfl, iteF ⟨_, rfl, b, _, rfl, .inr hb.sq, rfl, _, rfl, ?_⟩⟩
    have e0 : decide (V.int (((ns.map V.int).length : Nat) : Int) = V.int 0) = decide (ns.length = 0) := by
      rw [List.length_map]
      by_cases c : ns.length = 0
      · rw [decide_eq_true c, c]; rfl
      · rw [decide_eq_false c, decide_eq_false fun z => c (by have := V.int.inj z; omega)]
    rw [e0]
    have ep : partB n (.row ns) = (!decide (ns.length = 0) && (inB n ns && risesB ns)) := rfl
    rw [ep] at q
    cases c : decide (ns.length = 0) with
    | true =>
      rw [c] at q
      exact iteT (q H (Same.refl H))
    | false =>
      rw [c] at q
      refine iteF ⟨_, rfl, b, rfl, ⟨_, hb.sq⟩, fun D hD => ?_⟩
      refine lc_tupY (K := K) (a := b) (xs := ns.map V.int) (fun i H' => Same H H' ∧ H' D = some (.lst (((ns.take i).map fun z => decide (0 ≤ z ∧ z ≤ (n : Int) - 1)).map V.bl))) ⟨Same.new hD, upd_same⟩ (fun i H' _ e => (hb.keep (Keep.same e.1)).sq) ?_ ?_
      · rintro i x H1 hi ⟨s1, e1⟩
        rw [List.getElem?_map] at hi
        obtain ⟨y, hy, rfl⟩ := Option.map_eq_some_iff.mp hi
        have hil := (List.getElem?_eq_some_iff.mp hy).1
        refine ⟨rfl, _, rfl, _, rfl, _, 1, rfl, rfl, y, 0, _, rfl, _, e1, sm _ (by rw [List.length_map, List.length_map, List.length_take]; omega), Ov.Same.updn s1 hD, ?_⟩
        rw [upd_same, List.take_add_one, hy, List.map_append, List.map_append]
        rfl
      · rintro H1 ⟨s1, e1⟩
        rw [List.length_map, List.take_length] at e1
        refine ⟨D, _, rfl, SqL.of e1, _, rfl, ?_⟩
        have ew : (ns.map fun z => decide (0 ≤ z ∧ z ≤ (n : Int) - 1)).all id = inB n ns := by unfold inB; rw [List.all_map]; rfl
        rw [ew]
        cases c2 : inB n ns with
        | true =>
          rw [c2] at q
          refine iteT ?_
          exact ⟨_, rfl, b, ns, rfl, hb.keep (Keep.same s1), hl, fun H2 s2 => q H2 (s1.trans s2)⟩
        | false =>
          rw [c2] at q
          exact iteF (q H1 s1)

theorem ok_parts_fitB (T : Txt w K mg) : FnOk P w K mg base CX0 3 (He.ga K "parts_fit") (fdOf K d_parts_fit) ["parts", "functions"] (spPartsFitB K) := by
  have G_part_fits := ok_part_fitsB (P := P) (base := base) T
  have G_rises := ok_risesL (P := P) (base := base) T
  refine T.F_parts_fit.ok sc_parts_fit (fun vs H Q E h => ?_) (fun cdv A outer s H vs Q E hr h => ?_)
  · obtain ⟨a, n, us, xs, rfl, _⟩ := h
    rfl
  obtain ⟨a, n, us, xs, rfl, ha, hps, hul, hhl, n8, q⟩ := h
  have hl := Paired.length hps
  refine ⟨_, PSs.nox (pss_cons (ps_if (PW.pt (pw_or (pt_not (pt_val (pe_callB (r := rIsi K) call_isi (by rfl) T.z_isinstance (by decide +kernel) (pa_cons (pv 0) (pa_cons (pe_bltn (v := .ty "tuple") (by rfl) T.z_tuple (by decide +kernel) rfl) pa_nil))))) (pw_or1 (pt_not (pt_val (pe_callB (r := rAll K) (cr_all rfl) (by rfl) T.z_all (by decide +kernel) (pa_cons (pe_lc (own := [("part", 3)]) rfl sc_parts_fit.nd (Ov.pi_tupK (K := K) rfl (pv 0)) (blkOk_by (own := [("part", 3)]) (N := ["parts", "functions", "held", "part", "function"]) (sc := defScope s_parts_fit) (by decide +kernel)) (fun _ _ _ _ _ => (pg_name (i := 3) sc_parts_fit.nd rfl (by first | exact Or.inl rfl | exact Or.inr rfl))) (fun _ _ _ _ _ => pts_nil) (fun _ _ _ _ _ => (pe_call G_part_fits (hr.mono (by omega)) (by rfl) T.g_part_fits T.kp_part_fits T.b_part_fits .nil pass0 (pa_cons (pv 3) (pa_cons (pv 1) pa_nil))))) pa_nil))))))) (pss_one (ps_ret pe_bl)) pss_nil)
      (pss_cons (ps_setLc2 (i := 2) (own := [("part", 3), ("function", 4)]) (vs1 := [4]) rfl sc_parts_fit.nd rfl rfl (sw_true rfl rfl rfl (by decide +kernel)) (Ov.pi_tupK (K := K) rfl (pv 0)) (blkOk_by (own := [("part", 3), ("function", 4)]) (N := ["parts", "functions", "held", "part", "function"]) (sc := defScope s_parts_fit) (by decide +kernel)) (by decide) (fun _ _ _ _ _ => (pg_name (i := 3) sc_parts_fit.nd rfl (by first | exact Or.inl rfl | exact Or.inr rfl))) (fun _ _ _ _ _ => pts_nil) (fun _ _ _ _ _ => (Ov.pi_tupK (K := K) rfl (pv 3))) (fun _ _ _ _ _ => (pg_name (i := 4) sc_parts_fit.nd rfl (by first | exact Or.inl rfl | exact Or.inr rfl))) (fun _ _ _ _ _ => pts_nil) (fun _ _ _ _ _ => (pv 4)))
      (pss_one (ps_ret (pe_and (pe_call G_rises (hr.mono (by omega)) (by rfl) T.g_rises T.kp_rises T.b_rises .nil pass0 (pa_cons (pe_lc (own := [("part", 3)]) rfl sc_parts_fit.nd (Ov.pi_tupK (K := K) rfl (pv 0)) (blkOk_by (own := [("part", 3)]) (N := ["parts", "functions", "held", "part", "function"]) (sc := defScope s_parts_fit) (by decide +kernel)) (fun _ _ _ _ _ => (pg_name (i := 3) sc_parts_fit.nd rfl (by first | exact Or.inl rfl | exact Or.inr rfl))) (fun _ _ _ _ _ => pts_nil) (fun _ _ _ _ _ => (pe_ix (r := rIxT K) ix_tup (pv 3) pe_int (fun _ _ => rfl)))) pa_nil)) (pe_one (pe_cmpR (r := rEqD K) (op_eqD hr.units) (pe_callB (r := rSorted K) cr_sorted (by rfl) T.z_sorted (by decide +kernel) (pa_cons (pv 2) pa_nil)) (pe_listRg rfl (by rfl) T.z_list (prg_1 (by rfl) T.z_range (pv 1))) (nomark _)))))))), ?_⟩
  refine ⟨_, rfl, _, .ty "tuple", .type "tuple", .type "tuple", true, rfl, .ty _, ha.ty, k_tuple_tuple, true, rfl, iteF ⟨_, rfl, a, rfl, ⟨_, ha.sq⟩, fun D hD => ?_⟩⟩
  refine lc_tupY (K := K) (a := a) (xs := us) (fun i H' => Same H H' ∧ H' D = some (.lst (((xs.take i).map (partB n)).map V.bl))) ⟨Same.new hD, upd_same⟩ (fun i H' _ e => (ha.keep (Keep.same e.1)).sq) ?_ ?_
  · rintro i x H1 hi ⟨s1, e1⟩
    obtain ⟨p, hp, hx⟩ := Paired.get2 hps hi
    have hil := (List.getElem?_eq_some_iff.mp hi).1
    refine ⟨rfl, _, rfl, _, rfl, x, n, p, rfl, hx.keep (Keep.same s1), fun H2 s2 => ⟨_, s2 _ _ e1, sm _ (by rw [List.length_map, List.length_map, List.length_take]; omega), Ov.Same.updn (s1.trans s2) hD, ?_⟩⟩
    rw [upd_same, List.take_add_one, hp, List.map_append, List.map_append]
    rfl
  rintro H1 ⟨s1, e1⟩
  rw [hl, List.take_length] at e1
  refine ⟨D, _, rfl, SqL.of e1, _, rfl, ?_⟩
  have ew : (xs.map (partB n)).all id = xs.all (partB n) := by rw [List.all_map]; rfl
  rw [ew]
  have eq0 : partsB n xs = (xs.all (partB n) && (risesB (firstI xs) && decide ((heldI xs).Perm ((List.range n).map fun (k : Nat) => (k : Int))))) := rfl
  rw [eq0] at q
  cases c0 : xs.all (partB n) with
  | false =>
    rw [c0] at q
    exact iteT (q H1 s1)
  | true =>
  rw [c0, Bool.true_and] at q
  refine iteF ?_
  have rows : ∀ (i : Nat) (v : V) (x : PtV), us[i]? = some v → xs[i]? = some x → ∃ b, v = .ref b ∧ TupAt K H b (x.ns.map V.int) ∧ x.ns ≠ [] ∧ x.ns.length ≤ 900 := fun i v x h1 h2 => by
    obtain ⟨y, hy, hv⟩ := Paired.get2 hps h1
    rw [h2] at hy
    cases hy
    have hb := List.all_eq_true.mp c0 x (List.mem_of_getElem? h2)
    cases x with
    | one z => cases hb
    | row ns =>
      obtain ⟨b, e, h3, h4⟩ := hv
      refine ⟨b, e, h3, fun z => ?_, h4⟩
      have z : ns = [] := z
      subst z
      cases hb
  -- held
  refine ⟨_, rfl, a, rfl, ⟨_, (ha.keep (Keep.same s1)).sq⟩, fun B hB => ?_⟩
  refine lc2_out (walk_tup (K := K) (a := a) (xs := us)) (fun i H' => Same H1 H' ∧ H' B = some (.lst ((((xs.take i).map PtV.ns).flatten).map V.int))) ⟨Same.new hB, upd_same⟩ (fun i H' _ e => (ha.keep (Keep.same (s1.trans e.1))).sq) ?_ ?_
  · rintro i x H2 H3 hi ⟨s2, e2⟩ ⟨rfl, hx⟩
    obtain ⟨p, hp, _⟩ := Paired.get2 hps hx
    obtain ⟨b, rfl, hb, _, hnl⟩ := rows i x p hx hp
    have hb2 := hb.keep (Keep.same (s1.trans s2))
    refine ⟨rfl, _, rfl, b, rfl, ⟨_, hb2.sq⟩, ?_⟩
    refine lc2_in (walk_tup (K := K) (a := b) (xs := p.ns.map V.int)) (fun j H' => Same H1 H' ∧ H' B = some (.lst ((((xs.take i).map PtV.ns).flatten ++ p.ns.take j).map V.int))) ⟨s2, by rw [List.take_zero, List.append_nil]; exact e2⟩ (fun j H' _ e => (hb.keep (Keep.same (s1.trans e.1))).sq) ?_ ?_
    · rintro j y H4 H5 hj ⟨s4, e4⟩ ⟨rfl, hy⟩
      rw [List.getElem?_map] at hy
      obtain ⟨z, hz, rfl⟩ := Option.map_eq_some_iff.mp hy
      have hfl : (((xs.take i).map PtV.ns).flatten).length + p.ns.length ≤ 60 := by
        have z2 : heldI xs = ((xs.take (i + 1)).map PtV.ns).flatten ++ ((xs.drop (i + 1)).map PtV.ns).flatten := by
          unfold heldI
          rw [← List.flatten_append, ← List.map_append, List.take_append_drop]
        have z3 : ((xs.take (i + 1)).map PtV.ns).flatten = ((xs.take i).map PtV.ns).flatten ++ p.ns := by
          rw [List.take_add_one, hp, List.map_append, List.flatten_append]
          simp
        rw [z2, z3, List.length_append, List.length_append] at hhl
        omega
      refine ⟨rfl, _, rfl, _, e4, sm _ (by rw [List.length_map, List.length_append, List.length_take]; omega), Ov.Same.updn s4 hB, ?_⟩
      rw [upd_same, List.take_add_one, hz, ← List.append_assoc]
      simp
    · rintro H4 ⟨s4, e4⟩
      refine ⟨s4, ?_⟩
      rw [List.length_map, List.take_length] at e4
      rw [e4, List.take_add_one, hp]
      simp
  rintro H2 ⟨s2, e2⟩
  rw [hl, List.take_length] at e2
  have s02 := s1.trans s2
  -- rises of the firsts
  refine ⟨_, rfl, a, rfl, ⟨_, (ha.keep (Keep.same s02)).sq⟩, fun C hC => ?_⟩
  refine lc_tupY (K := K) (a := a) (xs := us) (fun i H' => Same H2 H' ∧ H' C = some (.lst ((firstI (xs.take i)).map V.int))) ⟨Same.new hC, upd_same⟩ (fun i H' _ e => (ha.keep (Keep.same (s02.trans e.1))).sq) ?_ ?_
  · rintro i x H3 hi ⟨s3, e3⟩
    obtain ⟨p, hp, _⟩ := Paired.get2 hps hi
    obtain ⟨b, rfl, hb, hne, _⟩ := rows i x p hi hp
    have hil := (List.getElem?_eq_some_iff.mp hi).1
    have h0 : (p.ns.map V.int)[0]? = some (.int (p.ns.headD 0)) := by
      cases e : p.ns with
      | nil => exact absurd e hne
      | cons x r => rfl
    refine ⟨rfl, _, rfl, b, _, 0, _, rfl, rfl, (hb.keep (Keep.same (s02.trans s3))).sq, atI_nat (j := 0) h0, _, e3, sm _ (by unfold firstI; rw [List.length_map, List.length_map, List.length_take]; omega), Ov.Same.updn s3 hC, ?_⟩
    unfold firstI
    rw [upd_same, List.take_add_one, hp, List.map_append, List.map_append]
    rfl
  rintro H3 ⟨s3, e3⟩
  rw [hl, List.take_length] at e3
  refine ⟨C, _, rfl, e3, by unfold firstI; rw [List.length_map]; omega, fun H4 s4 => ⟨_, rfl, ?_⟩⟩
  cases c1 : risesB (firstI xs) with
  | false =>
    rw [c1] at q
    exact iteF (q H4 (s02.trans (s3.trans s4)))
  | true =>
  rw [c1, Bool.true_and] at q
  refine iteT ?_
  -- sorted(held) == list(range(functions))
  have e4 : H4 B = some (.lst ((heldI xs).map V.int)) := s4 _ _ (s3 _ _ e2)
  refine ⟨_, rfl, B, _, rfl, SqL.of e4, by omega, fun ns p hperm hpw hp => ?_⟩
  refine ⟨_, rfl, _, rfl, RgOk.of_le (by omega) (by omega) (by omega) (by omega), fun r hr2 => ?_⟩
  have npr : p ≠ r := ne_of_none upd_same hr2
  have er : rgV 0 (n : Int) = ((List.range n).map fun (k : Nat) => (k : Int)).map V.int := by rw [rgV_nV, nV_ints]
  have s5 := (Same.new (o := .lst (ns.map V.int)) hp).trans (Same.new (o := .lst (rgV 0 (n : Int))) hr2)
  refine ⟨.list (ns.map PyData.int), .list (((List.range n).map fun (k : Nat) => (k : Int)).map PyData.int), .lst (SqL.of (by rw [upd_ne npr]; exact upd_same)) (dpInts ns), .lst (xs := ((List.range n).map fun (k : Nat) => (k : Int)).map V.int) (SqL.of (by rw [upd_same, er])) (dpInts _), intsShaped ns, intsShaped _, ?_⟩
  rw [eqvIntsB, sorted_perm hperm hpw]
  exact q _ (s02.trans (s3.trans (s4.trans s5)))

theorem ok_has_endB (T : Txt w K mg) : FnOk P w K mg base CX0 1 (He.ga K "has_end") (fdOf K d_has_end) ["stands", "part"] (spHasEndB K) := by
  refine T.F_has_end.ok sc_has_end (fun vs H Q E h => ?_) (fun cdv A outer s H vs Q E hr h => ?_)
  · obtain ⟨a, st, x, rfl, _⟩ := h
    rfl
  obtain ⟨a, st, x, rfl, ha, hst, hx, h8, q⟩ := h
  refine ⟨_, PSs.nox (pss_cons (ps_set (i := 2) sc_has_end.nd rfl (by first | exact Or.inl rfl | exact Or.inr rfl) (pv 1))
      (pss_cons (ps_for PassesOwn.never rfl (pi_range1 (by rfl) T.z_range (pa_cons (pe_callB (r := Evl.rLenS K) call_len_seq (by rfl) T.z_len PySem.boot_len (pa_cons (pv 0) pa_nil)) pa_nil)) (pg_name (i := 3) sc_has_end.nd rfl (by first | exact Or.inl rfl | exact Or.inr rfl)) (pss_one (ps_if (pt_cmpR op_ne (pv 2) (pe_glob (v := .int (-1)) (by rfl) T.i_NO_PART.choose_spec ⟨_, rfl⟩) (nomark _)) (pss_one (ps_set (i := 2) sc_has_end.nd rfl (by first | exact Or.inl rfl | exact Or.inr rfl) (pe_ix (r := rIxT K) ix_tup (pv 0) (pv 2) (fun _ _ => rfl)))) pss_nil)))
      (pss_one (ps_ret (pe_cmpR op_eq (pv 2) (pe_glob (v := .int (-1)) (by rfl) T.i_NO_PART.choose_spec ⟨_, rfl⟩) (nomark _)))))), ?_⟩
  refine ⟨_, rfl, _, rfl, a, _, rfl, .inr ha.sq, _, rfl, by omega, by rw [List.length_map]; omega, for_range (lo := 0) (n := (((st.map V.int).length : Nat) : Int).toNat) (fun i σ H' => ∃ (y3 : Option V), σ = [some (.ref a), some (.int (x : Int)), some (.int (endI st i (x : Int))), y3] ∧ H' = H ∧ (-1 ≤ endI st i (x : Int) ∧ endI st i (x : Int) ≤ (st.length : Int) - 1)) ⟨none, rfl, rfl, by show -1 ≤ (x : Int); omega, by show (x : Int) ≤ _; omega⟩ ?_ ?_⟩
  · rintro i σ H1 hi ⟨y3, rfl, rfl, hz⟩
    refine ⟨_, rfl, rfl, _, rfl, ?_⟩
    have es : endI st (i + 1) (x : Int) = downI st (endI st i (x : Int)) := rfl
    rw [es]
    generalize endI st i (x : Int) = z at hz ⊢
    by_cases c : z = -1
    · subst c
      show if (!decide (V.int (-1) = V.int (-1))) = true then _ else _
      rw [decide_eq_true rfl]
      exact ⟨_, rfl, rfl, hz⟩
    · have ne : decide (V.int z = V.int (-1)) = false := decide_eq_false fun e => c (V.int.inj e)
      show if (!decide (V.int z = V.int (-1))) = true then _ else _
      rw [ne]
      obtain ⟨k, rfl⟩ : ∃ k : Nat, z = (k : Int) := ⟨z.toNat, by omega⟩
      obtain ⟨u, hu⟩ : ∃ u, st[k]? = some u := ⟨_, List.getElem?_eq_getElem (by omega)⟩
      have e : downI st (k : Int) = u := by unfold downI; rw [if_neg c, Int.toNat_natCast, hu]; rfl
      rw [e]
      exact ⟨_, rfl, _, rfl, a, _, _, .int u, rfl, rfl, ha.sq, atI_nat (by rw [List.getElem?_map, hu]; rfl), _, rfl, rfl, hst u (List.mem_of_getElem? hu)⟩
  · rintro σ H1 ⟨y3, rfl, rfl, hz⟩
    rw [Int.toNat_natCast, List.length_map] at hz ⊢
    refine ⟨_, rfl, rfl, ?_⟩
    have ed : decide (V.int (endI st st.length (x : Int)) = V.int (-1)) = decide (endI st st.length (x : Int) = -1) := by
      generalize endI st st.length (x : Int) = z
      by_cases c : z = -1
      · subst c; rfl
      · rw [decide_eq_false c, decide_eq_false fun e => c (V.int.inj e)]
    show Q (.bl (decide (V.int (endI st st.length (x : Int)) = V.int (-1)))) H1
    rw [ed]
    exact q

theorem ok_stands_fitB (T : Txt w K mg) : FnOk P w K mg base CX0 2 (He.ga K "stands_fit") (fdOf K d_stands_fit) ["stands", "parts"] (spStandsFitB K) := by
  have G_between := ok_between (P := P) (base := base) T
  have G_has_end := ok_has_endB (P := P) (base := base) T
  refine T.F_stands_fit.ok sc_stands_fit (fun vs H Q E h => ?_) (fun cdv A outer s H vs Q E hr h => ?_)
  · obtain ⟨a, st, m, rfl, _⟩ := h
    rfl
  obtain ⟨a, st, m, rfl, ha, h8, q⟩ := h
  refine ⟨_, PSs.nox (pss_cons (ps_if (PW.pt (pw_or (pt_not (pt_val (pe_callB (r := rIsi K) call_isi (by rfl) T.z_isinstance (by decide +kernel) (pa_cons (pv 0) (pa_cons (pe_bltn (v := .ty "tuple") (by rfl) T.z_tuple (by decide +kernel) rfl) pa_nil))))) (pw_or1 (pt_cmpR op_ne (pe_callB (r := Evl.rLenS K) call_len_seq (by rfl) T.z_len PySem.boot_len (pa_cons (pv 0) pa_nil)) (pv 1) (nomark _))))) (pss_one (ps_ret pe_bl)) pss_nil)
      (pss_cons (ps_if (pt_not (pt_val (pe_callB (r := rAll K) (cr_all rfl) (by rfl) T.z_all (by decide +kernel) (pa_cons (pe_lc (own := [("stand", 2)]) rfl sc_stands_fit.nd (Ov.pi_tupK (K := K) rfl (pv 0)) (blkOk_by (own := [("stand", 2)]) (N := ["stands", "parts", "stand", "part"]) (sc := defScope s_stands_fit) (by decide +kernel)) (fun _ _ _ _ _ => (pg_name (i := 2) sc_stands_fit.nd rfl (by first | exact Or.inl rfl | exact Or.inr rfl))) (fun _ _ _ _ _ => pts_nil) (fun _ _ _ _ _ => (pe_call G_between (hr.mono (by omega)) (by rfl) T.g_between T.kp_between T.b_between .nil pass0 (pa_cons (pv 2) (pa_cons (pe_glob (v := .int (-1)) (by rfl) T.i_NO_PART.choose_spec ⟨_, rfl⟩) (pa_cons (pe_op op_sub (pv 1) pe_int) pa_nil)))))) pa_nil)))) (pss_one (ps_ret pe_bl)) pss_nil)
      (pss_one (ps_ret (pe_callB (r := rAll K) (cr_all rfl) (by rfl) T.z_all (by decide +kernel) (pa_cons (pe_lc (own := [("part", 3)]) rfl sc_stands_fit.nd (pi_range1 (by rfl) T.z_range (pa_cons (pv 1) pa_nil)) (blkOk_by (own := [("part", 3)]) (N := ["stands", "parts", "stand", "part"]) (sc := defScope s_stands_fit) (by decide +kernel)) (fun _ _ _ _ _ => (pg_name (i := 3) sc_stands_fit.nd rfl (by first | exact Or.inl rfl | exact Or.inr rfl))) (fun _ _ _ _ _ => pts_nil) (fun _ _ _ _ _ => (pe_call G_has_end (hr.mono (by omega)) (by rfl) T.g_has_end T.kp_has_end T.b_has_end .nil pass0 (pa_cons (pv 0) (pa_cons (pv 3) pa_nil))))) pa_nil)))))), ?_⟩
  refine ⟨_, rfl, _, .ty "tuple", .type "tuple", .type "tuple", true, rfl, .ty _, ha.ty, k_tuple_tuple, true, rfl, iteF ⟨_, rfl, a, _, rfl, .inr ha.sq, _, rfl, rfl, _, rfl, ?_⟩⟩
  have eb : standB m st = (decide (st.length = m) && (st.all (fun z => decide (-1 ≤ z ∧ z ≤ (m : Int) - 1)) && (List.range m).all fun i => decide (endI st m (i : Int) = -1))) := rfl
  rw [eb] at q
  have el : decide (V.int (((st.map V.int).length : Nat) : Int) = V.int (m : Int)) = decide (st.length = m) := by
    rw [List.length_map]
    by_cases c : st.length = m
    · rw [decide_eq_true c, c, decide_eq_true rfl]
    · rw [decide_eq_false c, decide_eq_false fun z => c (by have := V.int.inj z; omega)]
  show if (!decide (V.int (((st.map V.int).length : Nat) : Int) = V.int (m : Int))) = true then _ else _
  rw [el]
  by_cases c0 : st.length = m
  · rw [decide_eq_true c0] at q ⊢
    rw [Bool.true_and] at q
    refine iteF ⟨_, rfl, a, rfl, ⟨_, ha.sq⟩, fun D hD => ?_⟩
    refine lc_tupY (K := K) (a := a) (xs := st.map V.int) (fun i H' => Same H H' ∧ H' D = some (.lst (((st.take i).map fun z => decide (-1 ≤ z ∧ z ≤ (m : Int) - 1)).map V.bl))) ⟨Same.new hD, upd_same⟩ (fun i H' _ e => (ha.keep (Keep.same e.1)).sq) ?_ ?_
    · rintro i x H1 hi ⟨s1, e1⟩
      obtain ⟨y, hy, rfl⟩ := ints_int hi
      have hil := (List.getElem?_eq_some_iff.mp hy).1
      refine ⟨rfl, _, rfl, _, rfl, _, 1, rfl, rfl, y, -1, _, rfl, _, e1, sm _ (by rw [List.length_map, List.length_map, List.length_take]; omega), Ov.Same.updn s1 hD, ?_⟩
      rw [upd_same, List.take_add_one, hy, List.map_append, List.map_append]
      rfl
    rintro H1 ⟨s1, e1⟩
    rw [List.length_map, List.take_length] at e1
    have ew : (st.map fun z => decide (-1 ≤ z ∧ z ≤ (m : Int) - 1)).all id = st.all fun z => decide (-1 ≤ z ∧ z ≤ (m : Int) - 1) := by rw [List.all_map]; rfl
    refine ⟨D, _, rfl, SqL.of e1, _, rfl, ?_⟩
    rw [ew]
    cases c1 : st.all fun z => decide (-1 ≤ z ∧ z ≤ (m : Int) - 1) with
    | false =>
      rw [c1] at q
      exact iteT (q H1 s1)
    | true =>
    rw [c1, Bool.true_and] at q
    have hst : ∀ z ∈ st, -1 ≤ z ∧ z ≤ (st.length : Int) - 1 := fun z hz => by
      have := of_decide_eq_true (List.all_eq_true.mp c1 z hz)
      omega
    refine iteF ⟨_, rfl, _, rfl, by omega, by omega, fun B hB => ?_⟩
    refine lc_rangeY (lo := 0) (n := ((m : Nat) : Int).toNat) (fun i H' => Same H1 H' ∧ H' B = some (.lst (((List.range i).map fun (i : Nat) => decide (endI st m (i : Int) = -1)).map V.bl))) ⟨Same.new hB, upd_same⟩ ?_ ?_
    · rintro i H2 hi ⟨s2, e2⟩
      rw [Int.toNat_natCast] at hi
      refine ⟨rfl, _, rfl, _, rfl, a, st, i, ?_, ha.keep (Keep.same (s1.trans s2)), hst, by omega, h8, _, e2, sm _ (by rw [List.length_map, List.length_map, List.length_range]; omega), Ov.Same.updn s2 hB, ?_⟩
      · show [V.ref a, V.int (0 + (i : Int))] = _
        rw [Int.zero_add]
      · rw [upd_same, List.range_succ, List.map_append, List.map_append, c0]
        rfl
    · rintro H2 ⟨s2, e2⟩
      rw [Int.toNat_natCast] at e2
      refine ⟨B, _, rfl, SqL.of e2, ?_⟩
      have ew2 : ((List.range m).map fun (i : Nat) => decide (endI st m (i : Int) = -1)).all id = (List.range m).all fun (i : Nat) => decide (endI st m (i : Int) = -1) := by rw [List.all_map]; rfl
      rw [ew2]
      exact q H2 (s1.trans s2)
  · rw [decide_eq_false c0] at q ⊢
    exact iteT (q H (Same.refl H))

theorem ok_check_treeX (T : Txt w K mg) : FnOk P w K mg base (L2.CX P w) 12 (He.ga K "check_tree") (fdOf K d_check_tree) ["program", "tree"] (spCheckTreeX K) := by
  have G_check_program := ok_check_program (P := P) (base := base) T
  have G_parts_fit := ok_parts_fitB (P := P) (base := base) T
  have G_stands_fit := ok_stands_fitB (P := P) (base := base) T
  refine T.F_check_tree.ok sc_check_tree (fun vs H Q E h => ?_) (fun cdv A outer s H vs Q E hr h => ?_)
  · obtain ⟨v, t, pr, rfl, _⟩ := h
    rfl
  obtain ⟨v, t, pr, rfl, hpr, hok, ht, hE⟩ := h
  have l8 := hok.l8
  refine ⟨_, (pss_cons (ps_expr (pe_call G_check_program (hr.mono (by omega)) (by rfl) T.g_check_program T.kp_check_program T.b_check_program .nil pass0 (pa_cons (pv 0) pa_nil)))
      (pss_cons (ps_if (PW.pt (pw_or (pt_cmpR op_ne (pe_callB (r := Evl.rLenS K) call_len_seq (by rfl) T.z_len PySem.boot_len (pa_cons (pv 1) pa_nil)) pe_int (nomark _)) (pw_or1 (pt_not (pt_val (pe_call G_parts_fit (hr.mono (by omega)) (by rfl) T.g_parts_fit T.kp_parts_fit T.b_parts_fit .nil pass0 (pa_cons (pe_ix (r := rIxT K) ix_tup (pv 1) pe_int (fun _ _ => rfl)) (pa_cons (pe_callB (r := Evl.rLenS K) call_len_seq (by rfl) T.z_len PySem.boot_len (pa_cons (pv 0) pa_nil)) pa_nil)))))))) (pss_one (ps_raise rfl (takes_of rfl rfl rfl rfl) (pmk_ownA PySem.F.excBase_ValueError T.x_BadTree.1 T.g_BadTree T.x_BadTree.2.1 (raises_own T.x_BadTree.2.2.1 T.x_BadTree.2.2.2) (by rfl) (pa_cons pe_str pa_nil)))) pss_nil)
      (pss_one (ps_if (pt_not (pt_val (pe_call G_stands_fit (hr.mono (by omega)) (by rfl) T.g_stands_fit T.kp_stands_fit T.b_stands_fit .nil pass0 (pa_cons (pe_ix (r := rIxT K) ix_tup (pv 1) pe_int (fun _ _ => rfl)) (pa_cons (pe_callB (r := Evl.rLenS K) call_len_seq (by rfl) T.z_len PySem.boot_len (pa_cons (pe_ix (r := rIxT K) ix_tup (pv 1) pe_int (fun _ _ => rfl)) pa_nil)) pa_nil))))) (pss_one (ps_raise rfl (takes_of rfl rfl rfl rfl) (pmk_ownA PySem.F.excBase_ValueError T.x_BadTree.1 T.g_BadTree T.x_BadTree.2.1 (raises_own T.x_BadTree.2.2.1 T.x_BadTree.2.2.2) (by rfl) (pa_cons pe_str pa_nil)))) pss_nil)))), ?_⟩
  refine ⟨_, rfl, v, pr, rfl, hpr, hok, fun H1 s1 => ?_⟩
  obtain ⟨pp, pvs, rfl, hpp, hpf⟩ := hpr.keep (Keep.same s1)
  have hpl := Paired.length hpf
  have ht1 := ht.keep (Keep.same s1)
  generalize eb : false = bb at ht1
  cases ht1 with
  | @len a xs h1 h2 h3 =>
    refine ⟨_, rfl, a, _, rfl, .inr h1.sq, rfl, _, rfl, ?_⟩
    have e : (!decide (V.int ((xs.length : Nat) : Int) = V.int 2)) = true := by rw [decide_eq_false fun z => h2 (by have := V.int.inj z; omega)]; rfl
    rw [e]
    exact iteT (iteT ⟨sml 1, hE H1 s1⟩)
  | @two a p sa us xs st h1 h2 h3 h4 h5 h6 h7 =>
    have hul := Paired.length h3
    refine ⟨_, rfl, a, _, rfl, .inr h1.sq, rfl, _, rfl, iteNS rfl ?_⟩
    refine ⟨_, rfl, a, _, 0, _, rfl, rfl, h1.sq, atI_nat (j := 0) rfl, _, rfl, pp, _, rfl, .inr (SqT.of hpp), p, pr.length, us, xs, by rw [hpl]; rfl, h2, h3, h4, h5, l8, fun H2 s2 => ⟨_, rfl, ?_⟩⟩
    cases c0 : partsB pr.length xs with
    | false => exact iteT ⟨sml 1, hE H2 (s1.trans s2)⟩
    | true =>
      rw [c0, Bool.true_and] at eb
      have h12 := h1.keep (Keep.same s2)
      refine iteF ⟨_, rfl, a, _, 1, _, rfl, rfl, h12.sq, atI_nat (j := 1) rfl, _, rfl, a, _, 0, _, rfl, rfl, h12.sq, atI_nat (j := 0) rfl, p, us, rfl, .inr (h2.keep (Keep.same s2)).sq, ?_⟩
      refine ⟨sa, st, us.length, rfl, h6.keep (Keep.same s2), h7, fun H3 s3 => ⟨_, rfl, ?_⟩⟩
      rw [hul, ← eb]
      exact iteT ⟨sml 1, hE H3 ((s1.trans s2).trans s3)⟩
end
end K03

namespace K03
open PySem PySem.Spec PyProof.Rows L2 Ov
section
variable {P : Program} {w : World} {K : PySem.W.Frag} {mg : Str → Option Value} {base : Heap}
theorem sc_places : FnScope ["program", "tree"] ["program", "tree"] (defScope s_places) := ⟨rfl, rfl, rfl, by decide +kernel, rfl, by decide +kernel, by decide +kernel⟩
-- 0 program, 1 tree
theorem ok_placesX (T : Txt w K mg) : FnOk P w K mg base (L2.CX P w) 13 (He.ga K "places") (fdOf K d_places) ["program", "tree"] (spTX K 0) := by
  have G_check_tree := ok_check_treeX (P := P) (base := base) T
  refine T.F_places.ok sc_places (fun vs H Q E h => ?_) (fun cdv A outer s H vs Q E hr h => ?_)
  · obtain ⟨v, t, pr, r, rfl, hr0, _⟩ := h
    show r.length + 1 + 1 = _
    rw [hr0]
    rfl
  obtain ⟨v, t, pr, r, rfl, hr0, hpr, hok, ht, hE⟩ := h
  obtain rfl : r = [] := List.length_eq_zero_iff.mp hr0
  refine ⟨_, (pss_cons (ps_expr (pe_callS G_check_tree (hr.mono (by omega)) (by rfl) T.g_check_tree T.kp_check_tree T.b_check_tree (fun σ => passAt (takes_of rfl rfl rfl rfl) σ) (pa_cons (pv 0) (pa_cons (pv 1) pa_nil))))
      pss_never), ?_⟩
  exact ⟨_, rfl, _, rfl, v, t, pr, rfl, hpr, hok, ht, hE⟩
theorem sc_wanted : FnScope ["program", "tree"] ["program", "tree"] (defScope s_wanted) := ⟨rfl, rfl, rfl, by decide +kernel, rfl, by decide +kernel, by decide +kernel⟩
-- 0 program, 1 tree
theorem ok_wantedX (T : Txt w K mg) : FnOk P w K mg base (L2.CX P w) 13 (He.ga K "wanted") (fdOf K d_wanted) ["program", "tree"] (spTX K 0) := by
  have G_check_tree := ok_check_treeX (P := P) (base := base) T
  refine T.F_wanted.ok sc_wanted (fun vs H Q E h => ?_) (fun cdv A outer s H vs Q E hr h => ?_)
  · obtain ⟨v, t, pr, r, rfl, hr0, _⟩ := h
    show r.length + 1 + 1 = _
    rw [hr0]
    rfl
  obtain ⟨v, t, pr, r, rfl, hr0, hpr, hok, ht, hE⟩ := h
  obtain rfl : r = [] := List.length_eq_zero_iff.mp hr0
  refine ⟨_, (pss_cons (ps_expr (pe_callS G_check_tree (hr.mono (by omega)) (by rfl) T.g_check_tree T.kp_check_tree T.b_check_tree (fun σ => passAt (takes_of rfl rfl rfl rfl) σ) (pa_cons (pv 0) (pa_cons (pv 1) pa_nil))))
      pss_never), ?_⟩
  exact ⟨_, rfl, _, rfl, v, t, pr, rfl, hpr, hok, ht, hE⟩
theorem sc_way_down : FnScope ["program", "tree", "function"] ["program", "tree", "function"] (defScope s_way_down) := ⟨rfl, rfl, rfl, by decide +kernel, rfl, by decide +kernel, by decide +kernel⟩
-- 0 program, 1 tree, 2 function
theorem ok_way_downX (T : Txt w K mg) : FnOk P w K mg base (L2.CX P w) 13 (He.ga K "way_down") (fdOf K d_way_down) ["program", "tree", "function"] (spTX K 1) := by
  have G_check_tree := ok_check_treeX (P := P) (base := base) T
  refine T.F_way_down.ok sc_way_down (fun vs H Q E h => ?_) (fun cdv A outer s H vs Q E hr h => ?_)
  · obtain ⟨v, t, pr, r, rfl, hr0, _⟩ := h
    show r.length + 1 + 1 = _
    rw [hr0]
    rfl
  obtain ⟨v, t, pr, r, rfl, hr0, hpr, hok, ht, hE⟩ := h
  obtain ⟨y0, rfl⟩ : ∃ y0, r = [y0] := by
    match r, hr0 with
    | [y0], _ => exact ⟨y0, rfl⟩
  refine ⟨_, (pss_cons (ps_expr (pe_callS G_check_tree (hr.mono (by omega)) (by rfl) T.g_check_tree T.kp_check_tree T.b_check_tree (fun σ => passAt (takes_of rfl rfl rfl rfl) σ) (pa_cons (pv 0) (pa_cons (pv 1) pa_nil))))
      pss_never), ?_⟩
  exact ⟨_, rfl, _, rfl, v, t, pr, rfl, hpr, hok, ht, hE⟩
theorem sc_shorts : FnScope ["program", "tree", "paper", "entries", "ways", "asked", "ahead", "back", "function", "calls", "word", "entered"] ["program", "tree", "paper"] (defScope s_shorts) := ⟨rfl, rfl, rfl, by decide +kernel, rfl, by decide +kernel, by decide +kernel⟩
-- 0 program, 1 tree, 2 paper, 3 entries, 4 ways, 5 asked, 6 ahead, 7 back, 8 function, 9 calls, 10 word, 11 entered
theorem ok_shortsX (T : Txt w K mg) : FnOk P w K mg base (L2.CX P w) 13 (He.ga K "shorts") (fdOf K d_shorts) ["program", "tree", "paper"] (spTX K 1) := by
  have G_check_tree := ok_check_treeX (P := P) (base := base) T
  refine T.F_shorts.ok sc_shorts (fun vs H Q E h => ?_) (fun cdv A outer s H vs Q E hr h => ?_)
  · obtain ⟨v, t, pr, r, rfl, hr0, _⟩ := h
    show r.length + 1 + 1 = _
    rw [hr0]
    rfl
  obtain ⟨v, t, pr, r, rfl, hr0, hpr, hok, ht, hE⟩ := h
  obtain ⟨y0, rfl⟩ : ∃ y0, r = [y0] := by
    match r, hr0 with
    | [y0], _ => exact ⟨y0, rfl⟩
  refine ⟨_, (pss_cons (ps_expr (pe_callS G_check_tree (hr.mono (by omega)) (by rfl) T.g_check_tree T.kp_check_tree T.b_check_tree (fun σ => passAt (takes_of rfl rfl rfl rfl) σ) (pa_cons (pv 0) (pa_cons (pv 1) pa_nil))))
      pss_never), ?_⟩
  exact ⟨_, rfl, _, rfl, v, t, pr, rfl, hpr, hok, ht, hE⟩
theorem sc_cost : FnScope ["program", "tree", "trace"] ["program", "tree", "trace"] (defScope s_cost) := ⟨rfl, rfl, rfl, by decide +kernel, rfl, by decide +kernel, by decide +kernel⟩
-- 0 program, 1 tree, 2 trace
theorem ok_costX (T : Txt w K mg) : FnOk P w K mg base (L2.CX P w) 13 (He.ga K "cost") (fdOf K d_cost) ["program", "tree", "trace"] (spTX K 1) := by
  have G_check_tree := ok_check_treeX (P := P) (base := base) T
  refine T.F_cost.ok sc_cost (fun vs H Q E h => ?_) (fun cdv A outer s H vs Q E hr h => ?_)
  · obtain ⟨v, t, pr, r, rfl, hr0, _⟩ := h
    show r.length + 1 + 1 = _
    rw [hr0]
    rfl
  obtain ⟨v, t, pr, r, rfl, hr0, hpr, hok, ht, hE⟩ := h
  obtain ⟨y0, rfl⟩ : ∃ y0, r = [y0] := by
    match r, hr0 with
    | [y0], _ => exact ⟨y0, rfl⟩
  refine ⟨_, (pss_cons (ps_expr (pe_callS G_check_tree (hr.mono (by omega)) (by rfl) T.g_check_tree T.kp_check_tree T.b_check_tree (fun σ => passAt (takes_of rfl rfl rfl rfl) σ) (pa_cons (pv 0) (pa_cons (pv 1) pa_nil))))
      pss_never), ?_⟩
  exact ⟨_, rfl, _, rfl, v, t, pr, rfl, hpr, hok, ht, hE⟩
theorem sc_Hall_init : FnScope ["self", "program", "tree", "room", "function"] ["self", "program", "tree", "room"] (defScope s_Hall_init) := ⟨rfl, rfl, rfl, by decide +kernel, rfl, by decide +kernel, by decide +kernel⟩
-- 0 self, 1 program, 2 tree, 3 room, 4 function
theorem ok_Hall_initT (T : Txt w K mg) : FnOk P w K mg base (L2.CX P w) 13 (He.ma K (He.ga K "Hall") "__init__") (fdOf K d_Hall_init) ["self", "program", "tree", "room"] (spTXm K 1) := by
  have G_check_tree := ok_check_treeX (P := P) (base := base) T
  refine T.F_Hall_init.ok sc_Hall_init (fun vs H Q E h => ?_) (fun cdv A outer s H vs Q E hr h => ?_)
  · obtain ⟨a, r, rfl, v, t, pr, r, rfl, hr0, _⟩ := h
    show r.length + 1 + 1 + 1 = _
    rw [hr0]
    rfl
  obtain ⟨a, r, rfl, v, t, pr, r, rfl, hr0, hpr, hok, ht, hE⟩ := h
  obtain ⟨y0, rfl⟩ : ∃ y0, r = [y0] := by
    match r, hr0 with
    | [y0], _ => exact ⟨y0, rfl⟩
  refine ⟨_, (pss_cons (ps_expr (pe_callS G_check_tree (hr.mono (by omega)) (by rfl) T.g_check_tree T.kp_check_tree T.b_check_tree (fun σ => passAt (takes_of rfl rfl rfl rfl) σ) (pa_cons (pv 1) (pa_cons (pv 2) pa_nil))))
      pss_never), ?_⟩
  exact ⟨_, rfl, _, rfl, v, t, pr, rfl, hpr, hok, ht, hE⟩
theorem sc_room_run : FnScope ["program", "tree", "room", "ahead", "back", "number", "hall", "done"] ["program", "tree", "room", "ahead", "back", "number"] (defScope s_room_run) := ⟨rfl, rfl, rfl, by decide +kernel, rfl, by decide +kernel, by decide +kernel⟩
-- 0 program, 1 tree, 2 room, 3 ahead, 4 back, 5 number, 6 hall, 7 done
theorem ok_room_runT (T : Txt w K mg) : FnOk P w K mg base (L2.CX P w) 16 (He.ga K "room_run") (fdOf K d_room_run) ["program", "tree", "room", "ahead", "back", "number"] (spTX K 4) := by
  have G_Hall_init := ok_Hall_initT (P := P) (base := base) T
  refine T.F_room_run.ok sc_room_run (fun vs H Q E h => ?_) (fun cdv A outer s H vs Q E hr h => ?_)
  · obtain ⟨v, t, pr, r, rfl, hr0, _⟩ := h
    show r.length + 1 + 1 = _
    rw [hr0]
    rfl
  obtain ⟨v, t, pr, r, rfl, hr0, hpr, hok, ht, hE⟩ := h
  obtain ⟨y0, y1, y2, y3, rfl⟩ : ∃ y0 y1 y2 y3, r = [y0, y1, y2, y3] := by
    match r, hr0 with
    | [y0, y1, y2, y3], _ => exact ⟨y0, y1, y2, y3, rfl⟩
  refine ⟨_, (pss_cons (ps_set (i := 6) sc_room_run.nd rfl (by first | exact Or.inl rfl | exact Or.inr rfl) (Ov.pe_makeS T.k_Hall G_Hall_init (hr.mono (by omega)) (by rfl) T.g_Hall T.b_Hall_init (fun σ => passAt (takes_of rfl rfl rfl rfl) σ) (pa_cons (pv 0) (pa_cons (pv 1) (pa_cons (pv 2) pa_nil)))))
      pss_never), ?_⟩
  refine ⟨_, rfl, _, rfl, _, rfl, fun x dx hx hdx ne => ?_⟩
  have s12 := (Same.new (o := .own x) hdx).trans (Same.new (o := .ins (He.ga K "Hall") dx []) (by rw [upd_ne ne.symm]; exact hx))
  exact ⟨_, _, rfl, v, t, pr, _, rfl, rfl, hpr.keep (Keep.same s12), hok, ht.keep (Keep.same s12), hE.same s12⟩
theorem sc_run_in : FnScope ["program", "tree", "room", "number", "done"] ["program", "tree", "room", "number"] (defScope s_run_in) := ⟨rfl, rfl, rfl, by decide +kernel, rfl, by decide +kernel, by decide +kernel⟩
-- 0 program, 1 tree, 2 room, 3 number, 4 done
theorem ok_run_inT (T : Txt w K mg) : FnOk P w K mg base (L2.CX P w) 17 (He.ga K "run_in") (fdOf K d_run_in) ["program", "tree", "room", "number"] (spTX K 2) := by
  have G_room_run := ok_room_runT (P := P) (base := base) T
  refine T.F_run_in.ok sc_run_in (fun vs H Q E h => ?_) (fun cdv A outer s H vs Q E hr h => ?_)
  · obtain ⟨v, t, pr, r, rfl, hr0, _⟩ := h
    show r.length + 1 + 1 = _
    rw [hr0]
    rfl
  obtain ⟨v, t, pr, r, rfl, hr0, hpr, hok, ht, hE⟩ := h
  obtain ⟨y0, y1, rfl⟩ : ∃ y0 y1, r = [y0, y1] := by
    match r, hr0 with
    | [y0, y1], _ => exact ⟨y0, y1, rfl⟩
  refine ⟨_, (pss_cons (ps_set (i := 4) sc_run_in.nd rfl (by first | exact Or.inl rfl | exact Or.inr rfl) (pe_callS G_room_run (hr.mono (by omega)) (by rfl) T.g_room_run T.kp_room_run T.b_room_run (fun σ => passAt (takes_of rfl rfl rfl rfl) σ) (pa_cons (pv 0) (pa_cons (pv 1) (pa_cons (pv 2) (pa_cons (pe_lst pa_nil) (pa_cons (pe_lst pa_nil) (pa_cons (pv 3) pa_nil))))))))
      pss_never), ?_⟩
  refine ⟨_, rfl, _, rfl, _, rfl, sml 0, fun l1 h1 => ⟨sml 0, fun l2 h2 => ?_⟩⟩
  have s12 := (Same.new (o := .lst []) h1).trans (Same.new (o := .lst []) h2)
  exact ⟨_, rfl, v, t, pr, _, rfl, rfl, hpr.keep (Keep.same s12), hok, ht.keep (Keep.same s12), hE.same s12⟩
theorem sc_run_with : FnScope ["program", "tree", "room", "ahead", "back", "number", "done"] ["program", "tree", "room", "ahead", "back", "number"] (defScope s_run_with) := ⟨rfl, rfl, rfl, by decide +kernel, rfl, by decide +kernel, by decide +kernel⟩
-- 0 program, 1 tree, 2 room, 3 ahead, 4 back, 5 number, 6 done
theorem ok_run_withT (T : Txt w K mg) : FnOk P w K mg base (L2.CX P w) 17 (He.ga K "run_with") (fdOf K d_run_with) ["program", "tree", "room", "ahead", "back", "number"] (spTX K 4) := by
  have G_room_run := ok_room_runT (P := P) (base := base) T
  refine T.F_run_with.ok sc_run_with (fun vs H Q E h => ?_) (fun cdv A outer s H vs Q E hr h => ?_)
  · obtain ⟨v, t, pr, r, rfl, hr0, _⟩ := h
    show r.length + 1 + 1 = _
    rw [hr0]
    rfl
  obtain ⟨v, t, pr, r, rfl, hr0, hpr, hok, ht, hE⟩ := h
  obtain ⟨y0, y1, y2, y3, rfl⟩ : ∃ y0 y1 y2 y3, r = [y0, y1, y2, y3] := by
    match r, hr0 with
    | [y0, y1, y2, y3], _ => exact ⟨y0, y1, y2, y3, rfl⟩
  refine ⟨_, (pss_cons (ps_set (i := 6) sc_run_with.nd rfl (by first | exact Or.inl rfl | exact Or.inr rfl) (pe_callS G_room_run (hr.mono (by omega)) (by rfl) T.g_room_run T.kp_room_run T.b_room_run (fun σ => passAt (takes_of rfl rfl rfl rfl) σ) (pa_cons (pv 0) (pa_cons (pv 1) (pa_cons (pv 2) (pa_cons (pv 3) (pa_cons (pv 4) (pa_cons (pv 5) pa_nil))))))))
      pss_never), ?_⟩
  exact ⟨_, rfl, _, rfl, _, rfl, _, rfl, _, rfl, _, rfl, v, t, pr, _, rfl, rfl, hpr, hok, ht, hE⟩
end
end K03

namespace K03
open PySem PySem.Spec PyProof.Rows L2 Ov
section
variable {P : Program} {w : World} {K : PySem.W.Frag} {mg : Str → Option Value} {base : Heap}
theorem sc_law_odd : FnScope ["_law_h", "_law_many", "_law_tree_here", "_law_parts", "_law_stands", "_law_far", "_law_k", "_law_some"] ["_law_h", "_law_many", "_law_tree_here"] (defScope s_law_odd) := ⟨rfl, rfl, rfl, by decide +kernel, rfl, by decide +kernel, by decide +kernel⟩
-- 0 _law_h, 1 _law_many, 2 _law_tree_here, 3 _law_parts, 4 _law_stands, 5 _law_far, 6 _law_k, 7 _law_some
theorem ok_law_odd (T : Txt w K mg) : FnOk P w K mg base CX0 3 (He.ga K "_law_odd") (fdOf K d_law_odd) ["_law_h", "_law_many", "_law_tree_here"] (spOddT K) := by
  have G_law_next := ok_law_next (P := P) (base := base) T
  refine T.F_law_odd.ok sc_law_odd (fun vs H Q E h => ?_) (fun cdv A outer s H vs Q E hr h => ?_)
  · obtain ⟨h, c, n, t, ps, st, rfl, _⟩ := h
    rfl
  obtain ⟨h, c, n, t, ps, st, rfl, d, n1, n8, htr, htk, hq⟩ := h
  have F := htk.tf n1 n8
  have m8 := F.m8
  have m1 := F.m1
  obtain ⟨a, pa, sa, rfl, ha, h0⟩ := htr.to (K := K) F
  refine ⟨_, PSs.nox (pss_cons (ps_asg (pv 2) (Ov.pg_tupK (K := K) (n := 2) rfl rfl (pgs_cons (pg_name (i := 3) sc_law_odd.nd rfl (by first | exact Or.inl rfl | exact Or.inr rfl)) (pgs_cons (pg_name (i := 4) sc_law_odd.nd rfl (by first | exact Or.inl rfl | exact Or.inr rfl)) pgs_nil))))
      (pss_cons (ps_set (i := 5) sc_law_odd.nd rfl (by first | exact Or.inl rfl | exact Or.inr rfl) (pe_call G_law_next (hr.mono (by omega)) (by rfl) T.g_law_next T.kp_law_next T.b_law_next .nil pass0 (pa_cons (pv 0) (pa_cons pe_int pa_nil))))
      (pss_cons (ps_set (i := 6) sc_law_odd.nd rfl (by first | exact Or.inl rfl | exact Or.inr rfl) (pe_call G_law_next (hr.mono (by omega)) (by rfl) T.g_law_next T.kp_law_next T.b_law_next .nil pass0 (pa_cons (pv 0) (pa_cons (pe_callB (r := Evl.rLenS K) call_len_seq (by rfl) T.z_len PySem.boot_len (pa_cons (pv 3) pa_nil)) pa_nil))))
      (pss_cons (ps_set (i := 7) sc_law_odd.nd rfl (by first | exact Or.inl rfl | exact Or.inr rfl) (pe_lst (pa_cons (pe_tup pa_nil) (pa_cons (pe_tup (pa_cons (pv 3) pa_nil)) (pa_cons (pe_tup (pa_cons (pv 3) (pa_cons (pv 4) (pa_cons (pv 4) pa_nil)))) (pa_cons (pe_tup (pa_cons (pv 3) (pa_cons (pe_slice (r := rSlA K) sl_tupA (pv 4) po_none (po_some (pe_un un_neg pe_int))) pa_nil))) (pa_cons (pe_tup (pa_cons (pv 3) (pa_cons (pe_op (r := rCatA K) op_catA (pv 4) (pe_tup (pa_cons (pe_un un_neg pe_int) pa_nil))) pa_nil))) (pa_cons (pe_tup (pa_cons (pe_tup pa_nil) (pa_cons (pe_tup pa_nil) pa_nil))) pa_nil))))))))
      (pss_cons (ps_expr (Ov.pe_bmK (K := K) rfl PySem.F.plainAttrs_list PySem.F.slot_list_append PySem.F.type_list_append mt_append (pv 7) (pa_cons (pe_tup (pa_cons (pe_op (r := rCatA K) op_catA (pe_op (r := rCatA K) op_catA (pe_slice (r := rSlA K) sl_tupA (pv 3) po_none (po_some (pv 6))) (pe_tup (pa_cons (pe_tup pa_nil) pa_nil))) (pe_slice (r := rSlA K) sl_tupA (pv 3) (po_some (pv 6)) po_none)) (pa_cons (pe_op (r := rCatA K) op_catA (pv 4) (pe_tup (pa_cons (pe_un un_neg pe_int) pa_nil))) pa_nil))) pa_nil)))
      (pss_cons (ps_expr (Ov.pe_bmK (K := K) rfl PySem.F.plainAttrs_list PySem.F.slot_list_append PySem.F.type_list_append mt_append (pv 7) (pa_cons (pe_tup (pa_cons (pe_op (r := rCatA K) op_catA (pe_slice (r := rSlA K) sl_tupA (pv 3) po_none (po_some (pv 6))) (pe_slice (r := rSlA K) sl_tupA (pv 3) (po_some (pe_op op_add (pv 6) pe_int)) po_none)) (pa_cons (pe_slice (r := rSlA K) sl_tupA (pv 4) po_none (po_some (pe_un un_neg pe_int))) pa_nil))) pa_nil)))
      (pss_cons (ps_expr (Ov.pe_bmK (K := K) rfl PySem.F.plainAttrs_list PySem.F.slot_list_append PySem.F.type_list_append mt_append (pv 7) (pa_cons (pe_tup (pa_cons (pe_op (r := rCatA K) op_catA (pe_op (r := rCatA K) op_catA (pe_slice (r := rSlA K) sl_tupA (pv 3) po_none (po_some (pv 6))) (pe_tup (pa_cons (pe_op (r := rCatA K) op_catA (pe_ix (r := rIxT K) ix_tup (pv 3) (pv 6) (fun _ _ => rfl)) (pe_tup (pa_cons (pe_op op_add (pv 1) (pv 5)) pa_nil))) pa_nil))) (pe_slice (r := rSlA K) sl_tupA (pv 3) (po_some (pe_op op_add (pv 6) pe_int)) po_none)) (pa_cons (pv 4) pa_nil))) pa_nil)))
      (pss_cons (ps_expr (Ov.pe_bmK (K := K) rfl PySem.F.plainAttrs_list PySem.F.slot_list_append PySem.F.type_list_append mt_append (pv 7) (pa_cons (pe_tup (pa_cons (pe_op (r := rCatA K) op_catA (pe_op (r := rCatA K) op_catA (pe_slice (r := rSlA K) sl_tupA (pv 3) po_none (po_some (pv 6))) (pe_tup (pa_cons (pe_op (r := rCatA K) op_catA (pe_ix (r := rIxT K) ix_tup (pv 3) (pv 6) (fun _ _ => rfl)) (pe_slice (r := rSlA K) sl_tupA (pe_ix (r := rIxT K) ix_tup (pv 3) pe_int (fun _ _ => rfl)) po_none (po_some pe_int))) pa_nil))) (pe_slice (r := rSlA K) sl_tupA (pv 3) (po_some (pe_op op_add (pv 6) pe_int)) po_none)) (pa_cons (pv 4) pa_nil))) pa_nil)))
      (pss_cons (ps_expr (Ov.pe_bmK (K := K) rfl PySem.F.plainAttrs_list PySem.F.slot_list_append PySem.F.type_list_append mt_append (pv 7) (pa_cons (pe_tup (pa_cons (pe_op (r := rCatA K) op_catA (pe_op (r := rCatA K) op_catA (pe_slice (r := rSlA K) sl_tupA (pv 3) po_none (po_some (pv 6))) (pe_tup (pa_cons (pe_op (r := rCatA K) op_catA (Ov.pe_revT (K := K) rfl (pe_ix (r := rIxT K) ix_tup (pv 3) (pv 6) (fun _ _ => rfl))) (pe_tup (pa_cons pe_int pa_nil))) pa_nil))) (pe_slice (r := rSlA K) sl_tupA (pv 3) (po_some (pe_op op_add (pv 6) pe_int)) po_none)) (pa_cons (pv 4) pa_nil))) pa_nil)))
      (pss_cons (ps_expr (Ov.pe_bmK (K := K) rfl PySem.F.plainAttrs_list PySem.F.slot_list_append PySem.F.type_list_append mt_append (pv 7) (pa_cons (pe_tup (pa_cons (pv 3) (pa_cons (pe_op (r := rCatA K) op_catA (pe_op (r := rCatA K) op_catA (pe_slice (r := rSlA K) sl_tupA (pv 4) po_none (po_some (pv 6))) (pe_tup (pa_cons (pv 6) pa_nil))) (pe_slice (r := rSlA K) sl_tupA (pv 4) (po_some (pe_op op_add (pv 6) pe_int)) po_none)) pa_nil))) pa_nil)))
      (pss_cons (ps_expr (Ov.pe_bmK (K := K) rfl PySem.F.plainAttrs_list PySem.F.slot_list_append PySem.F.type_list_append mt_append (pv 7) (pa_cons (pe_tup (pa_cons (pv 3) (pa_cons (pe_op (r := rCatA K) op_catA (pe_op (r := rCatA K) op_catA (pe_slice (r := rSlA K) sl_tupA (pv 4) po_none (po_some (pv 6))) (pe_tup (pa_cons (pe_op op_add (pe_callB (r := Evl.rLenS K) call_len_seq (by rfl) T.z_len PySem.boot_len (pa_cons (pv 3) pa_nil)) (pv 5)) pa_nil))) (pe_slice (r := rSlA K) sl_tupA (pv 4) (po_some (pe_op op_add (pv 6) pe_int)) po_none)) pa_nil))) pa_nil)))
      (pss_cons (ps_expr (Ov.pe_bmK (K := K) rfl PySem.F.plainAttrs_list PySem.F.slot_list_append PySem.F.type_list_append mt_append (pv 7) (pa_cons (pe_tup (pa_cons (pv 3) (pa_cons (pe_op (r := rCatA K) op_catA (pe_op (r := rCatA K) op_catA (pe_slice (r := rSlA K) sl_tupA (pv 4) po_none (po_some (pv 6))) (pe_tup (pa_cons (pe_op op_sub (pe_un un_neg pe_int) (pv 5)) pa_nil))) (pe_slice (r := rSlA K) sl_tupA (pv 4) (po_some (pe_op op_add (pv 6) pe_int)) po_none)) pa_nil))) pa_nil)))
      (pss_cons (ps_expr (Ov.pe_bmK (K := K) rfl PySem.F.plainAttrs_list PySem.F.slot_list_append PySem.F.type_list_append mt_append (pv 7) (pa_cons (pe_tup (pa_cons (pe_op (r := rCatA K) op_catA (Ov.pe_revT (K := K) rfl (pv 3)) (pe_tup (pa_cons (pe_tup (pa_cons pe_int pa_nil)) pa_nil))) (pa_cons (pe_op (r := rCatA K) op_catA (pv 4) (pe_tup (pa_cons (pe_un un_neg pe_int) pa_nil))) pa_nil))) pa_nil)))
      (pss_cons (ps_expr (Ov.pe_bmK (K := K) rfl PySem.F.plainAttrs_list PySem.F.slot_list_append PySem.F.type_list_append mt_append (pv 7) (pa_cons (pe_tup (pa_cons (pe_ix (r := rIxT K) ix_tup (pv 3) pe_int (fun _ _ => rfl)) (pa_cons (pv 4) pa_nil))) pa_nil)))
      (pss_one (ps_ret (pe_ix (r := rIxL K) ix_list (pv 7) (pe_call G_law_next (hr.mono (by omega)) (by rfl) T.g_law_next T.kp_law_next T.b_law_next .nil pass0 (pa_cons (pv 0) (pa_cons pe_int pa_nil))) (fun _ _ => rfl)))))))))))))))))), ?_⟩
  refine ⟨_, rfl, a, _, rfl, SqT.of ha, rfl, _, _, rfl, _, _, rfl, rfl, ?_⟩
  dsimp only
  refine ⟨_, rfl, h, c, 99, rfl, d, by decide, by decide, fun r5 H1 r50 r51 b1 d1 => ?_⟩
  obtain ⟨f, rfl⟩ : ∃ f : Nat, r5 = (f : Int) := ⟨r5.toNat, by omega⟩
  have h1 := h0.keep (Keep.but b1 d)
  obtain ⟨⟨pa', vs, e, hpa, hpp⟩, _⟩ := id h1
  cases e
  have hvl := Paired.length hpp
  rw [pt_len] at hvl
  refine ⟨_, rfl, _, rfl, pa, vs, rfl, .inr hpa.sq, h, c, ps.length, by rw [hvl]; rfl, d1, by omega, by omega, fun r6 H2 r60 r61 b2 d2 => ?_⟩
  obtain ⟨k, rfl⟩ : ∃ k : Nat, r6 = (k : Int) := ⟨r6.toNat, by omega⟩
  have hk : k < ps.length := by omega
  have h2 := h1.keep (Keep.but b2 d1)
  have b02 := b1.trans b2
  clear hpa hpp h1 h0 b1 b2 d1
  obtain ⟨pk, hpk⟩ : ∃ pk, ps[k]? = some pk := ⟨_, List.getElem?_eq_getElem hk⟩
  obtain ⟨p0, hp0⟩ : ∃ p0, ps[0]? = some p0 := ⟨_, List.getElem?_eq_getElem m1⟩
  have E1 := ev_t6 (K := K) (σ := [some (.ref h), some (.int (n : Int)), some (.ref a), some (.ref pa), some (.ref sa), some (.int (f : Int)), some (.int (k : Int)), none]) (pa := pa) (sa := sa) (n := n) (ps := ps) (st := st) F rfl rfl
  dsimp only [gName, tSeq, tAsg]
  refine E1.run H2 _ h2 fun H3 vs3 s3 a3 => ?_
  obtain ⟨l3, a3'⟩ := alla_rep a3
  refine ⟨sml _ (by omega), fun l hl => ?_⟩
  have d3 := d2.same s3
  have nl := Dr.new d3 hl
  have O6 : OdAt K h c pa sa ps st n l H 6 (upd H3 l (.lst vs3)) := ⟨⟨vs3, upd_same, l3, fun v hv => (a3' v hv).keep (Keep.same (Same.new hl))⟩, (h2.keep (Keep.same s3)).keep (Keep.same (Same.new hl)), (b02.trans (.same s3)).trans (.new hl), d3.same (Same.new hl), by
    match e : H l with
    | none => rfl
    | some o => rw [(b02.trans (.same s3)) l o nl.1 nl.2 e] at hl; (cases hl), nl⟩
  revert O6
  generalize upd H3 l (.lst vs3) = H4
  intro O6
  clear h2 d2 d3 b02 s3 a3 a3' l3 hl nl E1
  dsimp only [tSeq]
  refine app_step (by exact ev_t7 F rfl rfl rfl hk) O6 (by rfl) (by decide) fun H7 O7 => ?_
  dsimp only [tSeq]
  refine app_step (by exact ev_t8 F rfl rfl rfl hpk) O7 (by rfl) (by decide) fun H8 O8 => ?_
  dsimp only [tSeq]
  refine app_step (by exact ev_t9 F rfl rfl rfl rfl rfl hpk) O8 (by rfl) (by decide) fun H9 O9 => ?_
  dsimp only [tSeq]
  refine app_step (by exact ev_t10 F rfl rfl rfl hpk hp0) O9 (by rfl) (by decide) fun H10 O10 => ?_
  dsimp only [tSeq]
  refine app_step (by exact ev_t11 F rfl rfl rfl hpk) O10 (by rfl) (by decide) fun H11 O11 => ?_
  dsimp only [tSeq]
  refine app_step (by exact ev_t12 F rfl rfl rfl hk) O11 (by rfl) (by decide) fun H12 O12 => ?_
  dsimp only [tSeq]
  refine app_step (by exact ev_t13 F rfl rfl rfl rfl hk) O12 (by rfl) (by decide) fun H13 O13 => ?_
  dsimp only [tSeq]
  refine app_step (by exact ev_t14 F rfl rfl rfl rfl hk) O13 (by rfl) (by decide) fun H14 O14 => ?_
  dsimp only [tSeq]
  refine app_step (by exact ev_t15 F rfl rfl) O14 (by rfl) (by decide) fun H15 O15 => ?_
  dsimp only [tSeq]
  refine app_step (by exact ev_t16 F rfl rfl hp0) O15 (by rfl) (by decide) fun H16 O16 => ?_
  dsimp only
  clear O6 O7 O8 O9 O10 O11 O12 O13 O14 O15
  obtain ⟨vs, e16, l16, a16⟩ := O16.e
  refine ⟨_, rfl, _, rfl, h, c, 16, rfl, O16.d, by decide, by decide, fun r8 H17 r80 r81 b8 d8 => ?_⟩
  have k8 := Keep.but b8 O16.d
  have e8 := b8 l _ O16.nh.1 O16.nh.2 e16
  obtain ⟨v8, hv8, at8⟩ := val_at (vs := vs) (P := fun v => TvAt K H17 n v false) (fun v hv => (a16 v hv).keep k8) r80 (by omega)
  exact ⟨l, _, _, _, rfl, rfl, SqL.of e8, at8, hq H17 v8 (O16.b.trans b8) d8 hv8⟩
end
end K03

namespace K03
open PySem PySem.Spec PyProof.Rows L2 Ov
section
variable {P : Program} {w : World} {K : PySem.W.Frag} {mg : Str → Option Value} {base : Heap}
theorem ok_check_functionX (T : Txt w K mg) : FnOk P w K mg base (L2.CX P w) 2 (He.ga K "check_function") (fdOf K d_check_function) ["function", "functions"] (spCheckFunctionX K) := by
  have G_between := ok_between (P := P) (base := base) T
  refine T.F_check_function.ok sc_check_function (fun vs H Q E h => ?_) (fun cdv A outer s H vs Q E hr h => ?_)
  · obtain ⟨f, n, rfl, _⟩ := h
    rfl
  obtain ⟨f, n, rfl, hz, hs, q⟩ := h
  refine ⟨_, pss_one (ps_if (pt_not (pt_val (pe_call G_between (hr.mono (by omega)) (by rfl) T.g_between T.kp_between T.b_between .nil pass0 (pa_cons (pv 0) (pa_cons pe_int (pa_cons (pe_op op_sub (pv 1) pe_int) pa_nil))))))
    (pss_one (ps_raise rfl (takes_of rfl rfl rfl rfl) (pmk_ownA PySem.F.excBase_ValueError T.x_BadFunction.1 T.g_BadFunction T.x_BadFunction.2.1 (raises_own T.x_BadFunction.2.2.1 T.x_BadFunction.2.2.2) (by rfl)
      (pa_cons (pe_joined (.cons pe_str (.cons (pe_fmt (pv 0)) .nil))) pa_nil)))) pss_nil), ?_⟩
  refine ⟨_, rfl, _, rfl, _, 1, rfl, rfl, f, 0, _, rfl, _, rfl, ?_⟩
  rw [decide_eq_false (show ¬ ((0 : Int) ≤ f ∧ f ≤ (n : Int) - 1) from fun h => by
    rcases hz with e | e
    · omega
    · omega)]
  refine iteT ?_
  have lz := hs.len
  have la : ∀ a b : PySem.Str, (a ++ b).length = a.length + b.length := fun a b => PySem.Str.length_append a b
  refine ⟨_, rfl, by decide +kernel, _, rfl, Or.inr ⟨f, rfl, hs.log, _, rfl, ?_, ?_⟩⟩
  · rw [PySem.sizeLine_eq, la]
    exact Nat.le_trans (Nat.add_le_add_left lz _) (by decide +kernel)
  exact ⟨sml 1, q H (Same.refl H)⟩
end
end K03

namespace K03
open PySem PySem.Spec PyProof.Rows L2 Ov
section
variable {P : Program} {w : World} {K : PySem.W.Frag} {mg : Str → Option Value} {base : Heap}

theorem ok_places (T : Txt w K mg) : FnOk P w K mg base CX0 13 (He.ga K "places") (fdOf K d_places) ["program", "tree"] spPlaces := by
  have G_check_tree := ok_check_tree (P := P) (base := base) T
  have G_firsts_of := ok_firsts_of (P := P) (base := base) T
  refine T.F_places.ok sc_places (fun vs H Q E h => ?_) (fun cdv A outer s H vs Q E hr h => ?_)
  · obtain ⟨v, t, pr, ps, st, dn, rfl, _⟩ := h
    rfl
  obtain ⟨v, t, pr, ps, st, dn, rfl, hpre, hdn, q⟩ := h
  refine ⟨_, PSs.nox (pss_cons (ps_expr (pe_call G_check_tree (hr.mono (by omega)) (by rfl) T.g_check_tree T.kp_check_tree T.b_check_tree .nil pass0 (pa_cons (pv 0) (pa_cons (pv 1) pa_nil))))
      (pss_one (ps_ret (pe_call G_firsts_of (hr.mono (by omega)) (by rfl) T.g_firsts_of T.kp_firsts_of T.b_firsts_of .nil pass0 (pa_cons (pv 0) (pa_cons (pv 1) pa_nil)))))), ?_⟩
  refine ⟨_, rfl, _, rfl, v, t, pr, ps, st, rfl, hpre, fun H1 s1 => ?_⟩
  have hpre1 := hpre.keep (Keep.same s1)
  exact ⟨_, rfl, _, rfl, v, t, pr, ps, st, dn, rfl, hpre1, hdn, fun H2 p cs s2 hp e2 hc => q H2 p cs (s1.trans s2) (Same.free s1 hp) e2 hc⟩

theorem ok_way_downF (T : Txt w K mg) : FnOk P w K mg base (L2.CX P w) 13 (He.ga K "way_down") (fdOf K d_way_down) ["program", "tree", "function"] (spWayF K) := by
  have G_check_tree := ok_check_tree (P := P) (base := base) T
  have G_check_function := ok_check_functionX (P := P) (base := base) T
  refine T.F_way_down.ok sc_way_down (fun vs H Q E h => ?_) (fun cdv A outer s H vs Q E hr h => ?_)
  · obtain ⟨v, t, pr, ps, st, f, rfl, _⟩ := h
    rfl
  obtain ⟨v, t, pr, ps, st, f, rfl, hpre, hf, hs, hE⟩ := h
  refine ⟨_, (pss_cons (ps_expr (pe_call G_check_tree (hr.mono (by omega)) (by rfl) T.g_check_tree T.kp_check_tree T.b_check_tree .nil pass0 (pa_cons (pv 0) (pa_cons (pv 1) pa_nil))))
      (pss_cons (ps_expr (pe_callS G_check_function (hr.mono (by omega)) (by rfl) T.g_check_function T.kp_check_function T.b_check_function (fun σ => passAt (takes_of rfl rfl rfl rfl) σ) (pa_cons (pv 2) (pa_cons (pe_callB (r := Evl.rLenS K) call_len_seq (by rfl) T.z_len PySem.boot_len (pa_cons (pv 0) pa_nil)) pa_nil))))
      pss_never)), ?_⟩
  refine ⟨_, rfl, _, rfl, v, t, pr, ps, st, rfl, hpre, fun H1 s1 => ?_⟩
  obtain ⟨a, vs, rfl, ha, hp⟩ := hpre.1.keep (Keep.same s1)
  have hl := Paired.length hp
  exact ⟨_, rfl, _, rfl, a, vs, rfl, .inr (SqT.of ha), f, pr.length, by rw [hl], hf, hs, hE.same s1⟩
end
end K03

namespace K03
open PySem PySem.Spec PyProof.Rows L2 Ov LamX
section
variable {P : Program} {w : World} {K : PySem.W.Frag} {mg : Str → Option Value} {base : Heap}
def lawTabs (K : PySem.W.Frag) : List (Addr × Str) := [((He.cT K ("law", none)).2, (envOfC "law" (defScope s_law) 0 0 .none).qual ++ "<lambda>"), ((He.cT K ("_law_works", none)).2, (envOfC "_law_works" (defScope s_law_works) 0 0 .none).qual ++ "<lambda>")]
theorem sc_law_works : FnScope ["_law_program_here", "_law_tree_here", "_law_works_here"] ["_law_program_here", "_law_tree_here"] (defScope s_law_works) := ⟨rfl, rfl, rfl, by decide +kernel, rfl, by decide +kernel, by decide +kernel⟩
theorem ok_law_works (T : Txt w K mg) (TB : TabB base mg (He.cT K ("_law_works", none)).1 (He.cT K ("_law_works", none)).2) : FnOk P w K mg base CX0 2 (He.ga K "_law_works") (fdOf K d_law_works) ["_law_program_here", "_law_tree_here"] (spWorks P w K mg base 111 (lawTabs K)) := by
  have G_placesX := ok_placesX (P := P) (base := base) T
  have G_wantedX := ok_wantedX (P := P) (base := base) T
  have G_way_downX := ok_way_downX (P := P) (base := base) T
  have G_HALL := ok_Hall_initT (P := P) (base := base) T
  have G_run_inT := ok_run_inT (P := P) (base := base) T
  have G_run_withT := ok_run_withT (P := P) (base := base) T
  have G_shortsX := ok_shortsX (P := P) (base := base) T
  have G_costX := ok_costX (P := P) (base := base) T
  have cdq := code_of (p := ("_law_works", none)) T.F_law_works
  obtain ⟨oc, od, dV, kV, doc, pm, an, cdv, ct, osl, efd, lk, hcg, _, _⟩ := T.F_law_works.ex
  rw [efd] at cdq lk ⊢
  obtain rfl : cdv = .ref (He.cT K ("_law_works", none)).1 := cdq
  refine fn_ofR lk hcg sc_law_works (fun vs H Q E h => ?_) (fun A outer s H vs Q E hr h => ?_)
  · obtain ⟨v, t, rfl, _⟩ := h
    rfl
  obtain ⟨v, t, rfl, t0, q⟩ := h
  have hm : ((He.cT K ("_law_works", none)).2, (envOfC "_law_works" (defScope s_law_works) 0 0 .none).qual ++ "<lambda>") ∈ lawTabs K := .tail _ (.head _)
  have hu : ∀ p ∈ lawTabs K, p.1 = (He.cT K ("_law_works", none)).2 → p.2 = (envOfC "_law_works" (defScope s_law_works) 0 0 .none).qual ++ "<lambda>" := fun p hp e => by
    rcases List.mem_cons.mp hp with rfl | hp
    · exact absurd e T.tn_law_law_works
    · rcases List.mem_singleton.mp hp with rfl
      rfl
  have hcells : ∀ x ∈ [("_law_program_here" : Str), "_law_tree_here"], ∃ c, List.lookup x (cellsFrom (s.heap.objs.size + 1) (defScope s_law_works).names []) = some c := fun x hx => by
    rcases List.mem_cons.mp hx with rfl | hx
    · exact ⟨s.heap.objs.size + 1, rfl⟩
    · rcases List.mem_singleton.mp hx with rfl
      exact ⟨s.heap.objs.size + 1 + 1, rfl⟩
  refine ⟨_, psr_cons (ps_set (i := 2) sc_law_works.nd rfl (by first | exact Or.inl rfl | exact Or.inr rfl) (pe_lst (pa_cons (pe_lamP TB rfl hm hu rfl (free_by (xs := ["_law_program_here", "_law_tree_here"]) (by kernel_rfl) hcells) (fun _ _ _ _ _ => rfl)) (pa_cons (pe_lamQ TB rfl hm hu rfl rfl (free_by (xs := ["_law_program_here", "_law_tree_here"]) (by kernel_rfl) hcells) (fun _ _ _ _ _ _ _ => ⟨_, rfl, fun _ => rfl⟩)) (pa_cons (pe_lamQ TB rfl hm hu rfl rfl (free_by (xs := ["_law_program_here", "_law_tree_here"]) (by kernel_rfl) hcells) (fun _ _ _ _ _ _ _ => ⟨_, rfl, fun _ => rfl⟩)) pa_nil)))))
    (psr_cons (ps_set (i := 2) sc_law_works.nd rfl (by first | exact Or.inl rfl | exact Or.inr rfl) (pe_op op_cat (pv 2) (pe_lst (pa_cons (pe_lamQ TB rfl hm hu rfl rfl (free_by (xs := ["_law_program_here", "_law_tree_here"]) (by kernel_rfl) hcells) (fun _ _ _ _ _ _ _ => ⟨_, rfl, fun _ => rfl⟩)) (pa_cons (pe_lamQ TB rfl hm hu rfl rfl (free_by (xs := ["_law_program_here", "_law_tree_here"]) (by kernel_rfl) hcells) (fun _ _ _ _ _ _ _ => ⟨_, rfl, fun _ => rfl⟩)) pa_nil)))))
    (psr_cons (ps_set (i := 2) sc_law_works.nd rfl (by first | exact Or.inl rfl | exact Or.inr rfl) (pe_op op_cat (pv 2) (pe_lst (pa_cons (pe_lamQ TB rfl hm hu rfl rfl (free_by (xs := ["_law_program_here", "_law_tree_here"]) (by kernel_rfl) hcells) (fun _ _ _ _ _ _ _ => ⟨_, rfl, fun _ => rfl⟩)) (pa_cons (pe_lamQ TB rfl hm hu rfl rfl (free_by (xs := ["_law_program_here", "_law_tree_here"]) (by kernel_rfl) hcells) (fun _ _ _ _ _ _ _ => ⟨_, rfl, fun _ => rfl⟩)) pa_nil)))))
    (psr_ret (pe_op op_cat (pv 2) (pe_lst (pa_cons (pe_lamQ TB rfl hm hu rfl rfl (free_by (xs := ["_law_program_here", "_law_tree_here"]) (by kernel_rfl) hcells) (fun _ _ _ _ _ _ _ => ⟨_, rfl, fun _ => rfl⟩)) pa_nil)))))), ?_⟩
  clear hm hu hcells
  dsimp only [tSeq, tAsg, tOp, tLst, tCons, tNil, gName]
  refine lamP_by t0 fun f1 c1 H1 x1 t1 L1 => ?_
  refine lamQ_by t1 fun f2 c2 d2 H2 x2 t2 L2 => ?_
  refine lamQ_by t2 fun f3 c3 d3 H3 x3 t3 L3 => ?_
  refine ⟨sml 3, fun r0 hr0 => ?_⟩
  have yr0 := ext_new (o := .lst ([V.ref f1, V.ref f2, V.ref f3])) hr0
  have tr0 := tabs_same t3 (Same.new (o := .lst ([V.ref f1, V.ref f2, V.ref f3])) hr0)
  have er0 : (upd H3 r0 (.lst ([V.ref f1, V.ref f2, V.ref f3]))) r0 = some (.lst ([V.ref f1, V.ref f2, V.ref f3])) := upd_same
  revert yr0 tr0 er0
  generalize upd H3 r0 (.lst ([V.ref f1, V.ref f2, V.ref f3])) = Rr0
  intro yr0 tr0 er0
  refine ⟨_, rfl, ?_⟩
  dsimp only [tSeq, tAsg, tOp, tLst, tCons, tNil, gName]
  refine lamQ_by tr0 fun f4 c4 d4 H4 x4 t4 L4 => ?_
  refine lamQ_by t4 fun f5 c5 d5 H5 x5 t5 L5 => ?_
  refine ⟨sml 2, fun r1 hr1 => ?_⟩
  have yr1 := ext_new (o := .lst ([V.ref f4, V.ref f5])) hr1
  have tr1 := tabs_same t5 (Same.new (o := .lst ([V.ref f4, V.ref f5])) hr1)
  have er1 : (upd H5 r1 (.lst ([V.ref f4, V.ref f5]))) r1 = some (.lst ([V.ref f4, V.ref f5])) := upd_same
  revert yr1 tr1 er1
  generalize upd H5 r1 (.lst ([V.ref f4, V.ref f5])) = Rr1
  intro yr1 tr1 er1
  refine ⟨r0, r1, _, _, rfl, rfl, ((x4.trans x5).trans yr1) _ _ er0 (fun ps z => by cases z), er1, sml 5, fun q1 hq1 => ?_⟩
  have yq1 := ext_new (o := .lst ([V.ref f1, V.ref f2, V.ref f3] ++ [V.ref f4, V.ref f5])) hq1
  have tq1 := tabs_same tr1 (Same.new (o := .lst ([V.ref f1, V.ref f2, V.ref f3] ++ [V.ref f4, V.ref f5])) hq1)
  have eq1 : (upd Rr1 q1 (.lst ([V.ref f1, V.ref f2, V.ref f3] ++ [V.ref f4, V.ref f5]))) q1 = some (.lst ([V.ref f1, V.ref f2, V.ref f3] ++ [V.ref f4, V.ref f5])) := upd_same
  revert yq1 tq1 eq1
  generalize upd Rr1 q1 (.lst ([V.ref f1, V.ref f2, V.ref f3] ++ [V.ref f4, V.ref f5])) = Rq1
  intro yq1 tq1 eq1
  refine ⟨_, rfl, ?_⟩
  dsimp only [tSeq, tAsg, tOp, tLst, tCons, tNil, gName]
  refine lamQ_by tq1 fun f6 c6 d6 H6 x6 t6 L6 => ?_
  refine lamQ_by t6 fun f7 c7 d7 H7 x7 t7 L7 => ?_
  refine ⟨sml 2, fun r2 hr2 => ?_⟩
  have yr2 := ext_new (o := .lst ([V.ref f6, V.ref f7])) hr2
  have tr2 := tabs_same t7 (Same.new (o := .lst ([V.ref f6, V.ref f7])) hr2)
  have er2 : (upd H7 r2 (.lst ([V.ref f6, V.ref f7]))) r2 = some (.lst ([V.ref f6, V.ref f7])) := upd_same
  revert yr2 tr2 er2
  generalize upd H7 r2 (.lst ([V.ref f6, V.ref f7])) = Rr2
  intro yr2 tr2 er2
  refine ⟨q1, r2, _, _, rfl, rfl, ((x6.trans x7).trans yr2) _ _ eq1 (fun ps z => by cases z), er2, sml 7, fun q2 hq2 => ?_⟩
  have yq2 := ext_new (o := .lst ([V.ref f1, V.ref f2, V.ref f3] ++ [V.ref f4, V.ref f5] ++ [V.ref f6, V.ref f7])) hq2
  have tq2 := tabs_same tr2 (Same.new (o := .lst ([V.ref f1, V.ref f2, V.ref f3] ++ [V.ref f4, V.ref f5] ++ [V.ref f6, V.ref f7])) hq2)
  have eq2 : (upd Rr2 q2 (.lst ([V.ref f1, V.ref f2, V.ref f3] ++ [V.ref f4, V.ref f5] ++ [V.ref f6, V.ref f7]))) q2 = some (.lst ([V.ref f1, V.ref f2, V.ref f3] ++ [V.ref f4, V.ref f5] ++ [V.ref f6, V.ref f7])) := upd_same
  revert yq2 tq2 eq2
  generalize upd Rr2 q2 (.lst ([V.ref f1, V.ref f2, V.ref f3] ++ [V.ref f4, V.ref f5] ++ [V.ref f6, V.ref f7])) = Rq2
  intro yq2 tq2 eq2
  refine ⟨_, rfl, ?_⟩
  dsimp only [tSeq, tAsg, tOp, tLst, tCons, tNil, gName]
  refine lamQ_by tq2 fun f8 c8 d8 H8 x8 t8 L8 => ?_
  refine ⟨sml 1, fun r3 hr3 => ?_⟩
  have yr3 := ext_new (o := .lst ([V.ref f8])) hr3
  have tr3 := tabs_same t8 (Same.new (o := .lst ([V.ref f8])) hr3)
  have er3 : (upd H8 r3 (.lst ([V.ref f8]))) r3 = some (.lst ([V.ref f8])) := upd_same
  revert yr3 tr3 er3
  generalize upd H8 r3 (.lst ([V.ref f8])) = Rr3
  intro yr3 tr3 er3
  refine ⟨q2, r3, _, _, rfl, rfl, (x8.trans yr3) _ _ eq2 (fun ps z => by cases z), er3, sml 8, fun q3 hq3 => ?_⟩
  have yq3 := ext_new (o := .lst ([V.ref f1, V.ref f2, V.ref f3] ++ [V.ref f4, V.ref f5] ++ [V.ref f6, V.ref f7] ++ [V.ref f8])) hq3
  have tq3 := tabs_same tr3 (Same.new (o := .lst ([V.ref f1, V.ref f2, V.ref f3] ++ [V.ref f4, V.ref f5] ++ [V.ref f6, V.ref f7] ++ [V.ref f8])) hq3)
  have eq3 : (upd Rr3 q3 (.lst ([V.ref f1, V.ref f2, V.ref f3] ++ [V.ref f4, V.ref f5] ++ [V.ref f6, V.ref f7] ++ [V.ref f8]))) q3 = some (.lst ([V.ref f1, V.ref f2, V.ref f3] ++ [V.ref f4, V.ref f5] ++ [V.ref f6, V.ref f7] ++ [V.ref f8])) := upd_same
  revert yq3 tq3 eq3
  generalize upd Rr3 q3 (.lst ([V.ref f1, V.ref f2, V.ref f3] ++ [V.ref f4, V.ref f5] ++ [V.ref f6, V.ref f7] ++ [V.ref f8])) = Rq3
  intro yq3 tq3 eq3
  refine ⟨[(s.heap.objs.size + 1 + 1, t), (s.heap.objs.size + 1, v)], fun b u e => ?_, fun ne => ?_⟩
  · rw [List.lookup_cons] at e
    by_cases c0 : b = s.heap.objs.size + 1 + 1
    · subst c0
      rw [beq_self_eq_true] at e
      cases e
      exact ⟨1, _, rfl, rfl, rfl, rfl⟩
    · rw [beq_eq_false_iff_ne.mpr c0] at e
      dsimp only at e
      rw [List.lookup_cons] at e
      by_cases c1 : b = s.heap.objs.size + 1
      · subst c1
        rw [beq_self_eq_true] at e
        cases e
        exact ⟨0, _, rfl, rfl, rfl, rfl⟩
      · rw [beq_eq_false_iff_ne.mpr c1] at e
        cases e
  refine q _ q3 [f1, f2, f3, f4, f5, f6, f7, f8] (((((((((((((((x1.trans x2).trans x3).trans yr0).trans x4).trans x5).trans yr1).trans yq1).trans x6).trans x7).trans yr2).trans yq2).trans x8).trans yr3).trans yq3).trans (ExtN.of fun b o e => putC_stay ne e)) (tabs_put tq3 ne) (putC_stay ne eq3) (Nat.le_of_ble_eq_true rfl) fun f hf => ?_
  have h01 : s.heap.objs.size + 1 + 1 ≠ s.heap.objs.size + 1 := by omega
  simp only [List.mem_cons, List.not_mem_nil, or_false] at hf
  rcases hf with rfl | rfl | rfl | rfl | rfl | rfl | rfl | rfl
  · exact (L1.ext (((((((((((((x2.trans x3).trans yr0).trans x4).trans x5).trans yr1).trans yq1).trans x6).trans x7).trans yr2).trans yq2).trans x8).trans yr3).trans yq3)).work ne rfl h01 (lamSE_by (N := ["_law_tree_here", "_law_program_here"]) (b := none) (by kernel_rfl)) (fun A outer s H E hr2 => (pe_callS G_placesX (hr2.mono (by omega)) (by rfl) T.g_places T.kp_places T.b_places (fun σ => passAt (takes_of rfl rfl rfl rfl) σ) (pa_cons (pv 1) (pa_cons (pv 0) pa_nil)))) (fun E H' Q ⟨pr, hpr, hok, ht, hE⟩ => ⟨_, rfl, _, rfl, v, t, pr, [], rfl, rfl, hpr, hok, ht, hE⟩)
  · exact (L2.ext ((((((((((((x3.trans yr0).trans x4).trans x5).trans yr1).trans yq1).trans x6).trans x7).trans yr2).trans yq2).trans x8).trans yr3).trans yq3)).work ne rfl h01 (lamSE_by (N := ["_law_tree_here", "_law_program_here"]) (b := some "_law_a") (by kernel_rfl)) (fun A outer s H E hr2 => (pe_callS G_wantedX (hr2.mono (by omega)) (by rfl) T.g_wanted T.kp_wanted T.b_wanted (fun σ => passAt (takes_of rfl rfl rfl rfl) σ) (pa_cons (pv 1) (pa_cons (pv 0) pa_nil)))) (fun E H' Q ⟨pr, hpr, hok, ht, hE⟩ => ⟨_, rfl, _, rfl, v, t, pr, [], rfl, rfl, hpr, hok, ht, hE⟩)
  · exact (L3.ext (((((((((((yr0.trans x4).trans x5).trans yr1).trans yq1).trans x6).trans x7).trans yr2).trans yq2).trans x8).trans yr3).trans yq3)).work ne rfl h01 (lamSE_by (N := ["_law_tree_here", "_law_program_here"]) (b := some "_law_b") (by kernel_rfl)) (fun A outer s H E hr2 => (pe_callS G_way_downX (hr2.mono (by omega)) (by rfl) T.g_way_down T.kp_way_down T.b_way_down (fun σ => passAt (takes_of rfl rfl rfl rfl) σ) (pa_cons (pv 1) (pa_cons (pv 0) (pa_cons (pe_un un_neg pe_int) pa_nil))))) (fun E H' Q ⟨pr, hpr, hok, ht, hE⟩ => ⟨_, rfl, _, rfl, _, rfl, v, t, pr, [.int (-1)], rfl, rfl, hpr, hok, ht, hE⟩)
  · exact (L4.ext (((((((((x5.trans yr1).trans yq1).trans x6).trans x7).trans yr2).trans yq2).trans x8).trans yr3).trans yq3)).work ne rfl h01 (lamSE_by (N := ["_law_tree_here", "_law_program_here"]) (b := some "_law_c") (by kernel_rfl)) (fun A outer s H E hr2 => (Ov.pe_makeS T.k_Hall G_HALL (hr2.mono (by omega)) (by rfl) T.g_Hall T.b_Hall_init (fun σ => passAt (takes_of rfl rfl rfl rfl) σ) (pa_cons (pv 1) (pa_cons (pv 0) (pa_cons pe_int pa_nil))))) (fun E H' Q ⟨pr, hpr, hok, ht, hE⟩ => ⟨_, rfl, _, rfl, fun x dx hx hdx ne2 => ⟨_, _, rfl, v, t, pr, [.int 0], rfl, rfl, hpr.keep (Keep.same (hallS hx hdx ne2.symm)), hok, ht.keep (Keep.same (hallS hx hdx ne2.symm)), hE.same (hallS hx hdx ne2.symm)⟩⟩)
  · exact (L5.ext ((((((((yr1.trans yq1).trans x6).trans x7).trans yr2).trans yq2).trans x8).trans yr3).trans yq3)).work ne rfl h01 (lamSE_by (N := ["_law_tree_here", "_law_program_here"]) (b := some "_law_e") (by kernel_rfl)) (fun A outer s H E hr2 => (pe_callS G_run_inT (hr2.mono (by omega)) (by rfl) T.g_run_in T.kp_run_in T.b_run_in (fun σ => passAt (takes_of rfl rfl rfl rfl) σ) (pa_cons (pv 1) (pa_cons (pv 0) (pa_cons pe_int (pa_cons (pe_un un_neg pe_int) pa_nil)))))) (fun E H' Q ⟨pr, hpr, hok, ht, hE⟩ => ⟨_, rfl, _, rfl, _, rfl, v, t, pr, [.int 0, .int (-1)], rfl, rfl, hpr, hok, ht, hE⟩)
  · exact (L6.ext (((((x7.trans yr2).trans yq2).trans x8).trans yr3).trans yq3)).work ne rfl h01 (lamSE_by (N := ["_law_tree_here", "_law_program_here"]) (b := some "_law_f") (by kernel_rfl)) (fun A outer s H E hr2 => (pe_callS G_run_withT (hr2.mono (by omega)) (by rfl) T.g_run_with T.kp_run_with T.b_run_with (fun σ => passAt (takes_of rfl rfl rfl rfl) σ) (pa_cons (pv 1) (pa_cons (pv 0) (pa_cons pe_int (pa_cons (pe_lst (pa_cons (pe_tup pa_nil) pa_nil)) (pa_cons (pe_lst pa_nil) (pa_cons (pe_un un_neg pe_int) pa_nil)))))))) (fun E H' Q ⟨pr, hpr, hok, ht, hE⟩ => ⟨_, rfl, _, rfl, sml 0, fun a1 h1 => ⟨sml 1, fun a2 h2 => ⟨sml 0, fun a3 h3 => ⟨_, rfl, v, t, pr, [.int 0, .ref a2, .ref a3, .int (-1)], rfl, rfl, hpr.keep (Keep.same (((Same.new h1).trans (Same.new h2)).trans (Same.new h3))), hok, ht.keep (Keep.same (((Same.new h1).trans (Same.new h2)).trans (Same.new h3))), hE.same (((Same.new h1).trans (Same.new h2)).trans (Same.new h3))⟩⟩⟩⟩)
  · exact (L7.ext ((((yr2.trans yq2).trans x8).trans yr3).trans yq3)).work ne rfl h01 (lamSE_by (N := ["_law_tree_here", "_law_program_here"]) (b := some "_law_g") (by kernel_rfl)) (fun A outer s H E hr2 => (pe_callS G_shortsX (hr2.mono (by omega)) (by rfl) T.g_shorts T.kp_shorts T.b_shorts (fun σ => passAt (takes_of rfl rfl rfl rfl) σ) (pa_cons (pv 1) (pa_cons (pv 0) (pa_cons (pe_tup pa_nil) pa_nil))))) (fun E H' Q ⟨pr, hpr, hok, ht, hE⟩ => ⟨_, rfl, _, rfl, sml 0, fun a1 h1 => ⟨v, t, pr, [.ref a1], rfl, rfl, hpr.keep (Keep.same (Same.new h1)), hok, ht.keep (Keep.same (Same.new h1)), hE.same (Same.new h1)⟩⟩)
  · exact (L8.ext (yr3.trans yq3)).work ne rfl h01 (lamSE_by (N := ["_law_tree_here", "_law_program_here"]) (b := some "_law_i") (by kernel_rfl)) (fun A outer s H E hr2 => (pe_callS G_costX (hr2.mono (by omega)) (by rfl) T.g_cost T.kp_cost T.b_cost (fun σ => passAt (takes_of rfl rfl rfl rfl) σ) (pa_cons (pv 1) (pa_cons (pv 0) (pa_cons (pe_lst pa_nil) pa_nil))))) (fun E H' Q ⟨pr, hpr, hok, ht, hE⟩ => ⟨_, rfl, _, rfl, sml 0, fun a1 h1 => ⟨v, t, pr, [.ref a1], rfl, rfl, hpr.keep (Keep.same (Same.new h1)), hok, ht.keep (Keep.same (Same.new h1)), hE.same (Same.new h1)⟩⟩)
end
end K03

namespace K03
open PySem PySem.Spec PyProof.Rows L2 Ov LamX
theorem sc_law_kind : FnScope ["_law_work", "_law_e", "_law_kinds", "_law_words_here"] ["_law_work"] (defScope s_law_kind) := ⟨rfl, rfl, rfl, by decide +kernel, rfl, by decide +kernel, by decide +kernel⟩
theorem kind_gives_BadTree {X : Cx} {cdv : Value} {q : Str} (T : Txt X.w X.K X.mg) : GivesTo X ["_law_work", "_law_e", "_law_kinds", "_law_words_here"] "_law_kind" (defScope s_law_kind) (He.ga X.K "_law_kind") cdv (defBody s_law_kind) "_law_work" q (TKind X.K "BadTree") := by
  intro f c' s H Q tl act hc h
  obtain ⟨CE, ck⟩ := excKB_ok T.kx_BadTree
  refine ⟨_, pss_cons (ps_try_as (X := (cxOf C8.CX0 X.prog X.w X.K X.mg X.base ["_law_work", "_law_e", "_law_kinds", "_law_words_here"] "_law_kind" (defScope s_law_kind) (He.ga X.K "_law_kind") cdv X.A X.stack s H C8.E0).nox) (c := .ref (He.ga X.K "HallError"))
      (tb := fun W D σ H => ∃ Ech : XK, (∀ cls d (σ' : L2.St) H', σ'.length = 4 → Ech cls d H' → W cls d σ' H') ∧ σ[0]? = some (some (.ref f)) ∧ H c' = some (CodeO c' q) ∧ tl Ech H fun _ H' => D.nx σ H')
      (i := 1) rfl rfl sc_law_kind.nd rfl rfl ⟨rfl, by decide, .inl T.g_HallError⟩ L2.takes0 (fun W pn xe tk _ => ?_) (fun a oe cls d pn hz hf => (pss_cons (ps_set (i := 2) sc_law_kind.nd rfl (by first | exact Or.inl rfl | exact Or.inr rfl) (pe_lst (pa_cons (pe_callB (r := rIsC X.K (He.ga X.K "BadTree") a cls d) (call_isC CE hz hf) (by rfl) T.z_isinstance (by decide +kernel) (pa_cons (pv 1) (pa_cons (pe_glob (v := .ref (He.ga X.K "BadProgram")) (by rfl) T.g_BadProgram rfl) pa_nil))) (pa_cons (pe_callB (r := rIsC X.K (He.ga X.K "BadTree") a cls d) (call_isC CE hz hf) (by rfl) T.z_isinstance (by decide +kernel) (pa_cons (pv 1) (pa_cons (pe_glob (v := .ref (He.ga X.K "BadNumber")) (by rfl) T.g_BadNumber rfl) pa_nil))) (pa_cons (pe_callB (r := rIsC X.K (He.ga X.K "BadTree") a cls d) (call_isC CE hz hf) (by rfl) T.z_isinstance (by decide +kernel) (pa_cons (pv 1) (pa_cons (pe_glob (v := .ref (He.ga X.K "BadTree")) (by rfl) T.g_BadTree rfl) pa_nil))) (pa_cons (pe_callB (r := rIsC X.K (He.ga X.K "BadTree") a cls d) (call_isC CE hz hf) (by rfl) T.z_isinstance (by decide +kernel) (pa_cons (pv 1) (pa_cons (pe_glob (v := .ref (He.ga X.K "BadRoom")) (by rfl) T.g_BadRoom rfl) pa_nil))) pa_nil))))))
      (pss_cons (ps_set (i := 2) sc_law_kind.nd rfl (by first | exact Or.inl rfl | exact Or.inr rfl) (pe_op op_cat (pv 2) (pe_lst (pa_cons (pe_callB (r := rIsC X.K (He.ga X.K "BadTree") a cls d) (call_isC CE hz hf) (by rfl) T.z_isinstance (by decide +kernel) (pa_cons (pv 1) (pa_cons (pe_glob (v := .ref (He.ga X.K "BadFunction")) (by rfl) T.g_BadFunction rfl) pa_nil))) (pa_cons (pe_callB (r := rIsC X.K (He.ga X.K "BadTree") a cls d) (call_isC CE hz hf) (by rfl) T.z_isinstance (by decide +kernel) (pa_cons (pv 1) (pa_cons (pe_glob (v := .ref (He.ga X.K "BadPaper")) (by rfl) T.g_BadPaper rfl) pa_nil))) (pa_cons (pe_callB (r := rIsC X.K (He.ga X.K "BadTree") a cls d) (call_isC CE hz hf) (by rfl) T.z_isinstance (by decide +kernel) (pa_cons (pv 1) (pa_cons (pe_glob (v := .ref (He.ga X.K "NotShown")) (by rfl) T.g_NotShown rfl) pa_nil))) pa_nil))))))
      (pss_cons (ps_set (i := 2) sc_law_kind.nd rfl (by first | exact Or.inl rfl | exact Or.inr rfl) (pe_op op_cat (pv 2) (pe_lst (pa_cons (pe_callB (r := rIsC X.K (He.ga X.K "BadTree") a cls d) (call_isC CE hz hf) (by rfl) T.z_isinstance (by decide +kernel) (pa_cons (pv 1) (pa_cons (pe_glob (v := .ref (He.ga X.K "BadPlace")) (by rfl) T.g_BadPlace rfl) pa_nil))) (pa_cons (pe_callB (r := rIsC X.K (He.ga X.K "BadTree") a cls d) (call_isC CE hz hf) (by rfl) T.z_isinstance (by decide +kernel) (pa_cons (pv 1) (pa_cons (pe_glob (v := .ref (He.ga X.K "BadTrace")) (by rfl) T.g_BadTrace rfl) pa_nil))) (pa_cons (pe_callB (r := rIsC X.K (He.ga X.K "BadTree") a cls d) (call_isC CE hz hf) (by rfl) T.z_isinstance (by decide +kernel) (pa_cons (pv 1) (pa_cons (pe_glob (v := .ref (He.ga X.K "TooMany")) (by rfl) T.g_TooMany rfl) pa_nil))) pa_nil))))))
      (pss_cons (ps_expr (Ov.pe_bmK (K := X.K) rfl PySem.F.plainAttrs_list PySem.F.slot_list_append PySem.F.type_list_append mt_append (pv 2) (pa_cons (pe_callB (r := rIsC X.K (He.ga X.K "BadTree") a cls d) (call_isC CE hz hf) (by rfl) T.z_isinstance (by decide +kernel) (pa_cons (pv 1) (pa_cons (pe_glob (v := .ref (He.ga X.K "BadText")) (by rfl) T.g_BadText rfl) pa_nil))) pa_nil)))
      (pss_cons (ps_if (PW.pt (pw_or (pt_cmpR op_ne (Ov.pe_bmK (K := X.K) rfl PySem.F.plainAttrs_list PySem.F.slot_list_count PySem.F.type_list_count (r := rCntV X.K) Ov.mt_count (pv 2) (pa_cons pe_bl pa_nil)) pe_int (nomark _)) (pw_or1 (pt_not (pt_val (pe_callB (r := rIsC X.K (He.ga X.K "BadTree") a cls d) (call_isC CE hz hf) (by rfl) T.z_isinstance (by decide +kernel) (pa_cons (pv 1) (pa_cons (pe_bltn (v := .ty "ValueError") (by rfl) T.z_ValueError (by decide +kernel) rfl) pa_nil)))))))) (pss_one (ps_ret pe_str)) pss_nil)
      (pss_cons (ps_if (PW.pt (pw_or (pt_val (pe_ix (r := rIxL X.K) ix_list (pv 2) pe_int (fun _ _ => rfl))) (pw_or1 (pt_val (pe_ix (r := rIxL X.K) ix_list (pv 2) pe_int (fun _ _ => rfl)))))) (pss_one ps_never) pss_nil)
      (pss_cons (ps_set (i := 3) sc_law_kind.nd rfl (by first | exact Or.inl rfl | exact Or.inr rfl) (pe_lst (pa_cons pe_str (pa_cons pe_str (pa_cons pe_str (pa_cons pe_str (pa_cons pe_str (pa_cons pe_str (pa_cons pe_str (pa_cons pe_str (pa_cons pe_str pa_nil)))))))))))
      (pss_one (ps_ret (pe_ix (r := rIxL X.K) ix_list (pe_op op_cat (pv 3) (pe_lst (pa_cons pe_str pa_nil))) (Ov.pe_bmK (K := X.K) rfl PySem.F.plainAttrs_list PySem.F.slot_list_index PySem.F.type_list_index (r := rIndex X.K) mt_index (pv 2) (pa_cons pe_bl pa_nil)) (fun _ _ => rfl))))))))))))) (pss_one (ps_ret pe_str)), ?_⟩
  · refine ⟨fun pins s' σ H' D I h' => ?_⟩
    obtain ⟨Ech, hW, h1, h2, h3⟩ := h'
    exact (pss_one (ps_expr (act (fun cls d _ H' => Ech cls d H') pn xe Ech _ _ (takes_len tk fun c d σ' H' e z => hW c d σ' H' e z) (fun _ _ _ _ z => z)))).run pins s' σ H' D I ⟨h1, h2, h3⟩
  · refine ⟨_, fun cls d σ' H' hl ⟨e1, e2, q⟩ => ⟨true, by rw [e1]; exact T.e_BadTree_HallError, fun _ a ha => ?_, fun z => nomatch z⟩, rfl, hc, h⟩
    subst e1 e2
    obtain ⟨z0, z1, z2, z3, rfl⟩ : ∃ z0 z1 z2 z3, σ' = [z0, z1, z2, z3] := by
      match σ', hl with
      | [z0, z1, z2, z3], _ => exact ⟨z0, z1, z2, z3, rfl⟩
    have k := fun v b (hm : (Value.ref v, b) ∈ _) => ck (Value.ref v, b) hm
    have is : ∀ {n : Str} {b : Bool} {H : Hp} {Q : VK}, PySem.W.kitOne X.K (.ref (He.ga X.K "BadTree")) (.ref (He.ga X.K n)) = some b → Q (.bl b) H → rIsC X.K (He.ga X.K "BadTree") a (.ref (He.ga X.K "BadTree")) none [.ref a, .ref (He.ga X.K n)] H Q := fun {n b H Q} e q => ⟨rfl, rfl, _, _, b, rfl, fun u hu => hu, e, q⟩
    have ka := ck _ (.head _)
    have kb := ck _ (.tail _ (.head _))
    have kc := ck _ (.tail _ (.tail _ (.head _)))
    have kd := ck _ (.tail _ (.tail _ (.tail _ (.head _))))
    have ke := ck _ (.tail _ (.tail _ (.tail _ (.tail _ (.head _)))))
    have kf := ck _ (.tail _ (.tail _ (.tail _ (.tail _ (.tail _ (.head _))))))
    have kg := ck _ (.tail _ (.tail _ (.tail _ (.tail _ (.tail _ (.tail _ (.head _)))))))
    have kh := ck _ (.tail _ (.tail _ (.tail _ (.tail _ (.tail _ (.tail _ (.tail _ (.head _))))))))
    have ki := ck _ (.tail _ (.tail _ (.tail _ (.tail _ (.tail _ (.tail _ (.tail _ (.tail _ (.head _)))))))))
    have kj := ck _ (.tail _ (.tail _ (.tail _ (.tail _ (.tail _ (.tail _ (.tail _ (.tail _ (.tail _ (.head _))))))))))
    have kk := ck _ (.tail _ (.tail _ (.tail _ (.tail _ (.tail _ (.tail _ (.tail _ (.tail _ (.tail _ (.tail _ (.head _)))))))))))
    have kv := ck _ (.tail _ (.tail _ (.tail _ (.tail _ (.tail _ (.tail _ (.tail _ (.tail _ (.tail _ (.tail _ (.tail _ (.head _))))))))))))
    clear k
    refine ⟨_, rfl, is ka ⟨_, rfl, is kb ⟨_, rfl, is kc ⟨_, rfl, is kd ⟨sml 4, fun p1 g1 => ?_⟩⟩⟩⟩⟩
    have s1 := Same.new (o := .lst [.bl false, .bl false, .bl true, .bl false]) g1
    refine ⟨_, rfl, _, rfl, is ke ⟨_, rfl, is kf ⟨_, rfl, is kg ⟨sml 3, fun p2 g2 => ?_⟩⟩⟩⟩
    have s2 := Same.new (o := .lst [.bl false, .bl false, .bl false]) g2
    refine ⟨p1, p2, _, _, rfl, rfl, s2 _ _ upd_same, upd_same, sml 7, fun p3 g3 => ?_⟩
    have s3 := Same.new (o := .lst ([.bl false, .bl false, .bl true, .bl false] ++ [.bl false, .bl false, .bl false])) g3
    refine ⟨_, rfl, _, rfl, is kh ⟨_, rfl, is ki ⟨_, rfl, is kj ⟨sml 3, fun p4 g4 => ?_⟩⟩⟩⟩
    have s4 := Same.new (o := .lst [.bl false, .bl false, .bl false]) g4
    refine ⟨p3, p4, _, _, rfl, rfl, s4 _ _ upd_same, upd_same, sml 10, fun p5 g5 => ?_⟩
    have s5 := ((s1.trans s2).trans s3).trans (s4.trans (Same.new (o := .lst ([.bl false, .bl false, .bl true, .bl false] ++ [.bl false, .bl false, .bl false] ++ [.bl false, .bl false, .bl false])) g5))
    have n5 : H' p5 = none := Same.free (((s1.trans s2).trans s3).trans s4) g5
    refine ⟨_, rfl, .inl ⟨rfl, _, SqL.of upd_same⟩, _, rfl, is kk ⟨p5, _, _, rfl, rfl, upd_same, sml 11, ?_⟩⟩
    refine ⟨_, rfl, .inl ⟨rfl, _, SqL.of upd_same⟩, _, _, _, rfl, rfl, SqL.of upd_same, rfl, rfl, ?_⟩
    refine ⟨rfl, _, rfl, iteF ?_⟩
    refine ⟨_, rfl, ⟨rfl, rfl, _, _, true, rfl, fun u hu => hu, kv, _, rfl, ?_⟩⟩
    refine iteF ⟨_, rfl, p5, _, 0, .bl false, rfl, rfl, SqL.of upd_same, rfl, _, rfl, iteF ⟨_, rfl, p5, _, 10, .bl false, rfl, rfl, SqL.of upd_same, rfl, _, rfl, iteF ?_⟩⟩
    refine ⟨sml 9, fun p6 g6 => ?_⟩
    have s6 := Same.new (o := .lst [.str "", .str "BadNumber", .str "BadTree", .str "BadRoom", .str "BadFunction", .str "BadPaper", .str "NotShown", .str "BadPlace", .str "BadTrace"]) g6
    refine ⟨_, rfl, sml 1, fun p7 g7 => ?_⟩
    have s7 := Same.new (o := .lst [.str "TooMany"]) g7
    refine ⟨p6, p7, _, _, rfl, rfl, s7 _ _ upd_same, upd_same, sml 10, fun p8 g8 => ?_⟩
    have s8 := Same.new (o := .lst ([.str "", .str "BadNumber", .str "BadTree", .str "BadRoom", .str "BadFunction", .str "BadPaper", .str "NotShown", .str "BadPlace", .str "BadTrace"] ++ [.str "TooMany"])) g8
    have e8 := s8 _ _ (s7 _ _ (s6 p5 _ upd_same))
    refine ⟨_, rfl, .inl ⟨rfl, _, SqL.of e8⟩, p5, _, _, 2, .bl true, rfl, rfl, SqL.of e8, rfl, rfl, rfl, rfl, fun m z' hm hz => ?_, ?_⟩
    · rcases (by omega : m = 0 ∨ m = 1) with rfl | rfl <;>
      · cases hz
        rfl
    refine ⟨p8, _, 2, _, rfl, rfl, SqL.of upd_same, rfl, q _ fun b o e => ?_⟩
    refine s8 _ _ (s7 _ _ (s6 _ _ ?_))
    rw [upd_ne (ne_of_none e n5)]
    exact s5 _ _ e
end K03

namespace K03
open PySem PySem.Spec PyProof.Rows L2 Ov LamX
theorem kind_gives_BadFunction {X : Cx} {cdv : Value} {q : Str} (T : Txt X.w X.K X.mg) : GivesTo X ["_law_work", "_law_e", "_law_kinds", "_law_words_here"] "_law_kind" (defScope s_law_kind) (He.ga X.K "_law_kind") cdv (defBody s_law_kind) "_law_work" q (TKind X.K "BadFunction") := by
  intro f c' s H Q tl act hc h
  obtain ⟨CE, ck⟩ := excKB_ok T.kx_BadFunction
  refine ⟨_, pss_cons (ps_try_as (X := (cxOf C8.CX0 X.prog X.w X.K X.mg X.base ["_law_work", "_law_e", "_law_kinds", "_law_words_here"] "_law_kind" (defScope s_law_kind) (He.ga X.K "_law_kind") cdv X.A X.stack s H C8.E0).nox) (c := .ref (He.ga X.K "HallError"))
      (tb := fun W D σ H => ∃ Ech : XK, (∀ cls d (σ' : L2.St) H', σ'.length = 4 → Ech cls d H' → W cls d σ' H') ∧ σ[0]? = some (some (.ref f)) ∧ H c' = some (CodeO c' q) ∧ tl Ech H fun _ H' => D.nx σ H')
      (i := 1) rfl rfl sc_law_kind.nd rfl rfl ⟨rfl, by decide, .inl T.g_HallError⟩ L2.takes0 (fun W pn xe tk _ => ?_) (fun a oe cls d pn hz hf => (pss_cons (ps_set (i := 2) sc_law_kind.nd rfl (by first | exact Or.inl rfl | exact Or.inr rfl) (pe_lst (pa_cons (pe_callB (r := rIsC X.K (He.ga X.K "BadFunction") a cls d) (call_isC CE hz hf) (by rfl) T.z_isinstance (by decide +kernel) (pa_cons (pv 1) (pa_cons (pe_glob (v := .ref (He.ga X.K "BadProgram")) (by rfl) T.g_BadProgram rfl) pa_nil))) (pa_cons (pe_callB (r := rIsC X.K (He.ga X.K "BadFunction") a cls d) (call_isC CE hz hf) (by rfl) T.z_isinstance (by decide +kernel) (pa_cons (pv 1) (pa_cons (pe_glob (v := .ref (He.ga X.K "BadNumber")) (by rfl) T.g_BadNumber rfl) pa_nil))) (pa_cons (pe_callB (r := rIsC X.K (He.ga X.K "BadFunction") a cls d) (call_isC CE hz hf) (by rfl) T.z_isinstance (by decide +kernel) (pa_cons (pv 1) (pa_cons (pe_glob (v := .ref (He.ga X.K "BadTree")) (by rfl) T.g_BadTree rfl) pa_nil))) (pa_cons (pe_callB (r := rIsC X.K (He.ga X.K "BadFunction") a cls d) (call_isC CE hz hf) (by rfl) T.z_isinstance (by decide +kernel) (pa_cons (pv 1) (pa_cons (pe_glob (v := .ref (He.ga X.K "BadRoom")) (by rfl) T.g_BadRoom rfl) pa_nil))) pa_nil))))))
      (pss_cons (ps_set (i := 2) sc_law_kind.nd rfl (by first | exact Or.inl rfl | exact Or.inr rfl) (pe_op op_cat (pv 2) (pe_lst (pa_cons (pe_callB (r := rIsC X.K (He.ga X.K "BadFunction") a cls d) (call_isC CE hz hf) (by rfl) T.z_isinstance (by decide +kernel) (pa_cons (pv 1) (pa_cons (pe_glob (v := .ref (He.ga X.K "BadFunction")) (by rfl) T.g_BadFunction rfl) pa_nil))) (pa_cons (pe_callB (r := rIsC X.K (He.ga X.K "BadFunction") a cls d) (call_isC CE hz hf) (by rfl) T.z_isinstance (by decide +kernel) (pa_cons (pv 1) (pa_cons (pe_glob (v := .ref (He.ga X.K "BadPaper")) (by rfl) T.g_BadPaper rfl) pa_nil))) (pa_cons (pe_callB (r := rIsC X.K (He.ga X.K "BadFunction") a cls d) (call_isC CE hz hf) (by rfl) T.z_isinstance (by decide +kernel) (pa_cons (pv 1) (pa_cons (pe_glob (v := .ref (He.ga X.K "NotShown")) (by rfl) T.g_NotShown rfl) pa_nil))) pa_nil))))))
      (pss_cons (ps_set (i := 2) sc_law_kind.nd rfl (by first | exact Or.inl rfl | exact Or.inr rfl) (pe_op op_cat (pv 2) (pe_lst (pa_cons (pe_callB (r := rIsC X.K (He.ga X.K "BadFunction") a cls d) (call_isC CE hz hf) (by rfl) T.z_isinstance (by decide +kernel) (pa_cons (pv 1) (pa_cons (pe_glob (v := .ref (He.ga X.K "BadPlace")) (by rfl) T.g_BadPlace rfl) pa_nil))) (pa_cons (pe_callB (r := rIsC X.K (He.ga X.K "BadFunction") a cls d) (call_isC CE hz hf) (by rfl) T.z_isinstance (by decide +kernel) (pa_cons (pv 1) (pa_cons (pe_glob (v := .ref (He.ga X.K "BadTrace")) (by rfl) T.g_BadTrace rfl) pa_nil))) (pa_cons (pe_callB (r := rIsC X.K (He.ga X.K "BadFunction") a cls d) (call_isC CE hz hf) (by rfl) T.z_isinstance (by decide +kernel) (pa_cons (pv 1) (pa_cons (pe_glob (v := .ref (He.ga X.K "TooMany")) (by rfl) T.g_TooMany rfl) pa_nil))) pa_nil))))))
      (pss_cons (ps_expr (Ov.pe_bmK (K := X.K) rfl PySem.F.plainAttrs_list PySem.F.slot_list_append PySem.F.type_list_append mt_append (pv 2) (pa_cons (pe_callB (r := rIsC X.K (He.ga X.K "BadFunction") a cls d) (call_isC CE hz hf) (by rfl) T.z_isinstance (by decide +kernel) (pa_cons (pv 1) (pa_cons (pe_glob (v := .ref (He.ga X.K "BadText")) (by rfl) T.g_BadText rfl) pa_nil))) pa_nil)))
      (pss_cons (ps_if (PW.pt (pw_or (pt_cmpR op_ne (Ov.pe_bmK (K := X.K) rfl PySem.F.plainAttrs_list PySem.F.slot_list_count PySem.F.type_list_count (r := rCntV X.K) Ov.mt_count (pv 2) (pa_cons pe_bl pa_nil)) pe_int (nomark _)) (pw_or1 (pt_not (pt_val (pe_callB (r := rIsC X.K (He.ga X.K "BadFunction") a cls d) (call_isC CE hz hf) (by rfl) T.z_isinstance (by decide +kernel) (pa_cons (pv 1) (pa_cons (pe_bltn (v := .ty "ValueError") (by rfl) T.z_ValueError (by decide +kernel) rfl) pa_nil)))))))) (pss_one (ps_ret pe_str)) pss_nil)
      (pss_cons (ps_if (PW.pt (pw_or (pt_val (pe_ix (r := rIxL X.K) ix_list (pv 2) pe_int (fun _ _ => rfl))) (pw_or1 (pt_val (pe_ix (r := rIxL X.K) ix_list (pv 2) pe_int (fun _ _ => rfl)))))) (pss_one ps_never) pss_nil)
      (pss_cons (ps_set (i := 3) sc_law_kind.nd rfl (by first | exact Or.inl rfl | exact Or.inr rfl) (pe_lst (pa_cons pe_str (pa_cons pe_str (pa_cons pe_str (pa_cons pe_str (pa_cons pe_str (pa_cons pe_str (pa_cons pe_str (pa_cons pe_str (pa_cons pe_str pa_nil)))))))))))
      (pss_one (ps_ret (pe_ix (r := rIxL X.K) ix_list (pe_op op_cat (pv 3) (pe_lst (pa_cons pe_str pa_nil))) (Ov.pe_bmK (K := X.K) rfl PySem.F.plainAttrs_list PySem.F.slot_list_index PySem.F.type_list_index (r := rIndex X.K) mt_index (pv 2) (pa_cons pe_bl pa_nil)) (fun _ _ => rfl))))))))))))) (pss_one (ps_ret pe_str)), ?_⟩
  · refine ⟨fun pins s' σ H' D I h' => ?_⟩
    obtain ⟨Ech, hW, h1, h2, h3⟩ := h'
    exact (pss_one (ps_expr (act (fun cls d _ H' => Ech cls d H') pn xe Ech _ _ (takes_len tk fun c d σ' H' e z => hW c d σ' H' e z) (fun _ _ _ _ z => z)))).run pins s' σ H' D I ⟨h1, h2, h3⟩
  · refine ⟨_, fun cls d σ' H' hl ⟨e1, e2, q⟩ => ⟨true, by rw [e1]; exact T.e_BadFunction_HallError, fun _ a ha => ?_, fun z => nomatch z⟩, rfl, hc, h⟩
    subst e1 e2
    obtain ⟨z0, z1, z2, z3, rfl⟩ : ∃ z0 z1 z2 z3, σ' = [z0, z1, z2, z3] := by
      match σ', hl with
      | [z0, z1, z2, z3], _ => exact ⟨z0, z1, z2, z3, rfl⟩
    have k := fun v b (hm : (Value.ref v, b) ∈ _) => ck (Value.ref v, b) hm
    have is : ∀ {n : Str} {b : Bool} {H : Hp} {Q : VK}, PySem.W.kitOne X.K (.ref (He.ga X.K "BadFunction")) (.ref (He.ga X.K n)) = some b → Q (.bl b) H → rIsC X.K (He.ga X.K "BadFunction") a (.ref (He.ga X.K "BadFunction")) none [.ref a, .ref (He.ga X.K n)] H Q := fun {n b H Q} e q => ⟨rfl, rfl, _, _, b, rfl, fun u hu => hu, e, q⟩
    have ka := ck _ (.head _)
    have kb := ck _ (.tail _ (.head _))
    have kc := ck _ (.tail _ (.tail _ (.head _)))
    have kd := ck _ (.tail _ (.tail _ (.tail _ (.head _))))
    have ke := ck _ (.tail _ (.tail _ (.tail _ (.tail _ (.head _)))))
    have kf := ck _ (.tail _ (.tail _ (.tail _ (.tail _ (.tail _ (.head _))))))
    have kg := ck _ (.tail _ (.tail _ (.tail _ (.tail _ (.tail _ (.tail _ (.head _)))))))
    have kh := ck _ (.tail _ (.tail _ (.tail _ (.tail _ (.tail _ (.tail _ (.tail _ (.head _))))))))
    have ki := ck _ (.tail _ (.tail _ (.tail _ (.tail _ (.tail _ (.tail _ (.tail _ (.tail _ (.head _)))))))))
    have kj := ck _ (.tail _ (.tail _ (.tail _ (.tail _ (.tail _ (.tail _ (.tail _ (.tail _ (.tail _ (.head _))))))))))
    have kk := ck _ (.tail _ (.tail _ (.tail _ (.tail _ (.tail _ (.tail _ (.tail _ (.tail _ (.tail _ (.tail _ (.head _)))))))))))
    have kv := ck _ (.tail _ (.tail _ (.tail _ (.tail _ (.tail _ (.tail _ (.tail _ (.tail _ (.tail _ (.tail _ (.tail _ (.head _))))))))))))
    clear k
    refine ⟨_, rfl, is ka ⟨_, rfl, is kb ⟨_, rfl, is kc ⟨_, rfl, is kd ⟨sml 4, fun p1 g1 => ?_⟩⟩⟩⟩⟩
    have s1 := Same.new (o := .lst [.bl false, .bl false, .bl false, .bl false]) g1
    refine ⟨_, rfl, _, rfl, is ke ⟨_, rfl, is kf ⟨_, rfl, is kg ⟨sml 3, fun p2 g2 => ?_⟩⟩⟩⟩
    have s2 := Same.new (o := .lst [.bl true, .bl false, .bl false]) g2
    refine ⟨p1, p2, _, _, rfl, rfl, s2 _ _ upd_same, upd_same, sml 7, fun p3 g3 => ?_⟩
    have s3 := Same.new (o := .lst ([.bl false, .bl false, .bl false, .bl false] ++ [.bl true, .bl false, .bl false])) g3
    refine ⟨_, rfl, _, rfl, is kh ⟨_, rfl, is ki ⟨_, rfl, is kj ⟨sml 3, fun p4 g4 => ?_⟩⟩⟩⟩
    have s4 := Same.new (o := .lst [.bl false, .bl false, .bl false]) g4
    refine ⟨p3, p4, _, _, rfl, rfl, s4 _ _ upd_same, upd_same, sml 10, fun p5 g5 => ?_⟩
    have s5 := ((s1.trans s2).trans s3).trans (s4.trans (Same.new (o := .lst ([.bl false, .bl false, .bl false, .bl false] ++ [.bl true, .bl false, .bl false] ++ [.bl false, .bl false, .bl false])) g5))
    have n5 : H' p5 = none := Same.free (((s1.trans s2).trans s3).trans s4) g5
    refine ⟨_, rfl, .inl ⟨rfl, _, SqL.of upd_same⟩, _, rfl, is kk ⟨p5, _, _, rfl, rfl, upd_same, sml 11, ?_⟩⟩
    refine ⟨_, rfl, .inl ⟨rfl, _, SqL.of upd_same⟩, _, _, _, rfl, rfl, SqL.of upd_same, rfl, rfl, ?_⟩
    refine ⟨rfl, _, rfl, iteF ?_⟩
    refine ⟨_, rfl, ⟨rfl, rfl, _, _, true, rfl, fun u hu => hu, kv, _, rfl, ?_⟩⟩
    refine iteF ⟨_, rfl, p5, _, 0, .bl false, rfl, rfl, SqL.of upd_same, rfl, _, rfl, iteF ⟨_, rfl, p5, _, 10, .bl false, rfl, rfl, SqL.of upd_same, rfl, _, rfl, iteF ?_⟩⟩
    refine ⟨sml 9, fun p6 g6 => ?_⟩
    have s6 := Same.new (o := .lst [.str "", .str "BadNumber", .str "BadTree", .str "BadRoom", .str "BadFunction", .str "BadPaper", .str "NotShown", .str "BadPlace", .str "BadTrace"]) g6
    refine ⟨_, rfl, sml 1, fun p7 g7 => ?_⟩
    have s7 := Same.new (o := .lst [.str "TooMany"]) g7
    refine ⟨p6, p7, _, _, rfl, rfl, s7 _ _ upd_same, upd_same, sml 10, fun p8 g8 => ?_⟩
    have s8 := Same.new (o := .lst ([.str "", .str "BadNumber", .str "BadTree", .str "BadRoom", .str "BadFunction", .str "BadPaper", .str "NotShown", .str "BadPlace", .str "BadTrace"] ++ [.str "TooMany"])) g8
    have e8 := s8 _ _ (s7 _ _ (s6 p5 _ upd_same))
    refine ⟨_, rfl, .inl ⟨rfl, _, SqL.of e8⟩, p5, _, _, 4, .bl true, rfl, rfl, SqL.of e8, rfl, rfl, rfl, rfl, fun m z' hm hz => ?_, ?_⟩
    · rcases (by omega : m = 0 ∨ m = 1 ∨ m = 2 ∨ m = 3) with rfl | rfl | rfl | rfl <;>
      · cases hz
        rfl
    refine ⟨p8, _, 4, _, rfl, rfl, SqL.of upd_same, rfl, q _ fun b o e => ?_⟩
    refine s8 _ _ (s7 _ _ (s6 _ _ ?_))
    rw [upd_ne (ne_of_none e n5)]
    exact s5 _ _ e
end K03

namespace K03
open PySem PySem.Spec PyProof.Rows L2 Ov LamX
section
variable {P : Program} {w : World} {K : PySem.W.Frag} {mg : Str → Option Value} {base : Heap}
theorem works_ok {i : Nat} {T : List (Addr × Str)} {σ : L2.St} {D : Ends} {H : Hp} {v t : V} {pr : List (Int × W)} (hl : σ.length = 11) (e3 : σ[3]? = some (some v)) (ei : σ[i]? = some (some t)) (hpr : PrAt H v pr) (hok : PrOk pr) (ht : TvAt K H pr.length t false) (t0 : Tabs T H)
    (q : ∀ H', ExtN H H' → Tabs T H' → D.nx σ H') : tIfS (tTest (tOp (rNeD K) (tLc (iList K (tCall (spWorks P w K mg base 111 T) [] E0 (tCons (tVar 3) (tCons (tVar i) tNil)))) (gName 10)
      (tTest (tOp rNe (tCall (spKept P w K mg base 111 (TKind K "BadTree")) [] E0 (tCons (tVar 10) tNil)) (tC (V.str "BadTree")))) (tVar 10) (List.map (fun x => x.snd) [(("_law_work" : Str), 10)])) (tLst tNil))) (tRet (tC (V.bl false))) tNext D σ H := by
  obtain ⟨z0, z1, z2, z3, z4, z5, z6, z7, z8, z9, z10, rfl⟩ : ∃ z0 z1 z2 z3 z4 z5 z6 z7 z8 z9 z10, σ = [z0, z1, z2, z3, z4, z5, z6, z7, z8, z9, z10] := by
    match σ, hl with
    | [z0, z1, z2, z3, z4, z5, z6, z7, z8, z9, z10], _ => exact ⟨z0, z1, z2, z3, z4, z5, z6, z7, z8, z9, z10, rfl⟩
  refine ⟨_, e3, _, ei, v, t, rfl, t0, fun H5 Dl fs x5 t5 e5 l5 w5 => ⟨Dl, rfl, ⟨_, SqL.of e5⟩, fun R hR => ?_⟩⟩
  refine lc_it (walk_list (K := K) (a := Dl) (xs := fs.map V.ref)) (fun j H' => Same H5 H' ∧ H' R = some (.lst [])) ⟨Same.new hR, upd_same⟩ (fun j H' _ z => SqL.of (z.1 _ _ e5)) ?_ ?_
  · rintro j x H6 H6' hj ⟨s6, e6⟩ ⟨rfl, hx⟩
    rw [List.getElem?_map] at hx
    obtain ⟨f, hf, rfl⟩ := Option.map_eq_some_iff.mp hx
    have k6 := (keep_extN x5).trans (Keep.same s6)
    have hw := (w5 f (List.mem_of_getElem? hf)).ext (ExtN.of s6)
    refine ⟨rfl, _, rfl, ?_⟩
    refine work_kind (E := fun _ _ _ => True) hw (hpr.keep k6) hok (ht.keep k6) fun H7 s7 => ?_
    refine ⟨rfl, _, rfl, ?_⟩
    rw [decide_eq_true rfl]
    exact iteF ⟨s6.trans s7, s7 _ _ e6⟩
  · rintro H6 ⟨s6, e6⟩
    refine ⟨sml 0, fun r hr => ?_⟩
    refine ⟨.list (([] : List Int).map PyData.int), .list (([] : List Int).map PyData.int), .lst (xs := ([] : List Int).map V.int) (SqL.of (by rw [upd_ne (ne_of_none e6 hr)]; exact e6)) (dpInts []), .lst (xs := ([] : List Int).map V.int) (SqL.of upd_same) (dpInts []), intsShaped [], intsShaped [], ?_⟩
    refine ⟨_, rfl, ?_⟩
    have s7 := s6.trans (Same.new (o := .lst []) hr)
    exact iteF (q _ (x5.trans (ExtN.of s7)) (tabs_same t5 s7))
theorem ring_ok {T : List (Addr × Str)} {z0 z1 z2 z8 z9 z10 : Option V} {v y4 y5 : V} {qa sa : Addr} {D : Ends} {H : Hp} {pr : List (Int × W)} {ps : List (List Nat)} {st : List Int} (F : TF pr.length ps st) (hpr : PrAt H v pr) (hok : PrOk pr) (hto : Ov.TO K qa sa (ptOf ps) st H) (t0 : Tabs T H)
    (q : ∀ z8 H', ExtN H H' → Tabs T H' → D.nx [z0, z1, z2, some v, some y4, some y5, some (.ref qa), some (.ref sa), z8, z9, z10] H') : tIfS (tTest (tOp (rI0 fun i j => V.bl (decide (j < i))) (tCB (Evl.rLenS K) (tCons (tVar 6) tNil)) (tC (V.int 1))))
      (tSeq (tAsg (tTup (tCons (tVar 6) (tCons (tOp (rCatA K) (tTup (tCons (tC (V.int 1)) (tCons (tC (V.int 0)) tNil))) (tSl (rSlA K) (tVar 7) (tPart (tC (V.int 2))) tNoPart)) tNil))) (gName 8))
      (tIfS (tTest (tOp (rNeD K) (tLc (iList K (tCall (spWorks P w K mg base 111 T) [] E0 (tCons (tVar 3) (tCons (tVar 8) tNil)))) (gName 10)
      (tTest (tOp rNe (tCall (spKept P w K mg base 111 (TKind K "BadTree")) [] E0 (tCons (tVar 10) tNil)) (tC (V.str "BadTree")))) (tVar 10) (List.map (fun x => x.snd) [(("_law_work" : Str), 10)])) (tLst tNil))) (tRet (tC (V.bl false))) tNext)) tNext D [z0, z1, z2, some v, some y4, some y5, some (.ref qa), some (.ref sa), z8, z9, z10] H := by
  obtain ⟨⟨qa', vs, e, hqa, hpp⟩, _⟩ := id hto
  cases e
  have hvl := Paired.length hpp
  rw [pt_len] at hvl
  have m8 := F.m8
  have ln := F.ln
  have mn := F.mn
  have n8 := F.n8
  refine ⟨_, rfl, qa, vs, rfl, .inr hqa.sq, _, _, rfl, rfl, _, rfl, ?_⟩
  by_cases c : (1 : Int) < ((vs.length : Nat) : Int)
  · rw [decide_eq_true c]
    refine iteT ?_
    have c2 : ClP (Ov.TO K qa sa (ptOf ps) st) := cl_to
    have EP : EvS [z0, z1, z2, some v, some y4, some y5, some (.ref qa), some (.ref sa), z8, z9, z10] (Ov.TO K qa sa (ptOf ps) st) (tVar 6) (TL K (PtAt K) (ptOf ps)) := ⟨fun H Q p q => ⟨_, rfl, q H _ (Same.refl H) p.1⟩, cl_tl cl_pt⟩
    have ES : EvS [z0, z1, z2, some v, some y4, some y5, some (.ref qa), some (.ref sa), z8, z9, z10] (Ov.TO K qa sa (ptOf ps) st) (tVar 7) (TL K Rint st) := ⟨fun H Q p q => ⟨_, rfl, q H _ (Same.refl H) p.2⟩, cl_tl cl_rint⟩
    have E10 : EvS [z0, z1, z2, some v, some y4, some y5, some (.ref qa), some (.ref sa), z8, z9, z10] (Ov.TO K qa sa (ptOf ps) st) (tTup (tCons (tC (V.int 1)) (tCons (tC (V.int 0)) tNil))) (TL K Rint [1, 0]) := (evs_tup (eva_cons c2 evs_c (eva_cons c2 evs_c eva_nil))).imp (cl_tl cl_rint) fun {H v} h => by
      obtain ⟨p, x, y, e, h, hx, hy⟩ := tupA2 h
      exact ⟨p, [x, y], e, .inl h, .cons hx (.cons hy .nil)⟩
    have er : ([1, 0] ++ st.drop 2 : List Int).length = st.length := by rw [List.length_append, List.length_drop]; show 2 + _ = _; omega
    have ER := ev_two (n := pr.length) EP (evs_cat cl_rint c2 E10 (evs_drop (k := 2) (tk := tC (V.int 2)) cl_rint ES (fun H Q q => q) (by omega)) (by rw [List.length_drop]; show 2 + _ ≤ _; omega)) (.inr (standB_end (i := 0) (by rw [pt_len]; omega) (by
      rcases endI_ring (st := [1, 0] ++ st.drop 2) rfl rfl (ptOf ps).length with z | z
      · rw [show ((0 : Nat) : Int) = 0 from rfl, z]; decide
      · rw [show ((0 : Nat) : Int) = 0 from rfl, z]; decide))) (by rw [pt_len]; omega) (by omega) (by rw [er]; omega)
    dsimp only [tSeq, tAsg]
    refine ER.run H _ hto fun H6 v6 s6 hv6 => ?_
    dsimp only [gName]
    exact works_ok (t := v6) (pr := pr) rfl rfl rfl (hpr.keep (Keep.same s6)) hok hv6 (tabs_same t0 s6) fun H7 x7 t7 => q _ H7 ((ExtN.of s6).trans x7) t7
  · rw [decide_eq_false c]
    exact iteF (q z8 H (ExtN.refl H) t0)
theorem sc_law : FnScope ["_law_script", "_law_h", "_law_turn", "_law_program_here", "_law_tree_here", "_law_odd_here", "_law_parts", "_law_stands", "_law_ring", "_law_far", "_law_work"] ["_law_script"] (defScope s_law) := ⟨rfl, rfl, rfl, by decide +kernel, rfl, by decide +kernel, by decide +kernel⟩
-- 0 _law_script, 1 _law_h, 2 _law_turn, 3 _law_program_here, 4 _law_tree_here, 5 _law_odd_here, 6 _law_parts, 7 _law_stands, 8 _law_ring, 9 _law_far, 10 _law_work
theorem ok_law (T : Txt w K mg) (TB : TabB base mg (He.cT K ("law", none)).1 (He.cT K ("law", none)).2) (TB2 : TabB base mg (He.cT K ("_law_works", none)).1 (He.cT K ("_law_works", none)).2) : FnOk P w K mg base CX0 125 (He.ga K "law") (fdOf K d_law) ["_law_script"] (spLawT K (lawTabs K)) := by
  have G_law_mix := ok_law_mix (P := P) (base := base) T
  have G_law_next := ok_law_next (P := P) (base := base) T
  have G_law_program := ok_law_program (P := P) (base := base) T
  have G_law_tree := ok_law_tree (P := P) (base := base) T
  have G_law_odd := ok_law_odd (P := P) (base := base) T
  have G_law_works := ok_law_works (P := P) (base := base) T TB2
  have G_way_downF := ok_way_downF (P := P) (base := base) T
  have G_places := ok_places (P := P) (base := base) T
  obtain ⟨oc, od, dV, kV, doc, pm, an, cdk, ct, osl, efd, lk, hcg, _, _⟩ := T.F_law_kind.ex
  have b_kind := T.b_law_kind
  rw [efd] at b_kind lk
  have G_law_kind : FnOk P w K mg base CX0 113 (He.ga K "_law_kind") (fdOf K d_law_kind) ["_law_work"] (spKept P w K mg base 111 (TKind K "BadTree")) := by
    rw [efd]
    exact fn_kept (k := 111) lk hcg sc_law_kind rfl (Or.inl rfl) (fun X q e1 e2 e3 e4 => by subst e1 e2 e3 e4; exact kind_gives_BadTree T)
  have hu : ∀ p ∈ lawTabs K, p.1 = (He.cT K ("law", none)).2 → p.2 = (envOfC "law" (defScope s_law) 0 0 .none).qual ++ "<lambda>" := fun p hp e => by
    rcases List.mem_cons.mp hp with rfl | hp
    · rfl
    · rcases List.mem_singleton.mp hp with rfl
      exact absurd e.symm T.tn_law_law_works
  refine funD_okC T.F_law sc_law (fun vs H Q E h => ?_) (fun cdv A outer s H vs Q E hcdv hr h => ?_)
  · obtain ⟨a, ns, rfl, _⟩ := h
    rfl
  obtain rfl : cdv = .ref (He.cT K ("law", none)).1 := hcdv.symm.trans (code_of (p := ("law", none)) T.F_law)
  obtain ⟨a, ns, rfl, ha, hl, ht0, q⟩ := h
  refine ⟨_, PSs.nox (pss_cons (ps_set (i := 1) sc_law.nd rfl (by first | exact Or.inl rfl | exact Or.inr rfl) (pe_call G_law_mix (hr.mono (by omega)) (by rfl) T.g_law_mix T.kp_law_mix T.b_law_mix .nil pass0 (pa_cons (pv 0) (pa_cons pe_int pa_nil))))
      (pss_cons (ps_for PassesOwn.never rfl (pi_range1 (by rfl) T.z_range (pa_cons pe_int pa_nil)) (pg_name (i := 2) sc_law.nd rfl (by first | exact Or.inl rfl | exact Or.inr rfl)) (pss_cons (ps_set (i := 3) sc_law.nd rfl (by first | exact Or.inl rfl | exact Or.inr rfl) (pe_call G_law_program (hr.mono (by omega)) (by rfl) T.g_law_program T.kp_law_program T.b_law_program .nil pass0 (pa_cons (pv 1) (pa_cons pe_int pa_nil))))
      (pss_cons (ps_set (i := 4) sc_law.nd rfl (by first | exact Or.inl rfl | exact Or.inr rfl) (pe_call G_law_tree (hr.mono (by omega)) (by rfl) T.g_law_tree T.kp_law_tree T.b_law_tree .nil pass0 (pa_cons (pv 1) (pa_cons (pv 3) pa_nil))))
      (pss_cons (ps_set (i := 5) sc_law.nd rfl (by first | exact Or.inl rfl | exact Or.inr rfl) (pe_call G_law_odd (hr.mono (by omega)) (by rfl) T.g_law_odd T.kp_law_odd T.b_law_odd .nil pass0 (pa_cons (pv 1) (pa_cons (pe_callB (r := Evl.rLenS K) call_len_seq (by rfl) T.z_len PySem.boot_len (pa_cons (pv 3) pa_nil)) (pa_cons (pv 4) pa_nil)))))
      (pss_cons (ps_if (pt_cmpR (r := rNeD K) (op_neD hr.units) (pe_lc (own := [("_law_work", 10)]) rfl sc_law.nd (Ov.pi_listK (K := K) rfl (pe_call G_law_works (hr.mono (by omega)) (by rfl) T.g_law_works T.kp_law_works T.b_law_works .nil pass0 (pa_cons (pv 3) (pa_cons (pv 5) pa_nil)))) (blkOk_by (own := [("_law_work", 10)]) (N := ["_law_script", "_law_h", "_law_turn", "_law_program_here", "_law_tree_here", "_law_odd_here", "_law_parts", "_law_stands", "_law_ring", "_law_far", "_law_work"]) (sc := defScope s_law) (by decide +kernel)) (fun _ _ _ _ _ => (pg_name (i := 10) sc_law.nd rfl (by first | exact Or.inl rfl | exact Or.inr rfl))) (fun _ _ _ _ _ => pts_one (pt_cmpR op_ne (pe_call G_law_kind (hr.mono (by omega)) (by rfl) T.g_law_kind T.kp_law_kind T.b_law_kind .nil pass0 (pa_cons (pv 10) pa_nil)) pe_str (nomark _))) (fun _ _ _ _ _ => (pv 10))) (pe_lst pa_nil) (nomark _)) (pss_one (ps_ret pe_bl)) pss_nil)
      (pss_cons (ps_asg (pv 4) (Ov.pg_tupK (K := K) (n := 2) rfl rfl (pgs_cons (pg_name (i := 6) sc_law.nd rfl (by first | exact Or.inl rfl | exact Or.inr rfl)) (pgs_cons (pg_name (i := 7) sc_law.nd rfl (by first | exact Or.inl rfl | exact Or.inr rfl)) pgs_nil))))
      (pss_cons (ps_if (pt_cmpR op_gt (pe_callB (r := Evl.rLenS K) call_len_seq (by rfl) T.z_len PySem.boot_len (pa_cons (pv 6) pa_nil)) pe_int (nomark _)) (pss_cons (ps_set (i := 8) sc_law.nd rfl (by first | exact Or.inl rfl | exact Or.inr rfl) (pe_tup (pa_cons (pv 6) (pa_cons (pe_op (r := rCatA K) op_catA (pe_tup (pa_cons pe_int (pa_cons pe_int pa_nil))) (pe_slice (r := rSlA K) sl_tupA (pv 7) (po_some pe_int) po_none)) pa_nil))))
      (pss_one (ps_if (pt_cmpR (r := rNeD K) (op_neD hr.units) (pe_lc (own := [("_law_work", 10)]) rfl sc_law.nd (Ov.pi_listK (K := K) rfl (pe_call G_law_works (hr.mono (by omega)) (by rfl) T.g_law_works T.kp_law_works T.b_law_works .nil pass0 (pa_cons (pv 3) (pa_cons (pv 8) pa_nil)))) (blkOk_by (own := [("_law_work", 10)]) (N := ["_law_script", "_law_h", "_law_turn", "_law_program_here", "_law_tree_here", "_law_odd_here", "_law_parts", "_law_stands", "_law_ring", "_law_far", "_law_work"]) (sc := defScope s_law) (by decide +kernel)) (fun _ _ _ _ _ => (pg_name (i := 10) sc_law.nd rfl (by first | exact Or.inl rfl | exact Or.inr rfl))) (fun _ _ _ _ _ => pts_one (pt_cmpR op_ne (pe_call G_law_kind (hr.mono (by omega)) (by rfl) T.g_law_kind T.kp_law_kind T.b_law_kind .nil pass0 (pa_cons (pv 10) pa_nil)) pe_str (nomark _))) (fun _ _ _ _ _ => (pv 10))) (pe_lst pa_nil) (nomark _)) (pss_one (ps_ret pe_bl)) pss_nil))) pss_nil)
      (pss_cons (ps_set (i := 9) sc_law.nd rfl (by first | exact Or.inl rfl | exact Or.inr rfl) (pe_ix (r := rIxL K) ix_list (pe_lst (pa_cons (pe_callB (r := Evl.rLenS K) call_len_seq (by rfl) T.z_len PySem.boot_len (pa_cons (pv 3) pa_nil)) (pa_cons (pe_op op_add (pe_callB (r := Evl.rLenS K) call_len_seq (by rfl) T.z_len PySem.boot_len (pa_cons (pv 3) pa_nil)) (pe_call G_law_next (hr.mono (by omega)) (by rfl) T.g_law_next T.kp_law_next T.b_law_next .nil pass0 (pa_cons (pv 1) (pa_cons pe_int pa_nil)))) (pa_cons (pe_un un_neg pe_int) pa_nil)))) (pe_call G_law_next (hr.mono (by omega)) (by rfl) T.g_law_next T.kp_law_next T.b_law_next .nil pass0 (pa_cons (pv 1) (pa_cons pe_int pa_nil))) (fun _ _ => rfl)))
      (pss_cons (ps_if (pt_cmpR op_ne (pe_lamcall (k := 111) (by rfl) T.g_law_kind T.kp_law_kind lk hcg b_kind sc_law_kind rfl (Or.inl rfl) (kind_gives_BadFunction T) TB rfl (.head _) hu (hr.mono (by omega)) (lamS_by (by kernel_rfl)) rfl (fun _ _ _ _ _ => rfl) (fun A outer s H E f c' hr2 => pe_callS G_way_downF (hr2.mono (by omega)) (by rfl) T.g_way_down T.kp_way_down T.b_way_down (fun σ => passAt (takes_of rfl rfl rfl rfl) σ) (pa_cons (pv 3) (pa_cons (pv 4) (pa_cons (pv 9) pa_nil))))) pe_str (nomark _)) (pss_one (ps_ret pe_bl)) pss_nil)
      (pss_one (ps_if (pt_cmpR op_ne (pe_lamcall (k := 111) (by rfl) T.g_law_kind T.kp_law_kind lk hcg b_kind sc_law_kind rfl (Or.inl rfl) (kind_gives_BadTree T) TB rfl (.head _) hu (hr.mono (by omega)) (lamS_by (by kernel_rfl)) rfl (fun _ _ _ _ _ => rfl) (fun A outer s H E f c' hr2 => pe_call G_places (hr2.mono (by omega)) (by rfl) T.g_places T.kp_places T.b_places .nil pass0 (pa_cons (pv 3) (pa_cons (pv 4) pa_nil)))) pe_str (nomark _)) (pss_one (ps_ret pe_bl)) pss_nil)))))))))))
      (pss_one (ps_ret pe_bl)))), ?_⟩
  refine ⟨_, rfl, a, ns, 7, rfl, ha, hl, by decide, by decide, fun h c H1 hh hc s1 d1 => ?_⟩
  refine ⟨6, rfl, by decide, by decide, ?_⟩
  refine for_range (lo := 0) (n := (6 : Int).toNat) (fun i σ' H' => ∃ (y2 y3 y4 y5 y6 y7 y8 y9 : Option V), σ' = [some (.ref a), some (.ref h), y2, y3, y4, y5, y6, y7, y8, y9, none] ∧ Dr H' h c ∧ Tabs (lawTabs K) H') ⟨none, none, none, none, none, none, none, none, rfl, d1, tabs_same ht0 s1⟩ ?_ ?_
  · rintro i0 σ' H1 hi ⟨y2, y3, y4, y5, y6, y7, y8, y9, rfl, d1, t1⟩
    refine ⟨_, rfl, h, c, 8, rfl, d1, by decide, by decide, fun v H2 pr b2 d2 hpr hok => ?_⟩
    have t2 := tabs_but t1 b2 d1
    have n8 := hok.l8
    have n1 := hok.l1
    obtain ⟨pa, vp, rfl, hpa, hpf⟩ := id hpr
    have hvl := Paired.length hpf
    refine ⟨_, rfl, _, rfl, h, c, pa, pr.length, vp, rfl, d2, hpa, hvl, n1, n8, fun t H3 ps st b3 d3 htr htk => ?_⟩
    have k3 := Keep.but b3 d2
    have t3 := tabs_but t2 b3 d2
    have hpr3 := hpr.keep k3
    have hpa3 := k3 _ _ hpa
    refine ⟨_, rfl, _, rfl, pa, _, rfl, .inr (SqT.of hpa3), _, rfl, h, c, pr.length, t, ps, st, by rw [hvl]; rfl, d3, n1, n8, htr, htk, fun H4 o b4 d4 hod => ?_⟩
    have k4 := Keep.but b4 d3
    have t4 := tabs_but t3 b4 d3
    have hpr4 := hpr3.keep k4
    have htr4 := htr.keep k4
    clear hpr hpr3 htr hpa hpa3 hpf b2 b3 b4 t1 t2 t3 d1 d2 d3 k3 k4
    dsimp only [tSeq, gName]
    refine works_ok (t := o) (pr := pr) rfl rfl rfl hpr4 hok hod t4 fun H5 x5 t5 => ?_
    have d5 := dr_extN d4 x5
    have hpr5 := hpr4.keep (keep_extN x5)
    have htr5 := htr4.keep (keep_extN x5)
    have F := htk.tf n1 n8
    have m1 := F.m1
    have m8 := F.m8
    obtain ⟨ta, qa, sa, rfl, hta, hto⟩ := htr5.to (K := K) F
    dsimp only [tSeq]
    refine ⟨_, rfl, ta, _, rfl, SqT.of hta, rfl, _, _, rfl, _, _, rfl, rfl, ?_⟩
    dsimp only [tSeq]
    refine ring_ok F hpr5 hok hto t5 fun z8 H6 x6 t6 => ?_
    have d6 := dr_extN d5 x6
    have hpr6 := hpr5.keep (keep_extN x6)
    have htr6 := htr5.keep (keep_extN x6)
    clear hto hta hpr5 htr5 hpr4 htr4 hod x5 x6 t5 t4 d5 d4
    obtain ⟨pa', vp', e, hpa, hpf⟩ := id hpr6
    cases e
    have hvl' := Paired.length hpf
    dsimp only [tSeq, tAsg]
    refine ⟨_, rfl, pa, _, rfl, .inr (SqT.of hpa), _, rfl, pa, _, rfl, .inr (SqT.of hpa), _, rfl, h, c, 99, rfl, d6, by decide, by decide, fun r7 H7 r70 r71 b7 d7 => ⟨_, _, rfl, rfl, 1, rfl, sml 3, fun l8 hl8 => ?_⟩⟩
    have b8 := b7.trans (But.new (h := h) (c := c) (o := .lst [V.int ((vp'.length : Nat) : Int), V.int (((vp'.length : Nat) : Int) + r7), V.int (-1)]) hl8)
    have d8 := d7.same (Same.new (o := .lst [V.int ((vp'.length : Nat) : Int), V.int (((vp'.length : Nat) : Int) + r7), V.int (-1)]) hl8)
    have nl := Dr.new d7 hl8
    have e8 : (upd H7 l8 (.lst [V.int ((vp'.length : Nat) : Int), V.int (((vp'.length : Nat) : Int) + r7), V.int (-1)])) l8 = some (.lst [V.int ((vp'.length : Nat) : Int), V.int (((vp'.length : Nat) : Int) + r7), V.int (-1)]) := upd_same
    revert b8 d8 e8
    generalize upd H7 l8 (.lst [V.int ((vp'.length : Nat) : Int), V.int (((vp'.length : Nat) : Int) + r7), V.int (-1)]) = H8
    intro b8 d8 e8
    refine ⟨_, rfl, h, c, 3, rfl, d8, by decide, by decide, fun r9 H9 r90 r91 b9 d9 => ?_⟩
    have e9 := b9 l8 _ nl.1 nl.2 e8
    have b09 := b8.trans b9
    obtain ⟨f, hf, hfr, hfs⟩ : ∃ f : Int, atI [V.int ((vp'.length : Nat) : Int), V.int (((vp'.length : Nat) : Int) + r7), V.int (-1)] r9 = some (.int f) ∧ (f < 0 ∨ (pr.length : Int) ≤ f) ∧ Small9 f := by
      rcases (by omega : r9 = 0 ∨ r9 = 1 ∨ r9 = 2) with rfl | rfl | rfl
      · exact ⟨_, rfl, .inr (by omega), by unfold Small9; omega⟩
      · exact ⟨_, rfl, .inr (by omega), by unfold Small9; omega⟩
      · exact ⟨_, rfl, .inl (by omega), by unfold Small9; omega⟩
    refine ⟨l8, _, _, _, rfl, rfl, SqL.of e9, hf, ?_⟩
    have t9 := tabs_but t6 b09 d6
    have k9 := Keep.but b09 d6
    have hpr9 := hpr6.keep k9
    have htr9 := htr6.keep k9
    clear hpr6 htr6 hpa hpf b7 b8 b9 b09 d6 d7 d8 t6 e8 e9 k9 hl8 nl
    dsimp only [gName]
    refine ⟨t9, fun H10 x10 t10 => ?_⟩
    have d10 := dr_extN d9 x10
    have hpr10 := hpr9.keep (keep_extN x10)
    have htr10 := htr9.keep (keep_extN x10)
    refine ⟨.ref pa, rfl, .ref ta, rfl, .int f, rfl, .ref pa, .ref ta, pr, ps, st, f, rfl, ⟨hpr10, hok, htr10, htk⟩, hfr, hfs, fun H11 s11 => ⟨rfl, rfl, fun H12 s12 => ?_⟩⟩
    refine ⟨rfl, _, rfl, ?_⟩
    rw [decide_eq_true rfl]
    refine iteF ?_
    have s112 := s11.trans s12
    refine ⟨tabs_same t10 s112, fun H13 x13 t13 => ?_⟩
    have d13 := dr_extN (d10.same s112) x13
    have k13 := (Keep.same s112).trans (keep_extN x13)
    obtain ⟨dn, hdn⟩ := htk.dn
    refine ⟨.ref pa, rfl, .ref ta, rfl, .ref pa, .ref ta, pr, ps, st, dn, rfl, ⟨hpr10.keep k13, hok, htr10.keep k13, htk⟩, hdn, fun H14 p cs s14 hp ep hc => ?_⟩
    refine ⟨rfl, _, rfl, ?_⟩
    rw [decide_eq_true rfl]
    refine iteF ?_
    exact ⟨_, _, _, _, _, _, _, _, rfl, d13.same s14, tabs_same t13 s14⟩
  · rintro σ' H1 ⟨y2, y3, y4, y5, y6, y7, y8, y9, rfl, d1, t1⟩
    exact q _
end
end K03

open PySem PySem.W PySem.Calls PyProof.Rows
theorem PySem.Challenge.cw_overlayhall_k03_trees_refused_holds : PySem.Challenge.rw_overlayhall_k03_trees_refused.Holds := by
  w_on; o_law
  refine HandSHeadRun.head_any (r := OpenLaw.row PySem.Challenge.rw_overlayhall_k03_trees_refused) (q := view (OpenLaw.row PySem.Challenge.rw_overlayhall_k03_trees_refused).prog [115]) (H := K03.hk) (ob := K03.ob) (M := 9000) (loose := K03.names) (d := HandSHeadRun.topDef (OpenLaw.row PySem.Challenge.rw_overlayhall_k03_trees_refused).prog 115) (kwd := []) K03.ob_eq
    (by kernel_rfl) (fun s => by kernel_rfl) K03.run (by kernel_rfl) (by kernel_rfl) (by kernel_rfl) (by rfl) (by first | assumption | decide +kernel) (by decide +kernel) ⟨rfl, rfl, rfl, rfl, rfl, by decide +kernel⟩ ?hw ?hc
  case hw => w_witness2
  case hc =>
    refine LamX.walk_ofTsE (l := PySem.Challenge.rw_overlayhall_k03_trees_refused) (n := 63) (k := 125) (x := "_law_script") (CX := fun _ => L2.CX0) rfl (by decide) (by kernel_rfl) ⟨rfl, by decide, by decide⟩ ?F (fun _ _ _ _ _ z => z)
    intro w mg fa h Y G hmg0
    obtain ⟨K, KX, c⟩ := Y
    have T := K03.Txt.of (w := w) KX G c
    have hmg : mg ("law" : PySem.Str) = some (.ref fa) := by
      have e : (HandSHeadRun.topDef (OpenLaw.row PySem.Challenge.rw_overlayhall_k03_trees_refused).prog 115).name = ("law" : PySem.Str) := by kernel_rfl
      rw [← e]
      exact hmg0
    cases hmg.symm.trans T.g_law
    have b := L2.FunD.bindsA (ps := ["_law_script"]) T.F_law fun _ _ _ _ _ _ us hl => match us, hl with | [_], _ => rfl
    have m : (("law", none) : He.Defn) ∈ K03.tf := .head _
    have m2 : (("_law_works", none) : He.Defn) ∈ K03.tf := .tail _ (.head _)
    refine ⟨K, KX, K03.fdOf K K03.d_law, [He.cT K ("law", none), He.cT K ("_law_works", none)], Ov.spLawT K (K03.lawTabs K), ?_, ?_, ?_, fun s v => b s [v] rfl, ?_, ?_⟩
    · exact fun p hp => by
        rcases List.mem_cons.mp hp with rfl | hp
        · exact c.empty _ m
        · rcases List.mem_singleton.mp hp with rfl; exact c.empty _ m2
    · exact fun p hp => by
        rcases List.mem_cons.mp hp with rfl | hp
        · exact c.out _ m
        · rcases List.mem_singleton.mp hp with rfl; exact c.out _ m2
    · exact fun p hp => by
        rcases List.mem_cons.mp hp with rfl | hp
        · exact PySem.W.codeHd_of_K KX (c.hd _ m)
        · rcases List.mem_singleton.mp hp with rfl; exact PySem.W.codeHd_of_K KX (c.hd _ m2)
    · exact fun H a ns hl _ hT hS => ⟨a, ns, rfl, hS, hl, fun p hp => by
        rcases List.mem_cons.mp hp with rfl | hp
        · exact LamX.TabS.nil (hT _ (.head _))
        · rcases List.mem_singleton.mp hp with rfl; exact LamX.TabS.nil (hT _ (.tail _ (.head _))), fun _ => rfl⟩
    · exact fun base _ _ hB => K03.ok_law T (hB _ (.head _)) (hB _ (.tail _ (.head _)))

