import PyProof.Rows.All
import Wide.All
import OpenK.AllK
import Wide.FinOn
import KE.KStateDown
import HandS.ForMost
import HandS.Evl
import HandS.WordsExc
import HandS.Defaults
import HandS.More
import HandS.Wide
import HandS.IsInst
import HandS.Zip
import HandS.SortInts
import HandS.TupMul
import HandS.TupLe
import HandS.TupAny
import HandS.Conv
import HandS.Style
import HandS.Walk
import KE.GoesMore
import KE.GoesZip
import KE.GoesEnum
import HandS.Head0
import HandS.Head1
import HandS.Head2
import HandS.HeadEnd
import HandS.HeadHook1
import HandS.HeadHook2
import HandS.HeadHook3
import HandS.HeadHook4
import HandS.HeadWalk
import HandS.Deep
import HandS.TryOnly
import HandS.Exc
import HandS.ExcOwn
import HandS.ExcSuper
import HandS.ForSpec
import Open.SpecLaws
import KE.OsGo
import HandS.Small
import HandS.FStr
import HandS.ExcIs
import HandS.Lambda
import HandS.NestedK
import HandS.Nested
import HandS.ClsMeth
import KE.KSuper
import HandS.NoneIn
import HandS.DictComp
import PySem.Challenge.RW_overlayhall_k18_whole_bounds_of_runs
set_option Elab.async false
set_option linter.all false
set_option maxRecDepth 100000
set_option maxHeartbeats 0
/-! ### what all laws share: the drawer, data -/
namespace Ov
open PySem PySem.Spec PyProof.Rows L2
/-- the drawer: its list at h, its cells at c -/
def Dr (H : Hp) (h c : Addr) : Prop := ∃ (m k : Int) (xs : List Int), H h = some (.lst [.int m, .ref c, .int k]) ∧ H c = some (.lst (xs.map V.int)) ∧ xs.length ≤ 63
/-- all but the drawer stays -/
def But (h c : Addr) (H H' : Hp) : Prop := ∀ a o, a ≠ h → a ≠ c → H a = some o → H' a = some o
theorem But.refl {h c : Addr} (H : Hp) : But h c H H := fun _ _ _ _ e => e
theorem But.trans {h c : Addr} {H H1 H2 : Hp} (a : But h c H H1) (b : But h c H1 H2) : But h c H H2 := fun x o n1 n2 e => b x o n1 n2 (a x o n1 n2 e)
theorem But.same {h c : Addr} {H H' : Hp} (a : Same H H') : But h c H H' := fun x o _ _ e => a x o e
theorem Same.new {H : Hp} {p : Addr} {o : HO} (h : H p = none) : Same H (upd H p o) := fun b u q => by rw [upd_ne (ne_of_none q h)]; exact q
theorem But.new {h c : Addr} {H : Hp} {p : Addr} {o : HO} (e : H p = none) : But h c H (upd H p o) := .same (Same.new e)
theorem But.updh {h c : Addr} {H : Hp} {o : HO} : But h c H (upd H h o) := fun x u n1 _ e => by rw [upd_ne n1]; exact e
theorem But.updc {h c : Addr} {H : Hp} {o : HO} : But h c H (upd H c o) := fun x u _ n2 e => by rw [upd_ne n2]; exact e
theorem But.tup {h c a : Addr} {H H' : Hp} {xs : List V} (b : But h c H H') (d : Dr H h c) (e : H a = some (.tup xs)) : H' a = some (.tup xs) := by
  obtain ⟨m, k, ns, h1, h2, _⟩ := d
  exact b a _ (ne_of e h1 (by intro z; cases z)) (ne_of e h2 (by intro z; cases z)) e
theorem Dr.same {h c : Addr} {H H' : Hp} (d : Dr H h c) (e : Same H H') : Dr H' h c := by
  obtain ⟨m, k, ns, h1, h2, h3⟩ := d
  exact ⟨m, k, ns, e _ _ h1, e _ _ h2, h3⟩
theorem But.updn {h c D : Addr} {H H' : Hp} {o : HO} (b : But h c H H') (hD : H D = none) : But h c H (upd H' D o) := fun a u n1 n2 e => by rw [upd_ne (ne_of_none e hD)]; exact b a u n1 n2 e
theorem Same.updn {D : Addr} {H H' : Hp} {o : HO} (b : Same H H') (hD : H D = none) : Same H (upd H' D o) := fun a u e => by rw [upd_ne (ne_of_none e hD)]; exact b a u e
theorem Dr.upd {h c D : Addr} {H : Hp} {o : HO} (d : Dr H h c) (n1 : D ≠ h) (n2 : D ≠ c) : Dr (upd H D o) h c := by
  obtain ⟨m, k, ns, h1, h2, h3⟩ := d
  exact ⟨m, k, ns, by rw [upd_ne n1.symm]; exact h1, by rw [upd_ne n2.symm]; exact h2, h3⟩
theorem Dr.ne {h c : Addr} {H : Hp} (d : Dr H h c) : h ≠ c := by
  obtain ⟨m, k, ns, h1, h2, _⟩ := d
  refine ne_of h1 h2 (fun z => ?_)
  have z1 : [V.int m, .ref c, .int k] = ns.map V.int := by injection z
  have z2 := congrArg (fun l : List V => l[1]?) z1
  have z3 : some (V.ref c) = (ns.map V.int)[1]? := z2
  rw [List.getElem?_map] at z3
  cases q : ns[1]? with
  | none => rw [q] at z3; cases z3
  | some u => rw [q] at z3; cases z3
/-- a draw: one of n -/
def spNext : Sp := fun vs H Q _ => ∃ (h c : Addr) (n : Int), vs = [.ref h, .int n] ∧ Dr H h c ∧ 0 < n ∧ n ≤ 1000000 ∧ ∀ (r : Int) (H' : Hp), 0 ≤ r → r < n → But h c H H' → Dr H' h c → Q (.int r) H'
/-- the drawer is made of the script -/
def spMix (K : PySem.W.Frag) : Sp := fun vs H Q _ => ∃ (a : Addr) (ns : List Int) (z : Int), vs = [.ref a, .int z] ∧ SqL K H a (ns.map V.int) ∧ ns.length ≤ 63 ∧ -(2 ^ 31) < z ∧ z < 2 ^ 31 ∧ ∀ (h c : Addr) (H' : Hp), H h = none → H c = none → Same H H' → Dr H' h c → Q (.ref h) H'
/-! ### rules with the written part told (within a comprehension) -/
section
variable {X : Cx} {K : PySem.W.Frag}
theorem pi_listK {tg l : Expr} {tl : TE} (hK : X.K = K) (hl : PE X l tl) : PI X tg l (iList K tl) := by subst hK; exact pi_list hl
theorem pi_tupK {tg l : Expr} {tl : TE} (hK : X.K = K) (hl : PE X l tl) : PI X tg l (iTup K tl) := by subst hK; exact pi_tup hl
theorem pg_tupK {es : List Expr} {k : Nat} {pos : Pos} {t : TGs} {n : Nat} (hK : X.K = K) (hc : X.calm = true) (h : PGs X es t)
    (hn : (assignEach es X.env).length = n := by rfl) (hst : (assignEach es X.env).findIdx? (·.1) = none := by rfl) : PG X (.Tuple es k pos) (gTup K n t) := by subst hK; exact pg_tup hc h hn hst
theorem pe_bm0K {o : Expr} {to : TE} {name : Str} {apos cpos : Pos} {T id : String} {r : V → List V → Hp → VK → Prop} (hK : X.K = K) (pa : PlainAttrs T) (slot : Slot T name id) (hty : typeOf (.builtin id) = pure (.type "method_descriptor")) (hm : MtR X id r) (ho : PE X o to)
    (hbase : attributeBase o name X.env (eval o X.env) = eval o X.env := by rfl) (hline : (apos.endLine == cpos.line) = true := by rfl) : PE X (.Call (.Attribute o name apos) [] [] cpos) (tBM0 K T r to) := by subst hK; exact pe_bm0 pa slot hty hm ho hbase hline
theorem pe_bmK {o e : Expr} {es : List Expr} {to : TE} {t : TA} {name : Str} {apos cpos : Pos} {T id : String} {r : V → List V → Hp → VK → Prop} (hK : X.K = K) (pa : PlainAttrs T) (slot : Slot T name id) (hty : typeOf (.builtin id) = pure (.type "method_descriptor")) (hm : MtR X id r) (ho : PE X o to) (ha : PA X (e :: es) t)
    (hbase : attributeBase o name X.env (eval o X.env) = eval o X.env := by rfl)
    (hfew : ((backTo cpos (starEach (e :: es) X.env)).all (fun x => !x.1) && (backToKw cpos (keywordEach [] X.env)).all (fun x => x.1.isSome)
      && decide ((e :: es).length + ([] : List Keyword).length + (if ([] : List Keyword).isEmpty then 0 else 1) < 30)) = true := by rfl)
    (hline : (apos.endLine == cpos.line) = true := by rfl) (hs : starEach (e :: es) X.env = (false, eval e X.env) :: starEach es X.env := by rfl) (hplain : (backTo cpos (starEach es X.env)).any (·.1) = false := by rfl) : PE X (.Call (.Attribute o name apos) (e :: es) [] cpos) (tBM K T r to t) := by subst hK; exact pe_bm pa slot hty hm ho ha hbase hfew hline hs hplain
theorem pe_revLK {e : Expr} {te : TE} {k : Nat} {p1 p2 p3 pos : Pos} (hK : X.K = K) (he : PE X e te) : PE X (.Subscript e (.Slice none none (some (.UnaryOp .USub (.Constant (.int 1) k p1) p2)) p3) pos) (tRevL K te) := by subst hK; exact pe_revL he
theorem pi_zipAK {e e2 : Expr} {ta : TA} {p pos tpos : Pos} {elts : List Expr} {kk : Nat} (hK : X.K = K) (hg : Gl X "zip") (hm : X.mg "zip" = none) (ha : PA X [e, e2] ta)
    (hs : starEach [e, e2] X.env = (false, eval e X.env) :: starEach [e2] X.env := by rfl) (hpl : (backTo pos (starEach [e2] X.env)).any (·.1) = false := by rfl) :
    PI X (.Tuple elts kk tpos) (.Call (.Name "zip" p) [e, e2] [] pos) (RZ.iZipA K ta) := by subst hK; exact RZ.pi_zipA hg hm ha hs hpl
end
/-- what can't be asked -/
theorem fn0 {P : Program} {w : World} {K : PySem.W.Frag} {mg : Str → Option Value} {base : Heap} {k : Nat} {f : Addr} {fd : FuncData} {ps : List Str} {sp : Sp} (no : ∀ vs H Q E, ¬ sp vs H Q E) : FnOk P w K mg base CX0 k f fd ps sp :=
  ⟨fun vs H Q E h => absurd h (no vs H Q E), fun A outer s H args us vs Q E _ _ _ _ h => absurd h (no vs H Q E)⟩
/-- a promise for each i is a promise of some i -/
theorem fn_ex {ι : Type} {P : Program} {w : World} {K : PySem.W.Frag} {mg : Str → Option Value} {base : Heap} {CX : CXT} {k : ι → Nat} {m : Nat} {f : Addr} {fd : FuncData} {ps : List Str} {sp : ι → Sp} (h : ∀ i, FnOk P w K mg base CX (k i) f fd ps (sp i)) (le : ∀ i, k i ≤ m) :
    FnOk P w K mg base CX m f fd ps (fun vs H Q E => ∃ i, sp i vs H Q E) :=
  ⟨fun vs H Q E ⟨i, x⟩ => (h i).len vs H Q E x, fun A outer s H args us vs Q E hr h1 h2 h3 ⟨i, x⟩ => (h i).run A outer s H args us vs Q E (hr.mono (le i)) h1 h2 h3 x⟩
/-! ### comprehensions without a test -/
theorem lc_rangeY {lo : Int} {n : Nat} {g : TG} {te : TE} {vs : List Nat} {σ : L2.St} {H1 : Hp} {D : Addr} {Qd : Hp → Prop} (Pv : Nat → Hp → Prop) (h0 : Pv 0 (upd H1 D (.lst [])))
    (hs : ∀ i H, i < n → Pv i H → g (.int (lo + i)) (wipe σ vs) H fun σ2 H2 => wipe σ2 vs = wipe σ vs ∧ te σ2 H2 fun y H4 => ∃ acc, H4 D = some (.lst acc) ∧ acc.length < sizeLine ∧ Pv (i + 1) (upd H4 D (.lst (acc ++ [y])))) (hd : ∀ H, Pv n H → Qd H) :
    ∃ W : Nat → Nat → Hp → Prop, (∃ m, W 0 m (upd H1 D (.lst []))) ∧ ∀ i m H, W i m H →
      ((Itr lo n).stop i H ∧ Qd H) ∨ ((Itr lo n).go i H ∧ ∃ Nx : Hp → Prop, (∀ H', Nx H' → ∃ m', m' < m ∧ W (i + 1) m' H') ∧ ∀ x H', (Itr lo n).yld i H x H' → g x (wipe σ vs) H' fun σ2 H2 => wipe σ2 vs = wipe σ vs ∧ tYes σ2 H2 fun b H3 =>
        if b = true then te σ2 H3 fun y H4 => ∃ acc, H4 D = some (.lst acc) ∧ acc.length < sizeLine ∧ Nx (upd H4 D (.lst (acc ++ [y]))) else Nx H3) := lc_range (tt := tYes) Pv h0 hs hd
theorem lc_listY {K : PySem.W.Frag} {a : Addr} {xs : List V} {g : TG} {te : TE} {vs : List Nat} {σ : L2.St} {H1 : Hp} {D : Addr} {Qd : Hp → Prop} (Pv : Nat → Hp → Prop) (h0 : Pv 0 (upd H1 D (.lst []))) (hl : ∀ i H, i ≤ xs.length → Pv i H → SqL K H a xs)
    (hs : ∀ i x H, xs[i]? = some x → Pv i H → g x (wipe σ vs) H fun σ2 H2 => wipe σ2 vs = wipe σ vs ∧ te σ2 H2 fun y H4 => ∃ acc, H4 D = some (.lst acc) ∧ acc.length < sizeLine ∧ Pv (i + 1) (upd H4 D (.lst (acc ++ [y])))) (hd : ∀ H, Pv xs.length H → Qd H) :
    ∃ W : Nat → Nat → Hp → Prop, (∃ m, W 0 m (upd H1 D (.lst []))) ∧ ∀ i m H, W i m H →
      ((Itl K a).stop i H ∧ Qd H) ∨ ((Itl K a).go i H ∧ ∃ Nx : Hp → Prop, (∀ H', Nx H' → ∃ m', m' < m ∧ W (i + 1) m' H') ∧ ∀ x H', (Itl K a).yld i H x H' → g x (wipe σ vs) H' fun σ2 H2 => wipe σ2 vs = wipe σ vs ∧ tYes σ2 H2 fun b H3 =>
        if b = true then te σ2 H3 fun y H4 => ∃ acc, H4 D = some (.lst acc) ∧ acc.length < sizeLine ∧ Nx (upd H4 D (.lst (acc ++ [y]))) else Nx H3) := lc_list (tt := tYes) Pv h0 hl hs hd
theorem lc_tupY {K : PySem.W.Frag} {a : Addr} {xs : List V} {g : TG} {te : TE} {vs : List Nat} {σ : L2.St} {H1 : Hp} {D : Addr} {Qd : Hp → Prop} (Pv : Nat → Hp → Prop) (h0 : Pv 0 (upd H1 D (.lst []))) (hl : ∀ i H, i ≤ xs.length → Pv i H → SqT K H a xs)
    (hs : ∀ i x H, xs[i]? = some x → Pv i H → g x (wipe σ vs) H fun σ2 H2 => wipe σ2 vs = wipe σ vs ∧ te σ2 H2 fun y H4 => ∃ acc, H4 D = some (.lst acc) ∧ acc.length < sizeLine ∧ Pv (i + 1) (upd H4 D (.lst (acc ++ [y])))) (hd : ∀ H, Pv xs.length H → Qd H) :
    ∃ W : Nat → Nat → Hp → Prop, (∃ m, W 0 m (upd H1 D (.lst []))) ∧ ∀ i m H, W i m H →
      ((Itt K a).stop i H ∧ Qd H) ∨ ((Itt K a).go i H ∧ ∃ Nx : Hp → Prop, (∀ H', Nx H' → ∃ m', m' < m ∧ W (i + 1) m' H') ∧ ∀ x H', (Itt K a).yld i H x H' → g x (wipe σ vs) H' fun σ2 H2 => wipe σ2 vs = wipe σ vs ∧ tYes σ2 H2 fun b H3 =>
        if b = true then te σ2 H3 fun y H4 => ∃ acc, H4 D = some (.lst acc) ∧ acc.length < sizeLine ∧ Nx (upd H4 D (.lst (acc ++ [y]))) else Nx H3) := lc_tup (tt := tYes) Pv h0 hl hs hd
def rTupS (K : PySem.W.Frag) : List V → Hp → VK → Prop := fun xs H Q => ∃ p ys, xs = [.ref p] ∧ ((SqL K H p ys ∧ ∀ l, H l = none → Q (.ref l) (upd H l (.tup ys))) ∨ (SqT K H p ys ∧ Q (.ref p) H))
def rInKd (K : PySem.W.Frag) (d : Addr) (neg : Bool) : V → V → Hp → VK → Prop := fun x y H Q => ∃ (z : Str) (r : Option Value), x = .str z ∧ y = .ref d ∧ PySem.W.nsIn K d z = some r ∧ Q (.bl (if neg then !r.isSome else r.isSome)) H
theorem sm (n : Nat) (h : n ≤ 1000 := by omega) : n < sizeLine := Nat.lt_of_le_of_lt h (by decide)
theorem sml (n : Nat) (h : n ≤ 1000 := by omega) : n ≤ sizeLine := Nat.le_of_lt (sm n h)
theorem dpInts {K : PySem.W.Frag} {H : Hp} : ∀ ns : List Int, DpAll K H (ns.map V.int) (ns.map PyData.int)
  | [] => .nil
  | n :: ns => .cons (.int n) (dpInts ns)
theorem intsDepth : ∀ ns : List Int, PyData.depthAll (ns.map PyData.int) = 0
  | [] => by simp [PyData.depthAll]
  | n :: ns => by simp [PyData.depthAll, PyData.depth, intsDepth ns]
theorem intsLay : ∀ ns : List Int, PyData.canLayAll0 (ns.map PyData.int) = true
  | [] => by simp [PyData.canLayAll0]
  | n :: ns => by simp [PyData.canLayAll0, PyData.canLay0, intsLay ns]
theorem intsShaped (ns : List Int) : SeqAt.shaped (.list (ns.map PyData.int)) = true := by
  show (PyData.canLay0 (.list (ns.map PyData.int)) && decide (PyData.depth (.list (ns.map PyData.int)) ≤ 64)) = true
  rw [Bool.and_eq_true]
  refine ⟨by simp only [PyData.canLay0]; exact intsLay ns, decide_eq_true ?_⟩
  simp only [PyData.depth]
  rw [intsDepth]
  omega
theorem eqvNil (ns : List Int) : PyData.eqv (.list (ns.map PyData.int)) (.list []) = ns.isEmpty := by
  cases ns with
  | nil => simp [PyData.eqv, PyData.eqvAll]
  | cons n ns => simp [PyData.eqv, PyData.eqvAll]
theorem k_tuple_tuple {K : PySem.W.Frag} : PySem.W.kitOne K (.type "tuple") (.type "tuple") = some true := kit_ty (by decide +kernel)
theorem k_tuple_int {K : PySem.W.Frag} : PySem.W.kitOne K (.type "tuple") (.type "int") = some false := kit_ty (by decide +kernel)
theorem k_tuple_str {K : PySem.W.Frag} : PySem.W.kitOne K (.type "tuple") (.type "str") = some false := kit_ty (by decide +kernel)
theorem k_tuple_bool {K : PySem.W.Frag} : PySem.W.kitOne K (.type "tuple") (.type "bool") = some false := kit_ty (by decide +kernel)
theorem k_tuple_list {K : PySem.W.Frag} : PySem.W.kitOne K (.type "tuple") (.type "list") = some false := kit_ty (by decide +kernel)
theorem k_int_tuple {K : PySem.W.Frag} : PySem.W.kitOne K (.type "int") (.type "tuple") = some false := kit_ty (by decide +kernel)
theorem k_int_int {K : PySem.W.Frag} : PySem.W.kitOne K (.type "int") (.type "int") = some true := kit_ty (by decide +kernel)
theorem k_int_str {K : PySem.W.Frag} : PySem.W.kitOne K (.type "int") (.type "str") = some false := kit_ty (by decide +kernel)
theorem k_int_bool {K : PySem.W.Frag} : PySem.W.kitOne K (.type "int") (.type "bool") = some false := kit_ty (by decide +kernel)
theorem k_int_list {K : PySem.W.Frag} : PySem.W.kitOne K (.type "int") (.type "list") = some false := kit_ty (by decide +kernel)
theorem k_str_tuple {K : PySem.W.Frag} : PySem.W.kitOne K (.type "str") (.type "tuple") = some false := kit_ty (by decide +kernel)
theorem k_str_int {K : PySem.W.Frag} : PySem.W.kitOne K (.type "str") (.type "int") = some false := kit_ty (by decide +kernel)
theorem k_str_str {K : PySem.W.Frag} : PySem.W.kitOne K (.type "str") (.type "str") = some true := kit_ty (by decide +kernel)
theorem k_str_bool {K : PySem.W.Frag} : PySem.W.kitOne K (.type "str") (.type "bool") = some false := kit_ty (by decide +kernel)
theorem k_str_list {K : PySem.W.Frag} : PySem.W.kitOne K (.type "str") (.type "list") = some false := kit_ty (by decide +kernel)
theorem k_bool_tuple {K : PySem.W.Frag} : PySem.W.kitOne K (.type "bool") (.type "tuple") = some false := kit_ty (by decide +kernel)
theorem k_bool_int {K : PySem.W.Frag} : PySem.W.kitOne K (.type "bool") (.type "int") = some true := kit_ty (by decide +kernel)
theorem k_bool_str {K : PySem.W.Frag} : PySem.W.kitOne K (.type "bool") (.type "str") = some false := kit_ty (by decide +kernel)
theorem k_bool_bool {K : PySem.W.Frag} : PySem.W.kitOne K (.type "bool") (.type "bool") = some true := kit_ty (by decide +kernel)
theorem k_bool_list {K : PySem.W.Frag} : PySem.W.kitOne K (.type "bool") (.type "list") = some false := kit_ty (by decide +kernel)
theorem k_list_tuple {K : PySem.W.Frag} : PySem.W.kitOne K (.type "list") (.type "tuple") = some false := kit_ty (by decide +kernel)
theorem k_list_int {K : PySem.W.Frag} : PySem.W.kitOne K (.type "list") (.type "int") = some false := kit_ty (by decide +kernel)
theorem k_list_str {K : PySem.W.Frag} : PySem.W.kitOne K (.type "list") (.type "str") = some false := kit_ty (by decide +kernel)
theorem k_list_bool {K : PySem.W.Frag} : PySem.W.kitOne K (.type "list") (.type "bool") = some false := kit_ty (by decide +kernel)
theorem k_list_list {K : PySem.W.Frag} : PySem.W.kitOne K (.type "list") (.type "list") = some true := kit_ty (by decide +kernel)
theorem k_NoneType_tuple {K : PySem.W.Frag} : PySem.W.kitOne K (.type "NoneType") (.type "tuple") = some false := kit_ty (by decide +kernel)
theorem k_NoneType_int {K : PySem.W.Frag} : PySem.W.kitOne K (.type "NoneType") (.type "int") = some false := kit_ty (by decide +kernel)
theorem k_NoneType_str {K : PySem.W.Frag} : PySem.W.kitOne K (.type "NoneType") (.type "str") = some false := kit_ty (by decide +kernel)
theorem k_NoneType_bool {K : PySem.W.Frag} : PySem.W.kitOne K (.type "NoneType") (.type "bool") = some false := kit_ty (by decide +kernel)
theorem k_NoneType_list {K : PySem.W.Frag} : PySem.W.kitOne K (.type "NoneType") (.type "list") = some false := kit_ty (by decide +kernel)
end Ov
/-! ### bodies as data -/
namespace Ov
open PySem PySem.Spec PyProof.Rows L2
inductive Op where
  | num | arg | way | plus | less | times | ife | thn | say | call | through
  deriving DecidableEq
def Op.name : Op → Str
  | .num => "num" | .arg => "argument" | .way => "way" | .plus => "plus" | .less => "less" | .times => "times" | .ife => "if" | .thn => "then" | .say => "say" | .call => "call" | .through => "through"
def Op.arity : Op → Nat
  | .num => 0 | .arg => 0 | .way => 0 | .plus => 2 | .less => 2 | .times => 2 | .ife => 3 | .thn => 2 | .say => 1 | .call => 1 | .through => 2
def Op.gives : Op → Bool
  | .num => true | .way => true | .call => true | _ => false
def Op.pre (o : Op) (g : Int) : List V := if o.gives then [.int g] else []
def Op.fits (n : Nat) : Op → Int → Prop
  | .num, g => 0 ≤ g ∧ g ≤ 99
  | .way, g => 0 ≤ g ∧ g < n
  | .call, g => 0 ≤ g ∧ g < n
  | _, _ => True
/-- a word and what is within it -/
inductive W where
  | mk (o : Op) (g : Int) (as : List W)
def W.op : W → Op
  | .mk o _ _ => o
def W.g : W → Int
  | .mk _ g _ => g
def W.as : W → List W
  | .mk _ _ as => as
mutual
def W.size : W → Nat
  | .mk _ _ as => 1 + W.sizes as
def W.sizes : List W → Nat
  | [] => 0
  | w :: ws => w.size + W.sizes ws
end
/-- words of n functions, at most d within one another -/
inductive WOk (n : Nat) : Nat → W → Prop
  | mk {d : Nat} {o : Op} {g : Int} {as : List W} : as.length = o.arity → o.fits n g → (∀ a ∈ as, WOk n d a) → WOk n (d + 1) (.mk o g as)
theorem WOk.mono {n d e : Nat} {w : W} (h : WOk n d w) : d ≤ e → WOk n e w := by
  induction h generalizing e with
  | @mk d o g as h1 h2 _ ih =>
    intro le
    obtain ⟨f, rfl⟩ : ∃ f, e = f + 1 := ⟨e - 1, by omega⟩
    exact .mk h1 h2 fun a ha => ih a ha (by omega)
mutual
/-- the word w stands at v -/
inductive WAt (H : Hp) : V → W → Prop
  | mk {a : Addr} {o : Op} {g : Int} {vs : List V} {as : List W} : H a = some (.tup (.str o.name :: (o.pre g ++ vs))) → WsAt H vs as → WAt H (.ref a) (.mk o g as)
inductive WsAt (H : Hp) : List V → List W → Prop
  | nil : WsAt H [] []
  | cons {v : V} {vs : List V} {w : W} {ws : List W} : WAt H v w → WsAt H vs ws → WsAt H (v :: vs) (w :: ws)
end
/-- tuples stay -/
def Keep (H H' : Hp) : Prop := ∀ a xs, H a = some (.tup xs) → H' a = some (.tup xs)
theorem Keep.refl (H : Hp) : Keep H H := fun _ _ e => e
theorem Keep.trans {H H1 H2 : Hp} (a : Keep H H1) (b : Keep H1 H2) : Keep H H2 := fun x o e => b x o (a x o e)
theorem Keep.same {H H' : Hp} (e : Same H H') : Keep H H' := fun a xs h => e a _ h
theorem Keep.but {h c : Addr} {H H' : Hp} (b : But h c H H') (d : Dr H h c) : Keep H H' := fun _ _ e => b.tup d e
theorem Keep.updL {H : Hp} {a : Addr} {xs ys : List V} (e : H a = some (.lst xs)) : Keep H (upd H a (.lst ys)) := fun b zs h => by
  rw [upd_ne (ne_of h e (by intro z; cases z))]
  exact h
mutual
theorem WAt.keep {H H' : Hp} (k : Keep H H') : ∀ {v : V} {w : W}, WAt H v w → WAt H' v w
  | _, _, .mk h r => .mk (k _ _ h) (WsAt.keep k r)
theorem WsAt.keep {H H' : Hp} (k : Keep H H') : ∀ {vs : List V} {ws : List W}, WsAt H vs ws → WsAt H' vs ws
  | _, _, .nil => .nil
  | _, _, .cons h r => .cons (h.keep k) (WsAt.keep k r)
end
theorem WsAt.length {H : Hp} : ∀ {vs : List V} {ws : List W}, WsAt H vs ws → vs.length = ws.length
  | _, _, .nil => rfl
  | _, _, .cons _ r => congrArg Nat.succ (WsAt.length r)
theorem WsAt.get {H : Hp} : ∀ {vs : List V} {ws : List W} {i : Nat} {v : V}, WsAt H vs ws → vs[i]? = some v → ∃ w, ws[i]? = some w ∧ WAt H v w
  | _, _, _, _, .nil, e => by simp at e
  | _, _, 0, _, .cons h r, e => by
    have e2 := Option.some.inj e
    subst e2
    exact ⟨_, rfl, h⟩
  | _, _, i + 1, v, .cons _ r, e => WsAt.get (i := i) (v := v) r e
theorem WAt.ref {H : Hp} {v : V} {w : W} (h : WAt H v w) : ∃ b xs, v = .ref b ∧ H b = some (.tup xs) := by
  cases h with
  | mk h _ => exact ⟨_, _, rfl, h⟩
theorem W.size_mk (o : Op) (g : Int) (as : List W) : (W.mk o g as).size = 1 + W.sizes as := by rw [W.size]
theorem W.sizes_sum : ∀ ws : List W, ((W.sizes ws : Nat) : Int) = (ws.map fun z => (z.size : Int)).sum
  | [] => by unfold W.sizes; rfl
  | w :: ws => by
    have ih := W.sizes_sum ws
    unfold W.sizes
    rw [List.map_cons, List.sum_cons]
    omega
/-- a word of n functions, d deep, at v -/
def Wd (H : Hp) (n d : Nat) (v : V) : Prop := ∃ w, WAt H v w ∧ WOk n d w
theorem Wd.keep {H H' : Hp} {n d : Nat} {v : V} (k : Keep H H') (h : Wd H n d v) : Wd H' n d v := by
  obtain ⟨w, h1, h2⟩ := h
  exact ⟨w, h1.keep k, h2⟩
theorem Wd.mono {H : Hp} {n d e : Nat} {v : V} (h : Wd H n d v) (le : d ≤ e) : Wd H n e v := by
  obtain ⟨w, h1, h2⟩ := h
  exact ⟨w, h1, h2.mono le⟩
theorem wd0 {H : Hp} {n d : Nat} {a : Addr} (o : Op) (g : Int) (e : H a = some (.tup (.str o.name :: (o.pre g ++ [])))) (f : o.fits n g) (ha : o.arity = 0 := by rfl) : Wd H n (d + 1) (.ref a) :=
  ⟨.mk o g [], .mk e .nil, .mk ha.symm f (fun _ h => by cases h)⟩
theorem wd1 {H : Hp} {n d : Nat} {a : Addr} {x : V} (o : Op) (g : Int) (e : H a = some (.tup (.str o.name :: (o.pre g ++ [x])))) (f : o.fits n g) (hx : Wd H n d x) (ha : o.arity = 1 := by rfl) : Wd H n (d + 1) (.ref a) := by
  obtain ⟨w, h1, h2⟩ := hx
  exact ⟨.mk o g [w], .mk e (.cons h1 .nil), .mk ha.symm f (fun z h => by
    rcases List.mem_singleton.mp h with rfl
    exact h2)⟩
theorem wd2 {H : Hp} {n d : Nat} {a : Addr} {x y : V} (o : Op) (g : Int) (e : H a = some (.tup (.str o.name :: (o.pre g ++ [x, y])))) (f : o.fits n g) (hx : Wd H n d x) (hy : Wd H n d y) (ha : o.arity = 2 := by rfl) : Wd H n (d + 1) (.ref a) := by
  obtain ⟨w, h1, h2⟩ := hx
  obtain ⟨u, h3, h4⟩ := hy
  exact ⟨.mk o g [w, u], .mk e (.cons h1 (.cons h3 .nil)), .mk ha.symm f (fun z h => by
    simp only [List.mem_cons, List.mem_nil_iff, or_false] at h
    rcases h with rfl | rfl
    · exact h2
    · exact h4)⟩
theorem wd3 {H : Hp} {n d : Nat} {a : Addr} {x y z : V} (o : Op) (g : Int) (e : H a = some (.tup (.str o.name :: (o.pre g ++ [x, y, z])))) (f : o.fits n g) (hx : Wd H n d x) (hy : Wd H n d y) (hz : Wd H n d z) (ha : o.arity = 3 := by rfl) : Wd H n (d + 1) (.ref a) := by
  obtain ⟨w, h1, h2⟩ := hx
  obtain ⟨u, h3, h4⟩ := hy
  obtain ⟨q, h5, h6⟩ := hz
  exact ⟨.mk o g [w, u, q], .mk e (.cons h1 (.cons h3 (.cons h5 .nil))), .mk ha.symm f (fun r h => by
    simp only [List.mem_cons, List.mem_nil_iff, or_false] at h
    rcases h with rfl | rfl | rfl
    · exact h2
    · exact h4
    · exact h6)⟩
/-! ### what a body is drawn by -/
def KindS (k : Str) : Prop := k = "number" ∨ k = "way"
structure EnvAt (H : Hp) (h c e : Addr) (n : Nat) (came : Str) (pl kl : Addr) (ps : List Int) (ks : List Str) : Prop where
  e : H e = some (.dK [(.inr "came", .str came), (.inr "plain", .ref pl), (.inr "kinds", .ref kl)])
  ck : KindS came
  p : H pl = some (.lst (ps.map V.int))
  p0 : ps ≠ []
  p8 : ps.length ≤ 8
  pn : ∀ x ∈ ps, 0 ≤ x ∧ x < n
  k : H kl = some (.lst (ks.map V.str))
  kn : ks.length = n
  n1 : 1 ≤ n
  n8 : n ≤ 8
  kk : ∀ x ∈ ks, KindS x
  ph : pl ≠ h
  pc : pl ≠ c
  kh : kl ≠ h
  kc : kl ≠ c
theorem EnvAt.but {H H' : Hp} {h c e : Addr} {n : Nat} {came : Str} {pl kl : Addr} {ps : List Int} {ks : List Str} (x : EnvAt H h c e n came pl kl ps ks) (d : Dr H h c) (b : But h c H H') : EnvAt H' h c e n came pl kl ps ks := by
  obtain ⟨m, k, ns, h1, h2, _⟩ := d
  exact { x with
    e := b _ _ (ne_of x.e h1 (by intro z; cases z)) (ne_of x.e h2 (by intro z; cases z)) x.e
    p := b _ _ x.ph x.pc x.p
    k := b _ _ x.kh x.kc x.k }
theorem EnvAt.same {H H' : Hp} {h c e : Addr} {n : Nat} {came : Str} {pl kl : Addr} {ps : List Int} {ks : List Str} (x : EnvAt H h c e n came pl kl ps ks) (b : Same H H') : EnvAt H' h c e n came pl kl ps ks :=
  { x with
    e := b _ _ x.e
    p := b _ _ x.p
    k := b _ _ x.k }
theorem kind_at {ks : List Str} (hk : ∀ x ∈ ks, KindS x) {r : Int} (h0 : 0 ≤ r) (h1 : r < ks.length) : ∃ k, KindS k ∧ atI (ks.map V.str) r = some (.str k) := by
  obtain ⟨j, rfl⟩ : ∃ j : Nat, r = (j : Int) := ⟨r.toNat, by omega⟩
  have hl : j < ks.length := by omega
  refine ⟨ks[j], hk _ (List.getElem_mem hl), ?_⟩
  exact atI_nat (by rw [List.getElem?_map, List.getElem?_eq_getElem hl]; rfl)
theorem int_at {ps : List Int} {P : Int → Prop} (hk : ∀ x ∈ ps, P x) {r : Int} (h0 : 0 ≤ r) (h1 : r < ps.length) : ∃ k, P k ∧ atI (ps.map V.int) r = some (.int k) := by
  obtain ⟨j, rfl⟩ : ∃ j : Nat, r = (j : Int) := ⟨r.toNat, by omega⟩
  have hl : j < ps.length := by omega
  refine ⟨ps[j], hk _ (List.getElem_mem hl), ?_⟩
  exact atI_nat (by rw [List.getElem?_map, List.getElem?_eq_getElem hl]; rfl)
theorem val_at {vs : List V} {P : V → Prop} (hk : ∀ x ∈ vs, P x) {r : Int} (h0 : 0 ≤ r) (h1 : r < vs.length) : ∃ k, P k ∧ atI vs r = some k := by
  obtain ⟨j, rfl⟩ : ∃ j : Nat, r = (j : Int) := ⟨r.toNat, by omega⟩
  have hl : j < vs.length := by omega
  refine ⟨vs[j], hk _ (List.getElem_mem hl), ?_⟩
  exact atI_nat (List.getElem?_eq_getElem hl)
theorem two_at (x y : V) {r : Int} (h0 : 0 ≤ r) (h1 : r < 2) : atI [x, y] r = some (if r = 0 then x else y) := by
  rcases (by omega : r = 0 ∨ r = 1) with rfl | rfl <;> rfl
/-- the shape of a body's promise: a word of n functions comes, d deep -/
def spWord (n : Nat) (d : Nat) (pre : List V → Hp → Addr → Addr → Prop) : Sp := fun vs H Q _ => ∃ h c, pre vs H h c ∧ Dr H h c ∧
  ∀ v H', But h c H H' → Dr H' h c → Wd H' n d v → Q v H'
def preE (n : Nat) (h c e : Addr) (H : Hp) : Prop := ∃ came pl kl ps ks, EnvAt H h c e n came pl kl ps ks
theorem preE.but {H H' : Hp} {h c e : Addr} {n : Nat} (x : preE n h c e H) (d : Dr H h c) (b : But h c H H') : preE n h c e H' := by
  obtain ⟨came, pl, kl, ps, ks, x⟩ := x
  exact ⟨came, pl, kl, ps, ks, x.but d b⟩
def preLeaf (n : Nat) : List V → Hp → Addr → Addr → Prop := fun vs H h c => ∃ e k, vs = [.ref h, .ref e, .str k] ∧ KindS k ∧ preE n h c e H
def preBody (n m : Nat) : List V → Hp → Addr → Addr → Prop := fun vs H h c => ∃ e k z, vs = [.ref h, .ref e, .str k, .int z] ∧ z = (m : Int) ∧ KindS k ∧ preE n h c e H
def preDeep (n m : Nat) : List V → Hp → Addr → Addr → Prop := fun vs H h c => ∃ e z, vs = [.ref h, .ref e, .int z] ∧ z = (m : Int) ∧ preE n h c e H
theorem kindN : KindS "number" := .inl rfl
theorem kindW : KindS "way" := .inr rfl
theorem two_kinds (r : Int) (h0 : 0 ≤ r) (h1 : r < 2) : ∃ k, KindS k ∧ atI [V.str "number", .str "way"] r = some (.str k) := by
  rcases (by omega : r = 0 ∨ r = 1) with rfl | rfl
  · exact ⟨_, kindN, rfl⟩
  · exact ⟨_, kindW, rfl⟩
theorem three_words (r : Int) (h0 : 0 ≤ r) (h1 : r < 3) : ∃ o : Op, o.arity = 2 ∧ o.gives = false ∧ (∀ n g, o.fits n g) ∧ atI [V.str "plus", .str "less", .str "times"] r = some (.str o.name) := by
  rcases (by omega : r = 0 ∨ r = 1 ∨ r = 2) with rfl | rfl | rfl
  · exact ⟨.plus, rfl, rfl, fun _ _ => trivial, rfl⟩
  · exact ⟨.less, rfl, rfl, fun _ _ => trivial, rfl⟩
  · exact ⟨.times, rfl, rfl, fun _ _ => trivial, rfl⟩
theorem Dr.new {H : Hp} {h c l : Addr} (d : Dr H h c) (hl : H l = none) : l ≠ h ∧ l ≠ c := by
  obtain ⟨m, k, ns, h1, h2, _⟩ := d
  exact ⟨(ne_of_none h1 hl).symm, (ne_of_none h2 hl).symm⟩
theorem wds_keep {H H' : Hp} {n d : Nat} {vs : List V} (k : Keep H H') (h : ∀ v ∈ vs, Wd H n d v) : ∀ v ∈ vs, Wd H' n d v := fun v hv => (h v hv).keep k
theorem wds_app {H : Hp} {n d : Nat} {vs us : List V} (h : ∀ v ∈ vs, Wd H n d v) (h' : ∀ v ∈ us, Wd H n d v) : ∀ v ∈ vs ++ us, Wd H n d v := fun v hv => by
  rcases List.mem_append.mp hv with q | q
  · exact h v q
  · exact h' v q
theorem wds_one {H : Hp} {n d : Nat} {v : V} (h : Wd H n d v) : ∀ u ∈ [v], Wd H n d u := fun u hu => by
  rcases List.mem_singleton.mp hu with rfl
  exact h
end Ov
namespace Ov
open PySem PySem.Spec PyProof.Rows L2
def spWords (d : Nat) : Sp := fun vs H Q _ => ∃ v n u, vs = [v] ∧ WAt H v u ∧ WOk n d u ∧ ∀ H', Same H H' → Q (.int (u.size : Int)) H'
end Ov
/-! ### programs -/
namespace Ov
open PySem PySem.Spec PyProof.Rows L2
/-- the function f stands at v -/
def FAt (H : Hp) (v : V) (f : Int × W) : Prop := ∃ b bv, v = .ref b ∧ H b = some (.tup [.int f.1, bv]) ∧ WAt H bv f.2
def PrAt (H : Hp) (v : V) (p : List (Int × W)) : Prop := ∃ a vs, v = .ref a ∧ H a = some (.tup vs) ∧ Paired (FAt H) vs p
def FOk (n : Nat) (f : Int × W) : Prop := 1 ≤ f.1 ∧ f.1 ≤ 8 ∧ WOk n 7 f.2 ∧ f.2.size ≤ 40
structure PrOk (p : List (Int × W)) : Prop where
  l1 : 1 ≤ p.length
  l8 : p.length ≤ 8
  f : ∀ f ∈ p, FOk p.length f
theorem FAt.keep {H H' : Hp} {v : V} {f : Int × W} (k : Keep H H') (h : FAt H v f) : FAt H' v f := by
  obtain ⟨b, bv, e, h1, h2⟩ := h
  exact ⟨b, bv, e, k _ _ h1, h2.keep k⟩
theorem PrAt.keep {H H' : Hp} {v : V} {p : List (Int × W)} (k : Keep H H') (h : PrAt H v p) : PrAt H' v p := by
  obtain ⟨a, vs, e, h1, h2⟩ := h
  exact ⟨a, vs, e, k _ _ h1, L2.Paired.mapP h2 fun _ _ z => z.keep k⟩
theorem wok0 {n : Nat} {w : W} : ¬ WOk n 0 w := fun h => nomatch h
theorem wok1_size {n : Nat} {w : W} (h : WOk n 1 w) : w.size = 1 := by
  cases h with
  | @mk d o g as h1 h2 h3 =>
    cases as with
    | nil => rw [W.size_mk]; rfl
    | cons a r => exact absurd (h3 a List.mem_cons_self) wok0
theorem three_kinds (r : Int) (h0 : 0 ≤ r) (h1 : r < 3) : ∃ k, KindS k ∧ atI [V.str "number", .str "number", .str "way"] r = some (.str k) := by
  rcases (by omega : r = 0 ∨ r = 1 ∨ r = 2) with rfl | rfl | rfl
  · exact ⟨_, kindN, rfl⟩
  · exact ⟨_, kindN, rfl⟩
  · exact ⟨_, kindW, rfl⟩
theorem four_kinds (r : Int) (h0 : 0 ≤ r) (h1 : r < 4) : ∃ k, KindS k ∧ atI [V.str "number", .str "number", .str "number", .str "way"] r = some (.str k) := by
  rcases (by omega : r = 0 ∨ r = 1 ∨ r = 2 ∨ r = 3) with rfl | rfl | rfl | rfl
  · exact ⟨_, kindN, rfl⟩
  · exact ⟨_, kindN, rfl⟩
  · exact ⟨_, kindN, rfl⟩
  · exact ⟨_, kindW, rfl⟩
theorem two_sizes (r : Int) (h0 : 0 ≤ r) (h1 : r < 2) : ∃ z : Int, 1 ≤ z ∧ z ≤ 8 ∧ atI [V.int 2, .int 8] r = some (.int z) := by
  rcases (by omega : r = 0 ∨ r = 1) with rfl | rfl
  · exact ⟨2, by decide, by decide, rfl⟩
  · exact ⟨8, by decide, by decide, rfl⟩
/-- a program is drawn -/
def spProgram : Sp := fun vs H Q _ => ∃ h c m, vs = [.ref h, .int m] ∧ Dr H h c ∧ 1 ≤ m ∧ m ≤ 8 ∧ ∀ v H' p, But h c H H' → Dr H' h c → PrAt H' v p → PrOk p → Q v H'
/-- the bodies' promises, for any number of functions and any depth up to 4 -/
def spBodies : Sp := fun vs H Q E => ∃ i : Nat × _root_.Fin 5, spWord i.1 (i.2.val + 2) (preBody i.1 i.2.val) vs H Q E
def spLeaves : Sp := fun vs H Q E => ∃ n : Nat, spWord n 1 (preLeaf n) vs H Q E
end Ov
/-! ### trees as data -/
namespace Ov
open PySem PySem.Spec PyProof.Rows L2
theorem flat_set {α : Type} (x : α) : ∀ (ps : List (List α)) (k : Nat) (p : List α), ps[k]? = some p → (ps.set k (p ++ [x])).flatten.Perm (ps.flatten ++ [x])
  | [], k, p, h => by simp at h
  | q :: r, 0, p, h => by
    have e : q = p := Option.some.inj h
    subst e
    show ((q ++ [x]) ++ r.flatten).Perm ((q ++ r.flatten) ++ [x])
    rw [List.append_assoc, List.append_assoc]
    exact List.Perm.append_left q List.perm_append_comm
  | q :: r, k + 1, p, h => by
    show (q ++ (r.set k (p ++ [x])).flatten).Perm ((q ++ r.flatten) ++ [x])
    rw [List.append_assoc]
    exact List.Perm.append_left q (flat_set x r k p h)
theorem erase_perm {α : Type} : ∀ (l : List α) (k : Nat) (x : α), l[k]? = some x → (x :: l.eraseIdx k).Perm l
  | [], k, x, h => by simp at h
  | a :: r, 0, x, h => by
    have e : a = x := Option.some.inj h
    subst e
    exact List.Perm.refl _
  | a :: r, k + 1, x, h => by
    have ih := erase_perm r k x h
    show (x :: a :: r.eraseIdx k).Perm (a :: r)
    exact (List.Perm.swap a x _).trans (ih.cons a)
def nV (p : List Nat) : List V := p.map fun (x : Nat) => V.int (x : Int)
theorem nV_len (p : List Nat) : (nV p).length = p.length := List.length_map _
theorem nV_get {p : List Nat} {k x : Nat} (h : p[k]? = some x) : (nV p)[k]? = some (.int (x : Int)) := by unfold nV; rw [List.getElem?_map, h]; rfl
theorem nV_app (p : List Nat) (x : Nat) : nV (p ++ [x]) = nV p ++ [.int (x : Int)] := List.map_append
theorem nV_erase : ∀ (p : List Nat) (k : Nat), (nV p).eraseIdx k = nV (p.eraseIdx k)
  | [], _ => rfl
  | _ :: _, 0 => rfl
  | a :: r, k + 1 => congrArg (V.int (a : Int) :: ·) (nV_erase r k)
theorem rgV_nV (n : Nat) : rgV 0 (n : Int) = nV (List.range n) := by
  unfold rgV nV
  rw [show ((n : Int) - 0).toNat = n by omega]
  refine List.map_congr_left fun i _ => ?_
  rw [Int.zero_add]
/-- what parts of i functions are -/
structure PInv (i : Nat) (ps : List (List Nat)) : Prop where
  ne : ∀ p ∈ ps, p ≠ []
  rise : ∀ p ∈ ps, p.Pairwise (· < ·)
  firsts : (ps.map (·.headD 0)).Pairwise (· < ·)
  perm : ps.flatten.Perm (List.range i)
theorem PInv.lt {i : Nat} {ps : List (List Nat)} (h : PInv i ps) {p : List Nat} (hp : p ∈ ps) {x : Nat} (hx : x ∈ p) : x < i :=
  List.mem_range.mp (h.perm.mem_iff.mp (List.mem_flatten.mpr ⟨p, hp, hx⟩))
theorem PInv.head {i : Nat} {ps : List (List Nat)} (h : PInv i ps) {p : List Nat} (hp : p ∈ ps) : p.headD 0 < i := by
  have ne := h.ne p hp
  cases p with
  | nil => exact absurd rfl ne
  | cons a r => exact h.lt hp List.mem_cons_self
theorem PInv.app {i : Nat} {ps : List (List Nat)} (h : PInv i ps) : PInv (i + 1) (ps ++ [[i]]) where
  ne := fun p hp => by
    rcases List.mem_append.mp hp with z | z
    · exact h.ne p z
    · rw [List.mem_singleton.mp z]; exact List.cons_ne_nil _ _
  rise := fun p hp => by
    rcases List.mem_append.mp hp with z | z
    · exact h.rise p z
    · rw [List.mem_singleton.mp z]; exact List.pairwise_singleton _ _
  firsts := by
    rw [List.map_append, List.pairwise_append]
    refine ⟨h.firsts, List.pairwise_singleton _ _, fun a ha b hb => ?_⟩
    obtain ⟨p, hp, rfl⟩ := List.mem_map.mp ha
    have e : b = i := by simpa using hb
    rw [e]
    exact h.head hp
  perm := by
    rw [List.flatten_append, List.range_succ]
    exact List.Perm.append_right _ h.perm
theorem mem_set_cases {α : Type} {l : List α} {k : Nat} {x y : α} (h : y ∈ l.set k x) : y ∈ l ∨ y = x := List.mem_or_eq_of_mem_set h
theorem PInv.set {i k : Nat} {ps : List (List Nat)} {p : List Nat} (h : PInv i ps) (hk : ps[k]? = some p) : PInv (i + 1) (ps.set k (p ++ [i])) where
  ne := fun q hq => by
    rcases mem_set_cases hq with z | z
    · exact h.ne q z
    · rw [z]; simp
  rise := fun q hq => by
    rcases mem_set_cases hq with z | z
    · exact h.rise q z
    · rw [z, List.pairwise_append]
      refine ⟨h.rise p (List.mem_of_getElem? hk), List.pairwise_singleton _ _, fun a ha b hb => ?_⟩
      rw [List.mem_singleton.mp hb]
      exact h.lt (List.mem_of_getElem? hk) ha
  firsts := by
    have e : (ps.set k (p ++ [i])).map (·.headD 0) = ps.map (·.headD 0) := by
      rw [List.map_set]
      have ne := h.ne p (List.mem_of_getElem? hk)
      have e2 : (p ++ [i]).headD 0 = p.headD 0 := by
        cases p with
        | nil => exact absurd rfl ne
        | cons a r => rfl
      rw [e2]
      refine List.ext_getElem? fun j => ?_
      rw [List.getElem?_set]
      split
      · rename_i z
        subst z
        rw [List.getElem?_map, hk]
        split
        · rfl
        · rename_i y
          have := (List.getElem?_eq_some_iff.mp hk).1
          rw [List.length_map] at y
          exact absurd this y
      · rfl
    rw [e]
    exact h.firsts
  perm := by
    rw [List.range_succ]
    exact (flat_set i ps k p hk).trans (List.Perm.append_right _ h.perm)
/-- on what parts stand, by their order -/
def SInv (od : List Nat) (st : List Int) : Prop := ∀ (t x : Nat), od[t]? = some x → st[x]? = some (-1) ∨ ∃ (j y : Nat), j < t ∧ od[j]? = some y ∧ st[x]? = some ((y : Nat) : Int)
theorem SInv.set {od : List Nat} {st : List Int} {k x : Nat} {z : Int} (h : SInv od st) (nd : od.Nodup) (hk : od[k]? = some x) (hx : x < st.length) (hz : z = -1 ∨ ∃ (j y : Nat), j < k ∧ od[j]? = some y ∧ z = ((y : Nat) : Int)) : SInv od (st.set x z) := fun t y hy => by
  by_cases e : x = y
  · subst e
    have et : t = k := by
      obtain ⟨h1, e1⟩ := List.getElem?_eq_some_iff.mp hy
      obtain ⟨h2, e2⟩ := List.getElem?_eq_some_iff.mp hk
      exact (List.getElem_inj nd).mp (e1.trans e2.symm)
    subst et
    rw [List.getElem?_set_self hx]
    rcases hz with rfl | ⟨j, y, h1, h2, rfl⟩
    · exact .inl rfl
    · exact .inr ⟨j, y, h1, h2, rfl⟩
  · rw [List.getElem?_set_ne e]
    exact h t y hy
/-- a tree of n functions: parts, on what they stand -/
structure TrOk (n : Nat) (ps : List (List Nat)) (st : List Int) : Prop where
  p : PInv n ps
  len : st.length = ps.length
  ord : ∃ od : List Nat, od.Perm (List.range ps.length) ∧ SInv od st
def PartAt (H : Hp) (v : V) (p : List Nat) : Prop := ∃ b, v = .ref b ∧ H b = some (.tup (nV p))
def TrAt (H : Hp) (v : V) (ps : List (List Nat)) (st : List Int) : Prop := ∃ a pa sa vs, v = .ref a ∧ H a = some (.tup [.ref pa, .ref sa]) ∧ H pa = some (.tup vs) ∧ Paired (PartAt H) vs ps ∧ H sa = some (.tup (st.map V.int))
theorem PartAt.keep {H H' : Hp} {v : V} {p : List Nat} (k : Keep H H') (h : PartAt H v p) : PartAt H' v p := by
  obtain ⟨b, e, h⟩ := h
  exact ⟨b, e, k _ _ h⟩
theorem TrAt.keep {H H' : Hp} {v : V} {ps : List (List Nat)} {st : List Int} (k : Keep H H') (h : TrAt H v ps st) : TrAt H' v ps st := by
  obtain ⟨a, pa, sa, vs, e, h1, h2, h3, h4⟩ := h
  exact ⟨a, pa, sa, vs, e, k _ _ h1, k _ _ h2, L2.Paired.mapP h3 fun _ _ z => z.keep k, k _ _ h4⟩
/-- lists that grow: each its own -/
def LsAt (H : Hp) (bs : List Addr) (qs : List (List Nat)) : Prop := Paired (fun b q => H b = some (.lst (nV q))) bs qs
theorem LsAt.keep {H H' : Hp} : ∀ {bs : List Addr} {qs : List (List Nat)}, (∀ b ∈ bs, ∀ o, H b = some o → H' b = some o) → LsAt H bs qs → LsAt H' bs qs
  | _, _, _, .nil => .nil
  | _, _, k, .cons h r => .cons (k _ List.mem_cons_self _ h) (LsAt.keep (fun b hb => k b (List.mem_cons_of_mem _ hb)) r)
theorem LsAt.get {H : Hp} : ∀ {bs : List Addr} {qs : List (List Nat)} {k : Nat} {q : List Nat}, LsAt H bs qs → qs[k]? = some q → ∃ b, bs[k]? = some b ∧ H b = some (.lst (nV q))
  | _, _, _, _, .nil, e => by simp at e
  | _, _, 0, q, .cons h r, e => by
    have e2 := Option.some.inj e
    subst e2
    exact ⟨_, rfl, h⟩
  | _, _, k + 1, q, .cons _ r, e => LsAt.get (k := k) (q := q) r e
theorem LsAt.set {H : Hp} : ∀ {bs : List Addr} {qs : List (List Nat)} {k : Nat} {b : Addr} {q' : List Nat}, LsAt H bs qs → bs.Nodup → bs[k]? = some b → LsAt (upd H b (.lst (nV q'))) bs (qs.set k q')
  | _, _, _, _, _, .nil, _, e => by simp at e
  | a :: bs, _ :: qs, 0, b, q', .cons h r, nd, e => by
    have e2 : a = b := Option.some.inj e
    subst e2
    refine .cons upd_same (LsAt.keep (fun c hc o ho => ?_) r)
    have ne : c ≠ a := fun z => by rw [z] at hc; exact (List.nodup_cons.mp nd).1 hc
    rw [upd_ne ne]
    exact ho
  | a :: bs, _ :: qs, k + 1, b, q', .cons h r, nd, e => by
    have hb : b ∈ bs := List.mem_of_getElem? (show bs[k]? = some b from e)
    have ne : a ≠ b := fun z => by rw [z] at nd; exact (List.nodup_cons.mp nd).1 hb
    exact .cons (by rw [upd_ne ne]; exact h) (LsAt.set r (List.nodup_cons.mp nd).2 e)
theorem LsAt.mem {H : Hp} : ∀ {bs : List Addr} {qs : List (List Nat)}, LsAt H bs qs → ∀ b ∈ bs, ∃ q, H b = some (.lst (nV q))
  | _, _, .nil, b, hb => nomatch hb
  | _, _, .cons h r, b, hb => by
    rcases List.mem_cons.mp hb with z | z
    · rw [z]; exact ⟨_, h⟩
    · exact LsAt.mem r b z
theorem cut_to (xs : List V) (k : Nat) (h : k ≤ xs.length) : cutV xs none (some (k : Int)) = xs.take k := by
  unfold cutV
  rw [HT.sIx_none, HT.sIx_nat, Nat.min_eq_left h, List.drop_zero, Nat.sub_zero]
theorem mem_flat_len : ∀ {ps : List (List Nat)} {p : List Nat}, p ∈ ps → p.length ≤ ps.flatten.length
  | q :: r, p, h => by
    rw [List.flatten_cons, List.length_append]
    rcases List.mem_cons.mp h with z | z
    · rw [z]; omega
    · have := mem_flat_len z; omega
theorem flat_len : ∀ {ps : List (List Nat)}, (∀ p ∈ ps, p ≠ []) → ps.length ≤ ps.flatten.length
  | [], _ => Nat.le_refl _
  | q :: r, h => by
    have h1 := flat_len (ps := r) fun p hp => h p (List.mem_cons_of_mem _ hp)
    have h2 := List.length_pos_iff.mpr (h q List.mem_cons_self)
    rw [List.flatten_cons, List.length_append, List.length_cons]
    omega
theorem PInv.plen {i : Nat} {ps : List (List Nat)} (h : PInv i ps) {p : List Nat} (hp : p ∈ ps) : p.length ≤ i := by
  have h1 := mem_flat_len hp
  have h2 := h.perm.length_eq
  rw [List.length_range] at h2
  omega
theorem PInv.count {i : Nat} {ps : List (List Nat)} (h : PInv i ps) : ps.length ≤ i := by
  have h1 := flat_len h.ne
  have h2 := h.perm.length_eq
  rw [List.length_range] at h2
  omega
theorem PInv.pos {i : Nat} {ps : List (List Nat)} (h : PInv i ps) (hi : 0 < i) : 0 < ps.length := by
  cases ps with
  | nil =>
    have h2 := h.perm.length_eq
    rw [List.length_range] at h2
    exact absurd h2 (by show ¬ 0 = i; omega)
  | cons a r => exact Nat.succ_pos _
theorem set_last (ps : List (List Nat)) (x : List Nat) : (ps ++ [[]]).set ps.length x = ps ++ [x] := by
  rw [List.set_append_right (h := Nat.le_refl _), Nat.sub_self]
  rfl
theorem rep_neg (m : Nat) : (List.replicate ((m : Nat) : Int).toNat [V.int (-1)]).flatten = (List.replicate m (-1 : Int)).map V.int := by
  rw [Int.toNat_natCast]
  induction m with
  | zero => rfl
  | succ m ih =>
    show [V.int (-1)] ++ (List.replicate m [V.int (-1)]).flatten = _
    rw [ih]
    rfl
theorem SInv.start (od : List Nat) (m : Nat) (h : ∀ x ∈ od, x < m) : SInv od (List.replicate m (-1)) := fun t x hx => .inl (by
  rw [List.getElem?_replicate, if_pos (h x (List.mem_of_getElem? hx))])
/-- a tree is drawn -/
def spTree : Sp := fun vs H Q _ => ∃ h c a n vp, vs = [.ref h, .ref a] ∧ Dr H h c ∧ H a = some (.tup vp) ∧ vp.length = n ∧ 1 ≤ n ∧ n ≤ 8 ∧ ∀ v H' ps st, But h c H H' → Dr H' h c → TrAt H' v ps st → TrOk n ps st → Q v H'
end Ov
/-! ### enumerate and zip over lists and tuples alike -/
namespace Ov
open PySem PySem.Spec PyProof.Rows L2
/-- what is walked: a list | a tuple -/
inductive Sk where
  | l | t
def Sk.S (K : PySem.W.Frag) (H : Hp) (a : Addr) (xs : List V) : Sk → Prop
  | .l => SqL K H a xs
  | .t => SqT K H a xs
def Sk.It (h : Heap) (it a : Addr) (i : Nat) : Sk → Prop
  | .l => h.IsListIter it a i
  | .t => h.IsTupleIter it a i
def Sk.Is (h : Heap) (a : Addr) (its : Array Value) : Sk → Prop
  | .l => h.IsList a its
  | .t => h.IsTuple a its
def Sk.new (a : Addr) : Sk → Obj
  | .l => { cls := .type "list_iterator", data := .fields #[.ref a, .int 0 0] }
  | .t => { cls := .type "tuple_iterator", data := .fields #[.ref a, .int 0 0] }
def Sk.St (k : Sk) (it a : Addr) (its : Array Value) : Nat → Heap → Prop := fun i h => k.It h it a i ∧ k.Is h a its
theorem Sk.draws (k : Sk) {P : Program} {w : World} {A : Around} (hh : A.handled = none) (it a : Addr) (ne : a ≠ it) (its : Array Value) : Draws P w A it [it, a] its.size (fun i v => its[i]? = some v) (k.St it a its) := by
  cases k
  · exact Draws.list hh it a ne its
  · exact Draws.tuple hh it a ne its
theorem Sk.begins (k : Sk) (a : Addr) (its : Array Value) : Begins (.ref a) (k.new a) (fun h => k.Is h a its) := by
  cases k
  · exact begins_list a its
  · exact begins_tuple a its
theorem Sk.it_obj {k : Sk} {h : Heap} {it a : Addr} {i : Nat} (x : k.It h it a i) : ∃ o, h.get? it = some o ∧ ∀ v, o.data ≠ .cell v := by
  cases k
  · obtain ⟨o, h1, _, h2⟩ := x
    exact ⟨o, h1, fun v z => by rw [h2] at z; cases z⟩
  · obtain ⟨o, h1, _, h2⟩ := x
    exact ⟨o, h1, fun v z => by rw [h2] at z; cases z⟩
theorem Sk.it_keep {k : Sk} {h g : Heap} {it a : Addr} {i : Nat} (x : k.It h it a i) (q : ∀ o, h.get? it = some o → g.get? it = some o) : k.It g it a i := by
  cases k
  · exact Heap.IsListIter.at x q
  · exact Heap.IsTupleIter.at x q
theorem Sk.it_new {k : Sk} {h : Heap} {it a : Addr} (e : h.get? it = some (k.new a)) : k.It h it a 0 := by
  cases k
  · exact ⟨_, e, rfl, rfl⟩
  · exact ⟨_, e, rfl, rfl⟩
theorem Sk.is_lt {k : Sk} {h : Heap} {a : Addr} {its : Array Value} (x : k.Is h a its) : a < h.objs.size := by
  cases k
  · obtain ⟨o, e, _⟩ := x
    exact Heap.lt_size e
  · obtain ⟨o, e, _⟩ := x
    exact Heap.lt_size e
theorem Sk.read {k : Sk} {X : Cx} {pins : List (Addr × Obj)} {σ : L2.St} {H : Hp} {s : Shared} {a : Addr} {xs : List V} (I : Inv X pins σ H s) (h : k.S X.K H a xs) : ∃ its, Vals xs its ∧ k.Is s.heap a its.toArray := by
  cases k
  · obtain ⟨its, r, p, _⟩ := I.list h
    exact ⟨its, r, p.isList⟩
  · obtain ⟨its, r, p, _⟩ := I.tuple h
    exact ⟨its, r, p⟩
theorem Sk.inj {k : Sk} {X : Cx} {pins : List (Addr × Obj)} {σ : L2.St} {H : Hp} {s : Shared} {a : Addr} {xs ys : List V} (I : Inv X pins σ H s) (h : k.S X.K H a xs) (h' : k.S X.K H a ys) : xs = ys := by
  cases k
  · exact I.list_inj h h'
  · exact I.tuple_inj h h'
/-- enumerate: each item in a new pair -/
def EnI (K : PySem.W.Frag) (k : Sk) (a : Addr) : L2.It where
  go := fun i H => ∃ (xs : List V) (x : V), k.S K H a xs ∧ xs[i]? = some x
  yld := fun i H v H' => ∃ T x, v = .ref T ∧ H T = none ∧ H' = upd H T (.tup [.int (i : Nat), x]) ∧ ∀ xs, k.S K H a xs → xs[i]? = some x
  stop := fun i H => ∃ xs : List V, k.S K H a xs ∧ i = xs.length
/-- zip -/
def ZpI (K : PySem.W.Frag) (k m : Sk) (a b : Addr) : L2.It where
  go := fun i H => ∃ (xs ys : List V) (x y : V), k.S K H a xs ∧ m.S K H b ys ∧ xs[i]? = some x ∧ ys[i]? = some y
  yld := fun i H v H' => ∃ T x y, v = .ref T ∧ H T = none ∧ H' = upd H T (.tup [x, y]) ∧ (∀ xs, k.S K H a xs → xs[i]? = some x) ∧ ∀ ys, m.S K H b ys → ys[i]? = some y
  stop := fun i H => ∃ xs ys : List V, k.S K H a xs ∧ m.S K H b ys ∧ i ≤ xs.length ∧ i ≤ ys.length ∧ (i = xs.length ∨ i = ys.length)
/-- the cells of an enumerate -/
def EnT (k : Sk) (e it a : Addr) : Nat → Heap → Prop := fun i h => (∃ old, IsEnum h e it ((i : Nat) : Int) old) ∧ k.It h it a i ∧ e ≠ it ∧ a ≠ it ∧ e ≠ a
theorem two_mem {b e it : Addr} (h : b ∈ [e, it]) : b = e ∨ b = it := by simpa using h
theorem en_turn {P : Program} {w : World} {K : PySem.W.Frag} {elts : List Expr} {kk : Nat} {tpos : Pos} (k : Sk) (e it a : Addr) : Turn P w K (.Tuple elts kk tpos) (EnI K k a) [e, it] e (EnT k e it a) := by
  refine { mem := List.mem_cons_self, obj := ?_, keep := ?_, item := ?_, done := ?_, self := ?_ }
  · rintro i h ⟨⟨old, h1⟩, h2, _⟩ b hb
    rcases two_mem hb with z | z
    · refine ⟨_, by rw [z]; exact h1, ?_⟩
      intro v y
      cases y
    · rw [z]
      exact Sk.it_obj h2
  · rintro i h g ⟨⟨old, h1⟩, h2, h3⟩ q
    exact ⟨⟨old, q e (by simp) _ h1⟩, Sk.it_keep h2 (q it (by simp)), h3⟩
  · rintro X rfl rfl rfl hc i pins s σ H E I hf ⟨⟨old, h1⟩, h2, n1, n2, n3⟩ ⟨xs, x, hq, hx⟩
    obtain ⟨its, rv, his⟩ := Sk.read I hq
    obtain ⟨u, hu, ru⟩ := rv.get hx
    have hlt : i < its.toArray.size := by rw [List.size_toArray]; exact (List.getElem?_eq_some_iff.mp hu).1
    have hel : e < s.heap.objs.size := Heap.lt_size h1
    have hil : it < s.heap.objs.size := by obtain ⟨_, z, _⟩ := Sk.it_obj h2; exact Heap.lt_size z
    refine wpAny_pyNext_enum_itemD (k.draws (A := X.A.in1) (I.ok.hd hc) it a n2 its.toArray) h1 ⟨h2, his⟩ hlt n1 (by simp; exact ⟨n1, n3⟩) fun y g tk py out st hT hsz hk => ?_
    obtain rfl : y = u := by
      have z : its[i]? = some y := by simpa using py
      exact Option.some.inj (z.symm.trans hu)
    refine ⟨_, rfl, wpAny_letOwnedTupleGo_enum (s := { s with heap := g, toks := tk + 1 }) out fun g2 he2 sb => ?_⟩
    have hT2 : g2.get? s.heap.objs.size = some { cls := .type "tuple", data := .seq #[.int i tk, y] } := by rw [sb.2 _ (Nat.ne_of_gt hel)]; exact hT
    have ok : ObjOk X.prog X.w (upd H s.heap.objs.size (.tup [.int (i : Nat), x])) g2 s.heap.objs.size (.tup [.int (i : Nat), x]) := ⟨sml 2, [.int i tk, y], .cons ⟨tk, rfl⟩ (.cons ru .nil), ⟨_, hT2, rfl, _, rfl⟩⟩
    have I2 : Inv X pins σ (upd H s.heap.objs.size (.tup [.int (i : Nat), x])) { s with heap := g2, toks := tk + 1 } := by
      refine I.turnedNew (ch := [e, it]) (fun b o hb q => ?_) hf (Nat.le_refl _) ok
      have b1 : b ≠ e := fun z => hb (by rw [z]; simp)
      have b2 : b ≠ it := fun z => hb (by rw [z]; simp)
      rw [sb.2 b b1]
      exact hk b o b1 b2 q
    refine ⟨.ref s.heap.objs.size, _, I2, rfl, ⟨_, x, rfl, I.hok.fresh (Nat.le_refl _), rfl, fun ys hy => ?_⟩, ⟨⟨y, ?_⟩, ?_, n1, n2, n3⟩, fun b hb => ?_⟩
    · rw [Sk.inj I hy hq]
      exact hx
    · rw [show ((i + 1 : Nat) : Int) = (i : Int) + 1 by omega]
      exact he2
    · exact Sk.it_keep st.1 fun o z => by rw [sb.2 it n1.symm]; exact z
    · have b1 : b ≠ s.heap.objs.size := by
        rcases two_mem hb with z | z
        · rw [z]; exact Nat.ne_of_lt hel
        · rw [z]; exact Nat.ne_of_lt hil
      rw [upd_ne b1]
      exact (hf b hb).1
  · rintro X rfl rfl rfl hc i pins s σ H E I hf ⟨⟨old, h1⟩, h2, n1, n2, n3⟩ ⟨xs, hq, hx⟩
    subst hx
    obtain ⟨its, rv, his⟩ := Sk.read I hq
    have el : xs.length = its.toArray.size := by rw [List.size_toArray]; exact rv.length
    rw [el] at h2
    obtain ⟨f0, f1, f2, f3, f4, f5⟩ := hf it (by simp)
    exact wpAny_pyNext_enum_endD (k.draws (A := X.A.in1) (I.ok.hd hc) it a n2 its.toArray) h1 ⟨h2, his⟩ fun g q => ⟨rfl, I.turned (t' := s.toks) (fun b o hb z => q b o hb z) f0 f1 f3 f4 f5⟩
  · rintro A i s Q E ⟨⟨old, h1⟩, _⟩ q
    exact wpAny_pyIter_enum h1 q
/-- enumerate(x) makes two cells -/
theorem en_meets {v : Value} {o : Obj} {C : Heap → Prop} (B : Begins v o C) : Meets (Builtin.«enumerate.__new__» ⟨[.type "enumerate", v], []⟩) (fun _ R s => C s.heap ∧
    R (.ok (.ret (.ref (s.heap.push o).objs.size))) { s with heap := (s.heap.push o).push { cls := .type "enumerate", data := .fields #[.none, .bool false, .ref s.heap.objs.size, rawInt 0, .none, .none] } }) := .of_wp fun prog w A R s h => by
  obtain ⟨hp, gs, dr, tk, os⟩ := s
  obtain ⟨hC, h⟩ := h
  have sub := sub_enumerate
  have go : ∀ {B1 : Around} {E Q : Value → Shared → Prop}, Q (.ref hp.objs.size) ⟨hp.push o, gs, dr, tk, os⟩ → wpAny (model prog w) B1 (pyIter v) Q E ⟨hp, gs, dr, tk, os⟩ := fun q => B.iter prog w _ _ ⟨hp, gs, dr, tk, os⟩ _ hC q
  wp_walk using go
  refine wpAny_stack_any fun st => wpAny_pure ?_
  split
  · rename_i c _ _ _ _ _
    cases (c == Value.type "enumerate") <;> (wp_walk using go; exact ⟨_, rfl, h⟩)
  · wp_walk using go
    exact ⟨_, rfl, h⟩
theorem en_call {P : Program} {w : World} {A : Around} {E Q : Value → Shared → Prop} {s : Shared} {v : Value} {o : Obj} {C : Heap → Prop} (B : Begins v o C) (hC : C s.heap)
    (q : ∀ g, IsEnum g (s.heap.objs.size + 1) s.heap.objs.size 0 .none → g.get? s.heap.objs.size = some o → (∀ b u, s.heap.get? b = some u → g.get? b = some u) → Q (.ref (s.heap.objs.size + 1)) { s with heap := g }) :
    wpAny (model P w) A (call (.type "enumerate") [v]) Q E s := by
  have z : (s.heap.push o).objs.size = s.heap.objs.size + 1 := Heap.size_push ..
  have e1 := Heap.get?_push_size (s.heap.push o) (o := { cls := .type "enumerate", data := .fields #[.none, .bool false, .ref s.heap.objs.size, rawInt 0, .none, .none] }) rfl
  rw [z] at e1
  refine callType_new F.called_enumerate (by decide) (F.typeCall_enumerate_1 _) (F.newCall_enumerate_1 _) (fun obj => F.args_object_init_2 obj _) F.entry_enumerate_new (en_meets B) ⟨hC, ?_⟩
  show _ ∧ _
  rw [z]
  exact ⟨⟨_, e1, rfl⟩, q _ e1 (Heap.get?_push_of_some _ (Heap.get?_push_size _ B.free)) fun b u x => Heap.get?_push_of_some _ (Heap.get?_push_of_some _ x)⟩
def iEn (K : PySem.W.Frag) (k : Sk) (ta : TA) : L2.TI := fun σ H R => ta σ H fun vs H1 => ∃ a xs, vs = [.ref a] ∧ k.S K H1 a xs ∧ R (EnI K k a) H1
theorem pi_en {X : Cx} {K : PySem.W.Frag} {e : Expr} {ta : TA} {p pos tpos : Pos} {elts : List Expr} {kk : Nat} (k : Sk) (hK : X.K = K) (hg : Gl X "enumerate") (hm : X.mg "enumerate" = none) (ha : PA X [e] ta) (hs : starEach [e] X.env = [(false, eval e X.env)] := by rfl) :
    PI X (.Tuple elts kk tpos) (.Call (.Name "enumerate" p) [e] [] pos) (iEn K k ta) := by
  subst hK
  refine ⟨fun pins s σ H R I h => Call_ (ld_blt I hg hm boot_enumerate (PyProof.Rows.callWith_type1 (thn (ha.run pos pins s σ H _ I h) fun us s1 ⟨vs, H1, I1, r1, q1⟩ => ?_) hs rfl))⟩
  obtain ⟨a, xs, rfl, hq, q⟩ := q1
  obtain ⟨u, rfl, ru⟩ := r1.one
  cases ru
  obtain ⟨its, rv, his⟩ := Sk.read I1 hq
  refine en_call (k.begins a its.toArray) his fun g h1 h2 hk => wpAny_pyIter_enum h1 ?_
  have I2 : Inv X pins σ H1 { s1 with heap := g } := I1.kept (t' := s1.toks) hk
  have la := Sk.is_lt his
  refine ⟨s1.heap.objs.size + 1, [s1.heap.objs.size + 1, s1.heap.objs.size], _, _, H1, rfl, I2, en_turn k (s1.heap.objs.size + 1) s1.heap.objs.size a, ⟨⟨.none, h1⟩, Sk.it_new h2, Nat.succ_ne_self _, Nat.ne_of_lt la, Nat.ne_of_gt (Nat.lt_succ_of_lt la)⟩, fun b hb => ?_, q⟩
  have le : s1.heap.objs.size ≤ b := by rcases two_mem hb with z | z <;> (rw [z]; first | exact Nat.le_refl _ | exact Nat.le_succ _)
  exact I1.fpOk le (I1.hok.fresh le)
/-- the cells of a zip -/
def ZpT (k m : Sk) (z ti to_ i1 i2 a b : Addr) : Nat → Heap → Prop := fun i h => IsZip h z ti to_ .none ∧ IsTupOf2 h ti (.ref i1) (.ref i2) ∧ (∃ x y, IsTupOf2 h to_ x y) ∧ k.It h i1 a i ∧ m.It h i2 b i
theorem five_mem {c z ti to_ i1 i2 : Addr} (h : c ∈ [z, ti, to_, i1, i2]) : c = z ∨ c = ti ∨ c = to_ ∨ c = i1 ∨ c = i2 := by simpa using h
theorem zp_sep {z ti to_ i1 i2 a b : Addr} (D : ZipApart z ti to_ i1 i2 a b) : ZipSep2 z ti to_ i1 i2 [i1, a] [i2, b] where
  TIz := D.TIz
  TOz := D.TOz
  TITO := D.TITO
  TIi1 := D.TIi1
  mem1 := List.mem_cons_self
  zf1 := by simp; exact ⟨D.i1z.symm, D.l1z.symm⟩
  Tf1 := by simp; exact ⟨D.TOi1, D.l1TO.symm⟩
  TIi2 := D.TIi2
  mem2 := List.mem_cons_self
  zf2 := by simp; exact ⟨D.i2z.symm, D.l2z.symm⟩
  Tf2 := by simp; exact ⟨D.TOi2, D.l2TO.symm⟩
  sep1_2 := by simp; exact ⟨D.i12, D.l2i1.symm⟩
  sep2_1 := by simp; exact ⟨D.i12.symm, D.l1i2.symm⟩
theorem zp_turn {P : Program} {w : World} {K : PySem.W.Frag} {elts : List Expr} {kk : Nat} {tpos : Pos} (k m : Sk) {z ti to_ i1 i2 a b : Addr} (D : ZipApart z ti to_ i1 i2 a b) : Turn P w K (.Tuple elts kk tpos) (ZpI K k m a b) [z, ti, to_, i1, i2] z (ZpT k m z ti to_ i1 i2 a b) := by
  refine { mem := List.mem_cons_self, obj := ?_, keep := ?_, item := ?_, done := ?_, self := ?_ }
  · rintro i h ⟨hz, h1, ⟨x, y, h2⟩, h3, h4⟩ c hc
    rcases five_mem hc with e | e | e | e | e <;> rw [e]
    · refine ⟨_, hz, ?_⟩
      intro v y
      cases y
    · refine ⟨_, h1, ?_⟩
      intro v y
      cases y
    · refine ⟨_, h2, ?_⟩
      intro v y
      cases y
    · exact Sk.it_obj h3
    · exact Sk.it_obj h4
  · rintro i h g ⟨hz, h1, ⟨x, y, h2⟩, h3, h4⟩ q
    exact ⟨q z (by simp) _ hz, q ti (by simp) _ h1, ⟨x, y, q to_ (by simp) _ h2⟩, Sk.it_keep h3 (q i1 (by simp)), Sk.it_keep h4 (q i2 (by simp))⟩
  · rintro X rfl rfl rfl hc i pins s σ H E I hf ⟨hz, h1, ⟨x0, y0, h2⟩, h3, h4⟩ ⟨xs, ys, x, y, hqx, hqy, hx, hy⟩
    obtain ⟨its, rv, his⟩ := Sk.read I hqx
    obtain ⟨jts, rw_, hjs⟩ := Sk.read I hqy
    obtain ⟨u, hu, ru⟩ := rv.get hx
    obtain ⟨v, hv, rv2⟩ := rw_.get hy
    have l1 : i < its.toArray.size := by rw [List.size_toArray]; exact (List.getElem?_eq_some_iff.mp hu).1
    have l2 : i < jts.toArray.size := by rw [List.size_toArray]; exact (List.getElem?_eq_some_iff.mp hv).1
    have hzl : z < s.heap.objs.size := Heap.lt_size hz
    refine wpAny_pyNext_zipD2_item (zp_sep D) (k.draws (A := X.A.in1) (I.ok.hd hc) i1 a D.l1i1 its.toArray) (m.draws (A := X.A.in1) (I.ok.hd hc) i2 b D.l2i2 jts.toArray) hz h1 h2 ⟨h3, his⟩ ⟨h4, hjs⟩ l1 l2 fun u' v' g tk pu pv z1 t1 s1 s2 hT hsz hk => ?_
    obtain rfl : u' = u := by
      have e : its[i]? = some u' := by simpa using pu
      exact Option.some.inj (e.symm.trans hu)
    obtain rfl : v' = v := by
      have e : jts[i]? = some v' := by simpa using pv
      exact Option.some.inj (e.symm.trans hv)
    refine ⟨_, rfl, wpAny_letOwnedTupleGo_zip (s := { s with heap := g, toks := tk }) z1 fun g2 z2 sb => ?_⟩
    have hT2 : g2.get? s.heap.objs.size = some { cls := .type "tuple", data := .seq #[u', v'] } := by rw [sb.2 _ (Nat.ne_of_gt hzl)]; exact hT
    have ok : ObjOk X.prog X.w (upd H s.heap.objs.size (.tup [x, y])) g2 s.heap.objs.size (.tup [x, y]) := ⟨sml 2, [u', v'], .cons ru (.cons rv2 .nil), ⟨_, hT2, rfl, _, rfl⟩⟩
    have I2 : Inv X pins σ (upd H s.heap.objs.size (.tup [x, y])) { s with heap := g2, toks := tk } := by
      refine I.turnedNew (ch := [z, ti, to_, i1, i2]) (fun c o hc2 q => ?_) hf (Nat.le_refl _) ok
      have n1 : c ≠ z := fun e => hc2 (by rw [e]; simp)
      have n2 : c ≠ to_ := fun e => hc2 (by rw [e]; simp)
      have n3 : c ≠ i1 := fun e => hc2 (by rw [e]; simp)
      have n4 : c ≠ i2 := fun e => hc2 (by rw [e]; simp)
      rw [sb.2 c n1]
      exact hk c o n1 n2 n3 n4 q
    refine ⟨.ref s.heap.objs.size, _, I2, rfl, ⟨_, x, y, rfl, I.hok.fresh (Nat.le_refl _), rfl, fun l hl => ?_, fun l hl => ?_⟩, ⟨z2, ?_, ⟨u', v', ?_⟩, ?_, ?_⟩, fun c hcm => ?_⟩
    · rw [Sk.inj I hl hqx]; exact hx
    · rw [Sk.inj I hl hqy]; exact hy
    · rw [show IsTupOf2 g2 ti (.ref i1) (.ref i2) = (g2.get? ti = _) from rfl, sb.2 ti D.TIz]
      exact hk _ _ D.TIz D.TITO D.TIi1 D.TIi2 h1
    · rw [show IsTupOf2 g2 to_ u' v' = (g2.get? to_ = _) from rfl, sb.2 to_ D.TOz]
      exact t1
    · exact Sk.it_keep s1.1 fun o e => by rw [sb.2 i1 D.i1z]; exact e
    · exact Sk.it_keep s2.1 fun o e => by rw [sb.2 i2 D.i2z]; exact e
    · have lt : c < s.heap.objs.size := by
        rcases five_mem hcm with e | e | e | e | e <;> rw [e]
        · exact hzl
        · exact Heap.lt_size h1
        · exact Heap.lt_size h2
        · obtain ⟨_, q, _⟩ := Sk.it_obj h3; exact Heap.lt_size q
        · obtain ⟨_, q, _⟩ := Sk.it_obj h4; exact Heap.lt_size q
      rw [upd_ne (Nat.ne_of_lt lt)]
      exact (hf c hcm).1
  · rintro X rfl rfl rfl hc i pins s σ H E I hf ⟨hz, h1, ⟨x0, y0, h2⟩, h3, h4⟩ ⟨xs, ys, hqx, hqy, le1, le2, hend⟩
    obtain ⟨its, rv, his⟩ := Sk.read I hqx
    obtain ⟨jts, rw_, hjs⟩ := Sk.read I hqy
    have e1 : xs.length = its.toArray.size := by rw [List.size_toArray]; exact rv.length
    have e2 : ys.length = jts.toArray.size := by rw [List.size_toArray]; exact rw_.length
    refine wpAny_pyNext_zipD2_end (zp_sep D) (k.draws (A := X.A.in1) (I.ok.hd hc) i1 a D.l1i1 its.toArray) (m.draws (A := X.A.in1) (I.ok.hd hc) i2 b D.l2i2 jts.toArray) hz h1 h2 ⟨h3, his⟩ ⟨h4, hjs⟩ (by omega) (by omega) (by omega) fun g tk hk => ⟨rfl, I.turnedL (ch := [z, ti, to_, i1, i2]) (fun c o hc2 q => ?_) hf⟩
    exact hk c o (fun e => hc2 (by rw [e]; simp)) (fun e => hc2 (by rw [e]; simp)) (fun e => hc2 (by rw [e]; simp)) (fun e => hc2 (by rw [e]; simp)) q
  · rintro A i s Q E ⟨hz, _⟩ q
    exact wpAny_pyIter_zip hz q
def iZp (K : PySem.W.Frag) (k m : Sk) (ta : TA) : L2.TI := fun σ H R => ta σ H fun vs H1 => ∃ a b xs ys, vs = [.ref a, .ref b] ∧ k.S K H1 a xs ∧ m.S K H1 b ys ∧ R (ZpI K k m a b) H1
theorem pi_zp {X : Cx} {K : PySem.W.Frag} {e e2 : Expr} {ta : TA} {p pos tpos : Pos} {elts : List Expr} {kk : Nat} (k m : Sk) (hK : X.K = K) (hg : Gl X "zip") (hm : X.mg "zip" = none) (ha : PA X [e, e2] ta)
    (hs : starEach [e, e2] X.env = (false, eval e X.env) :: starEach [e2] X.env := by rfl) (hpl : (backTo pos (starEach [e2] X.env)).any (·.1) = false := by rfl) :
    PI X (.Tuple elts kk tpos) (.Call (.Name "zip" p) [e, e2] [] pos) (iZp K k m ta) := by
  subst hK
  refine ⟨fun pins s σ H R I h => Call_ (ld_blt I hg hm PyProof.Rows.boot_zip (PyProof.Rows.callWith_type1 (thn (ha.run pos pins s σ H _ I h) fun us s1 ⟨vs, H1, I1, r1, q1⟩ => ?_) hs hpl))⟩
  obtain ⟨a, b, xs, ys, rfl, hqx, hqy, q⟩ := q1
  obtain ⟨u, v, rfl, ru, rv⟩ := vals2 r1
  cases ru
  cases rv
  obtain ⟨its, _, his⟩ := Sk.read I1 hqx
  obtain ⟨jts, _, hjs⟩ := Sk.read I1 hqy
  refine zip_begins2 (k.begins a its.toArray) (m.begins b jts.toArray) his hjs fun g hz h1 h2 h3 h4 hsz hk => wpAny_pyIter_zip hz ?_
  have I2 : Inv X pins σ H1 { s1 with heap := g } := I1.kept (t' := s1.toks) hk
  refine ⟨s1.heap.objs.size + 4, [s1.heap.objs.size + 4, s1.heap.objs.size + 2, s1.heap.objs.size + 3, s1.heap.objs.size, s1.heap.objs.size + 1], _, _, H1, rfl, I2, zp_turn k m (PySem.W.ktu_apart s1.heap.objs.size a b (Sk.is_lt his) (Sk.is_lt hjs)), ⟨hz, h1, ⟨_, _, h2⟩, Sk.it_new h3, Sk.it_new h4⟩, fun c hc => ?_, q⟩
  have le : s1.heap.objs.size ≤ c := by rcases five_mem hc with e | e | e | e | e <;> (rw [e]; first | exact Nat.le_refl _ | exact Nat.le_add_right _ _)
  exact I1.fpOk le (I1.hok.fresh le)
/-! ### their walks -/
theorem walk_en {K : PySem.W.Frag} {k : Sk} {a : Addr} {xs : List V} : Walk (EnI K k a) xs.length (fun H => k.S K H a xs) (YPair (fun i => some (.int (i : Nat))) (fun i => xs[i]?)) where
  goes := fun i H hi q => ⟨xs, xs[i], q, List.getElem?_eq_getElem hi⟩
  stops := fun H q => ⟨xs, q, rfl⟩
  yields := fun i H v H' hi q ⟨T, x, h1, h2, h3, h4⟩ => ⟨T, .int (i : Nat), x, h1, h2, h3, rfl, h4 xs q⟩
theorem walk_zp {K : PySem.W.Frag} {k m : Sk} {a b : Addr} {xs ys : List V} {n : Nat} (hn : n = min xs.length ys.length) : Walk (ZpI K k m a b) n (fun H => k.S K H a xs ∧ m.S K H b ys) (YPair (fun i => xs[i]?) (fun i => ys[i]?)) where
  goes := fun i H hi q => ⟨xs, ys, xs[i]'(by omega), ys[i]'(by omega), q.1, q.2, List.getElem?_eq_getElem (by omega), List.getElem?_eq_getElem (by omega)⟩
  stops := fun H q => ⟨xs, ys, q.1, q.2, by omega, by omega, by omega⟩
  yields := fun i H v H' hi q ⟨T, x, y, h1, h2, h3, h4, h5⟩ => ⟨T, x, y, h1, h2, h3, h4 xs q.1, h5 ys q.2⟩
/-! ### comprehensions over walks -/
section
variable {J J1 : L2.It} {n n1 : Nat} {G G1 : Hp → Prop} {Y Y1 : Nat → Hp → V → Hp → Prop} {g g1 : TG} {te : TE} {vs vs1 : List Nat} {σ σ2 : L2.St} {H1 H4 : Hp} {D : Addr} {Qd Nx : Hp → Prop} {wi1 : L2.TI}
theorem lc_itY (w : Walk J n G Y) (Pv : Nat → Hp → Prop) (h0 : Pv 0 (upd H1 D (.lst []))) (hG : ∀ i H, i ≤ n → Pv i H → G H)
    (hs : ∀ i x H H', i < n → Pv i H → Y i H x H' → g x (wipe σ vs) H' fun σ2 H2 => wipe σ2 vs = wipe σ vs ∧ te σ2 H2 fun y H4 => ∃ acc, H4 D = some (.lst acc) ∧ acc.length < sizeLine ∧ Pv (i + 1) (upd H4 D (.lst (acc ++ [y])))) (hd : ∀ H, Pv n H → Qd H) :
    ∃ W : Nat → Nat → Hp → Prop, (∃ m, W 0 m (upd H1 D (.lst []))) ∧ ∀ i m H, W i m H →
      (J.stop i H ∧ Qd H) ∨ (J.go i H ∧ ∃ Nx : Hp → Prop, (∀ H', Nx H' → ∃ m', m' < m ∧ W (i + 1) m' H') ∧ ∀ x H', J.yld i H x H' → g x (wipe σ vs) H' fun σ2 H2 => wipe σ2 vs = wipe σ vs ∧ tYes σ2 H2 fun b H3 =>
        if b = true then te σ2 H3 fun y H4 => ∃ acc, H4 D = some (.lst acc) ∧ acc.length < sizeLine ∧ Nx (upd H4 D (.lst (acc ++ [y]))) else Nx H3) := lc_it (tt := tYes) w Pv h0 hG hs hd
/-- the inner of two -/
def Lc2In (g1 : TG) (te : TE) (vs1 : List Nat) (σ2 : L2.St) (D : Addr) (Nx : Hp → Prop) (J1 : L2.It) (H4 : Hp) : Prop := ∃ W1 : Nat → Nat → Hp → Prop, (∃ m, W1 0 m H4) ∧ ∀ j k H, W1 j k H →
  (J1.stop j H ∧ Nx H) ∨ (J1.go j H ∧ ∃ Nx1 : Hp → Prop, (∀ H', Nx1 H' → ∃ k', k' < k ∧ W1 (j + 1) k' H') ∧ ∀ x H', J1.yld j H x H' → g1 x (wipe σ2 vs1) H' fun σ3 H5 => wipe σ3 vs1 = wipe σ2 vs1 ∧ tYes σ3 H5 fun b H6 =>
    if b = true then te σ3 H6 fun y H7 => ∃ acc, H7 D = some (.lst acc) ∧ acc.length < sizeLine ∧ Nx1 (upd H7 D (.lst (acc ++ [y]))) else Nx1 H6)
theorem lc2_in (w : Walk J1 n1 G1 Y1) (Pv : Nat → Hp → Prop) (h0 : Pv 0 H4) (hG : ∀ i H, i ≤ n1 → Pv i H → G1 H)
    (hs : ∀ i x H H', i < n1 → Pv i H → Y1 i H x H' → g1 x (wipe σ2 vs1) H' fun σ3 H5 => wipe σ3 vs1 = wipe σ2 vs1 ∧ te σ3 H5 fun y H7 => ∃ acc, H7 D = some (.lst acc) ∧ acc.length < sizeLine ∧ Pv (i + 1) (upd H7 D (.lst (acc ++ [y])))) (hd : ∀ H, Pv n1 H → Nx H) : Lc2In g1 te vs1 σ2 D Nx J1 H4 := by
  refine ⟨fun i m H => m = n1 - i ∧ i ≤ n1 ∧ Pv i H, ⟨n1, rfl, Nat.zero_le _, h0⟩, ?_⟩
  rintro i m H ⟨rfl, hi, p⟩
  by_cases lt : i < n1
  · exact .inr ⟨w.goes i H lt (hG i H hi p), Pv (i + 1), fun H' p' => ⟨n1 - (i + 1), by omega, rfl, lt, p'⟩, fun x H' y => hs i x H H' lt p (w.yields i H x H' lt (hG i H hi p) y)⟩
  · obtain rfl : i = n1 := by omega
    exact .inl ⟨w.stops H (hG _ H hi p), hd H p⟩
theorem lc2_out (w : Walk J n G Y) (Pv : Nat → Hp → Prop) (h0 : Pv 0 (upd H1 D (.lst []))) (hG : ∀ i H, i ≤ n → Pv i H → G H)
    (hs : ∀ i x H H', i < n → Pv i H → Y i H x H' → g x (wipe σ vs) H' fun σ2 H2 => wipe σ2 vs = wipe σ vs ∧ wi1 σ2 H2 fun J1 H4 => Lc2In g1 te vs1 σ2 D (Pv (i + 1)) J1 H4) (hd : ∀ H, Pv n H → Qd H) :
    ∃ W : Nat → Nat → Hp → Prop, (∃ m, W 0 m (upd H1 D (.lst []))) ∧ ∀ i m H, W i m H →
      (J.stop i H ∧ Qd H) ∨ (J.go i H ∧ ∃ Nx : Hp → Prop, (∀ H', Nx H' → ∃ m', m' < m ∧ W (i + 1) m' H') ∧ ∀ x H', J.yld i H x H' → g x (wipe σ vs) H' fun σ2 H2 => wipe σ2 vs = wipe σ vs ∧ tYes σ2 H2 fun b H3 =>
        if b = true then wi1 σ2 H3 fun J1 H4 => ∃ W1 : Nat → Nat → Hp → Prop, (∃ m, W1 0 m H4) ∧ ∀ j k H, W1 j k H →
          (J1.stop j H ∧ Nx H) ∨ (J1.go j H ∧ ∃ Nx1 : Hp → Prop, (∀ H', Nx1 H' → ∃ k', k' < k ∧ W1 (j + 1) k' H') ∧ ∀ x H', J1.yld j H x H' → g1 x (wipe σ2 vs1) H' fun σ3 H5 => wipe σ3 vs1 = wipe σ2 vs1 ∧ tYes σ3 H5 fun b H6 =>
            if b = true then te σ3 H6 fun y H7 => ∃ acc, H7 D = some (.lst acc) ∧ acc.length < sizeLine ∧ Nx1 (upd H7 D (.lst (acc ++ [y]))) else Nx1 H6)
        else Nx H3) := by
  refine ⟨fun i m H => m = n - i ∧ i ≤ n ∧ Pv i H, ⟨n, rfl, Nat.zero_le _, h0⟩, ?_⟩
  rintro i m H ⟨rfl, hi, p⟩
  by_cases lt : i < n
  · exact .inr ⟨w.goes i H lt (hG i H hi p), Pv (i + 1), fun H' p' => ⟨n - (i + 1), by omega, rfl, lt, p'⟩, fun x H' y => hs i x H H' lt p (w.yields i H x H' lt (hG i H hi p) y)⟩
  · obtain rfl : i = n := by omega
    exact .inl ⟨w.stops H (hG _ H hi p), hd H p⟩
end
end Ov
/-! ### the program's promises -/
namespace Ov
open PySem PySem.Spec PyProof.Rows L2
def spBetween : Sp := fun vs H Q _ => ∃ v lo hi : Int, vs = [.int v, .int lo, .int hi] ∧ Q (.bl (decide (lo ≤ v ∧ v ≤ hi))) H
/-- the word at a: its name, what is given, the arms -/
def WordAt (H : Hp) (a : Addr) (o : Op) (g : Int) (us : List V) : Prop := H a = some (.tup (.str o.name :: (o.pre g ++ us))) ∧ us.length = o.arity
def Op.gV (o : Op) (g : Int) : V := if o.gives then .int g else .non
def spGivenOf : Sp := fun vs H Q _ => ∃ a o g us, vs = [.ref a] ∧ WordAt H a o g us ∧ Q (o.gV g) H
def spArmsOf : Sp := fun vs H Q _ => ∃ a o g us, vs = [.ref a] ∧ WordAt H a o g us ∧ ∀ p, H p = none → Q (.ref p) (upd H p (.tup us))
def spGivenFits : Sp := fun vs H Q _ => ∃ (o : Op) (g : Int) (n : Nat), vs = [.str (if o = .num then "number" else "function"), .int g, .int (n : Int)] ∧ o.gives = true ∧ o.fits n g ∧ Q (.bl true) H
/-- the numbers of a word's arms, of which the first is b -/
def starts : Nat → List W → List Nat
  | _, [] => []
  | b, a :: r => b :: starts (b + a.size) r
mutual
/-- the rows of a word that is the b-th -/
def W.rows : Nat → W → List (Op × Int × List Nat)
  | b, .mk o g as => (o, g, starts (b + 1) as) :: W.rowss (b + 1) as
def W.rowss : Nat → List W → List (Op × Int × List Nat)
  | _, [] => []
  | b, a :: r => a.rows b ++ W.rowss (b + a.size) r
end
theorem W.rows_mk (b : Nat) (o : Op) (g : Int) (as : List W) : (W.mk o g as).rows b = (o, g, starts (b + 1) as) :: W.rowss (b + 1) as := by rw [W.rows]
mutual
theorem W.rows_len : ∀ (b : Nat) (w : W), (w.rows b).length = w.size
  | b, .mk o g as => by
    rw [W.rows_mk, W.size_mk, List.length_cons, W.rowss_len (b + 1) as]
    omega
theorem W.rowss_len : ∀ (b : Nat) (ws : List W), (W.rowss b ws).length = W.sizes ws
  | b, [] => by rw [W.rowss, W.sizes]; rfl
  | b, a :: r => by rw [W.rowss, W.sizes, List.length_append, W.rows_len b a, W.rowss_len _ r]
end
def RowAt (H : Hp) (v : V) (r : Op × Int × List Nat) : Prop := ∃ t a, v = .ref t ∧ H t = some (.tup [.str r.1.name, r.1.gV r.2.1, .ref a]) ∧ H a = some (.tup (nV r.2.2))
theorem RowAt.keep {H H' : Hp} {v : V} {r : Op × Int × List Nat} (k : Keep H H') (h : RowAt H v r) : RowAt H' v r := by
  obtain ⟨t, a, e, h1, h2⟩ := h
  exact ⟨t, a, e, k _ _ h1, k _ _ h2⟩
/-- all but the list at l stays -/
def ButL (l : Addr) (H H' : Hp) : Prop := ∀ a o, a ≠ l → H a = some o → H' a = some o
def spAddWord (d : Nat) : Sp := fun vs H Q _ => ∃ l v n u xs, vs = [.ref l, v] ∧ H l = some (.lst xs) ∧ WAt H v u ∧ WOk n d u ∧ xs.length + u.size ≤ 1000 ∧
  ∀ H' ys, ButL l H H' → H' l = some (.lst (xs ++ ys)) → Paired (RowAt H') ys (u.rows xs.length) → Q (.int (xs.length : Int)) H'
def spWordsOf : Sp := fun vs H Q _ => ∃ v n u, vs = [v] ∧ WAt H v u ∧ WOk n 7 u ∧ u.size ≤ 900 ∧ ∀ H' p ys, Same H H' → H p = none → H' p = some (.lst ys) → Paired (RowAt H') ys (u.rows 0) → Q (.ref p) H'
def spWordFits (d : Nat) : Sp := fun vs H Q _ => ∃ (v : V) (n : Nat) (u : W) (r : Int), vs = [v, .int (n : Int), .int r] ∧ WAt H v u ∧ WOk n d u ∧ 0 ≤ r ∧ r + (d : Int) ≤ 7 ∧ ∀ H', Same H H' → Q (.bl true) H'
def spFunctionFits : Sp := fun vs H Q _ => ∃ (v : V) (n : Nat) (f : Int × W), vs = [v, .int (n : Int)] ∧ FAt H v f ∧ FOk n f ∧ ∀ H', Same H H' → Q (.bl true) H'
def spCheckProgram : Sp := fun vs H Q _ => ∃ v p, vs = [v] ∧ PrAt H v p ∧ PrOk p ∧ ∀ H', Same H H' → Q .non H'
def spCheckFunction : Sp := fun vs H Q _ => ∃ (f n : Nat), vs = [.int (f : Int), .int (n : Int)] ∧ f < n ∧ Q .non H
theorem W.sizes_snoc : ∀ (ws : List W) (w : W), W.sizes (ws ++ [w]) = W.sizes ws + w.size
  | [], w => by simp [W.sizes]
  | a :: r, w => by rw [List.cons_append, W.sizes, W.sizes, W.sizes_snoc r w]; omega
theorem starts_snoc : ∀ (b : Nat) (ws : List W) (w : W), starts b (ws ++ [w]) = starts b ws ++ [b + W.sizes ws]
  | b, [], w => by rw [W.sizes]; rfl
  | b, a :: r, w => by
    show b :: starts (b + a.size) (r ++ [w]) = b :: (starts (b + a.size) r ++ [_])
    rw [starts_snoc (b + a.size) r w, W.sizes, Nat.add_assoc]
theorem rowss_snoc : ∀ (b : Nat) (ws : List W) (w : W), W.rowss b (ws ++ [w]) = W.rowss b ws ++ w.rows (b + W.sizes ws)
  | b, [], w => by rw [List.nil_append, W.rowss, W.rowss, W.rowss, W.sizes]; simp
  | b, a :: r, w => by rw [List.cons_append, W.rowss, W.rowss, rowss_snoc _ r w, W.sizes, List.append_assoc, Nat.add_assoc]
theorem starts_len : ∀ (b : Nat) (ws : List W), (starts b ws).length = ws.length
  | _, [] => rfl
  | b, a :: r => congrArg Nat.succ (starts_len (b + a.size) r)
theorem sizes_take_le : ∀ (ws : List W) (i : Nat), W.sizes (ws.take i) ≤ W.sizes ws
  | [], i => by rw [List.take_nil]; exact Nat.le_refl _
  | a :: r, 0 => by rw [List.take_zero, W.sizes]; exact Nat.zero_le _
  | a :: r, i + 1 => by rw [List.take_succ_cons, W.sizes, W.sizes]; exact Nat.add_le_add_left (sizes_take_le r i) _
theorem size_get : ∀ (ws : List W) (i : Nat) (w : W), ws[i]? = some w → W.sizes (ws.take i) + w.size ≤ W.sizes ws
  | [], i, w, h => by simp at h
  | a :: r, 0, w, h => by
    have e : a = w := Option.some.inj h
    rw [e, List.take_zero, W.sizes, W.sizes]
    omega
  | a :: r, i + 1, w, h => by
    have ih := size_get r i w h
    rw [List.take_succ_cons, W.sizes, W.sizes]
    omega
theorem ButL.trans {l : Addr} {H H1 H2 : Hp} (a : ButL l H H1) (b : ButL l H1 H2) : ButL l H H2 := fun x o n e => b x o n (a x o n e)
theorem ButL.same {l : Addr} {H H' : Hp} (a : Same H H') : ButL l H H' := fun x o _ e => a x o e
theorem ButL.upd {l : Addr} {H : Hp} {o : HO} : ButL l H (upd H l o) := fun x u n e => by rw [upd_ne n]; exact e
theorem ButL.keep {l : Addr} {xs : List V} {H H' : Hp} (b : ButL l H H') (e : H l = some (.lst xs)) : Keep H H' := fun a ys h => b a _ (ne_of h e (by intro z; cases z)) h
theorem paired_app {α β : Type} {R : α → β → Prop} : ∀ {a c : List α} {b d : List β}, Paired R a b → Paired R c d → Paired R (a ++ c) (b ++ d)
  | _, _, _, _, .nil, h => h
  | _, _, _, _, .cons h r, h' => .cons h (paired_app r h')
theorem Paired.get2 {α β : Type} {R : α → β → Prop} : ∀ {a : List α} {b : List β} {i : Nat} {x : α}, Paired R a b → a[i]? = some x → ∃ y, b[i]? = some y ∧ R x y
  | _, _, _, _, .nil, e => by simp at e
  | _, _, 0, _, .cons h r, e => by
    have e2 := Option.some.inj e
    subst e2
    exact ⟨_, rfl, h⟩
  | _, _, i + 1, x, .cons _ r, e => Paired.get2 (i := i) (x := x) r e
theorem set_mid (xs ys : List V) (x y : V) : (xs ++ [x] ++ ys).set xs.length y = xs ++ y :: ys := by
  rw [List.append_assoc, List.set_append_right (h := Nat.le_refl _), Nat.sub_self]
  rfl
end Ov
/-! ### ways down -/
namespace Ov
open PySem PySem.Spec PyProof.Rows L2
/-- under x lie l, from the undermost on -/
inductive Down (st : List Int) : Nat → List Nat → Prop
  | base {x : Nat} : st[x]? = some (-1) → Down st x []
  | step {x y : Nat} {l : List Nat} : st[x]? = some ((y : Nat) : Int) → Down st y l → Down st x (l ++ [y])
theorem Down.uniq {st : List Int} {x : Nat} {l m : List Nat} (h : Down st x l) (h' : Down st x m) : l = m := by
  induction h generalizing m with
  | base e =>
    cases h' with
    | base _ => rfl
    | @step _ y l e' _ =>
      have z := Option.some.inj (e.symm.trans e')
      omega
  | @step x y l e _ ih =>
    cases h' with
    | base e' =>
      have z := Option.some.inj (e'.symm.trans e)
      omega
    | @step _ y' l' e' h2 =>
      have z := Option.some.inj (e.symm.trans e')
      obtain rfl : y = y' := by omega
      rw [ih h2]
theorem SInv.down {od : List Nat} {st : List Int} (h : SInv od st) : ∀ (t x : Nat), od[t]? = some x → ∃ l, Down st x l ∧ l.length ≤ t ∧ ∀ y ∈ l, y ∈ od := by
  intro t
  induction t using Nat.strongRecOn with
  | ind t ih =>
    intro x hx
    rcases h t x hx with e | ⟨j, y, hj, hy, e⟩
    · exact ⟨[], .base e, Nat.zero_le _, (fun _ z => nomatch z)⟩
    · obtain ⟨l, h1, h2, h3⟩ := ih j hj y hy
      refine ⟨l ++ [y], .step e h1, by rw [List.length_append, List.length_singleton]; omega, fun z hz => ?_⟩
      rcases List.mem_append.mp hz with q | q
      · exact h3 z q
      · rw [List.mem_singleton.mp q]
        exact List.mem_of_getElem? hy
/-- the ways down of a tree's parts -/
structure Dn (n : Nat) (ps : List (List Nat)) (st : List Int) (dn : Nat → List Nat) : Prop where
  down : ∀ x, x < ps.length → Down st x (dn x)
  len : ∀ x, x < ps.length → (dn x).length < ps.length
  lt : ∀ x, x < ps.length → ∀ y ∈ dn x, y < ps.length
theorem TrOk.dn {n : Nat} {ps : List (List Nat)} {st : List Int} (h : TrOk n ps st) : ∃ dn, Dn n ps st dn := by
  obtain ⟨od, hp, hs⟩ := h.ord
  have key : ∀ x, ∃ l, x < ps.length → Down st x l ∧ l.length < ps.length ∧ ∀ y ∈ l, y < ps.length := fun x => by
    by_cases hx : x < ps.length
    · have mem : x ∈ od := hp.mem_iff.mpr (List.mem_range.mpr hx)
      obtain ⟨t, ht⟩ := List.mem_iff_getElem?.mp mem
      obtain ⟨l, h1, h2, h3⟩ := hs.down t x ht
      have htl : t < od.length := (List.getElem?_eq_some_iff.mp ht).1
      have hol : od.length = ps.length := by rw [hp.length_eq, List.length_range]
      exact ⟨l, fun _ => ⟨h1, by omega, fun y hy => List.mem_range.mp (hp.mem_iff.mp (h3 y hy))⟩⟩
    · exact ⟨[], fun z => absurd z hx⟩
  exact ⟨fun x => (key x).choose, ⟨fun x hx => ((key x).choose_spec hx).1, fun x hx => ((key x).choose_spec hx).2.1, fun x hx => ((key x).choose_spec hx).2.2⟩⟩
/-- the size of a function, of a part -/
def fsz (pr : List (Int × W)) (f : Nat) : Int := (pr[f]?.map (·.1)).getD 0
def psz (pr : List (Int × W)) (p : List Nat) : Int := (p.map (fsz pr)).sum
/-- where the i-th part begins -/
def bgn (pr : List (Int × W)) (ps : List (List Nat)) (dn : Nat → List Nat) (i : Nat) : Int := ((dn i).map fun y => psz pr (ps[y]?.getD [])).sum
theorem psz_snoc (pr : List (Int × W)) (p : List Nat) (f : Nat) : psz pr (p ++ [f]) = psz pr p + fsz pr f := by
  unfold psz
  rw [List.map_append, List.sum_append]
  simp
theorem cut_from (xs : List V) (k : Nat) (h : k ≤ xs.length) : cutV xs (some (k : Int)) none = xs.drop k := by
  unfold cutV
  rw [HT.sIx_none, HT.sIx_nat, Nat.min_eq_left h]
  exact List.take_of_length_le (by rw [List.length_drop]; exact Nat.le_refl _)
theorem nV_int {ns : List Nat} {i : Nat} {x : V} (h : (nV ns)[i]? = some x) : ∃ y, ns[i]? = some y ∧ x = V.int ((y : Nat) : Int) := by
  unfold nV at h
  rw [List.getElem?_map] at h
  cases e : ns[i]? with
  | none => rw [e] at h; cases h
  | some y => rw [e] at h; exact ⟨y, rfl, (Option.some.inj h).symm⟩
theorem ints_int {ns : List Int} {i : Nat} {x : V} (h : (ns.map V.int)[i]? = some x) : ∃ y, ns[i]? = some y ∧ x = V.int y := by
  rw [List.getElem?_map] at h
  cases e : ns[i]? with
  | none => rw [e] at h; cases h
  | some y => rw [e] at h; exact ⟨y, rfl, (Option.some.inj h).symm⟩
theorem nV_ints (ns : List Nat) : nV ns = (ns.map fun (x : Nat) => (x : Int)).map V.int := by
  unfold nV
  rw [List.map_map]
  rfl
theorem rep_all (n : Nat) : (List.replicate n true).all id = true := by simp
theorem rep_snoc (n : Nat) : (List.replicate n true).map V.bl ++ [V.bl true] = (List.replicate (n + 1) true).map V.bl := by
  rw [List.replicate_succ', List.map_append]
  rfl
theorem eqvIntsAll : ∀ ns : List Int, PyData.eqvAll (ns.map PyData.int) (ns.map PyData.int) = true
  | [] => by simp [PyData.eqvAll]
  | n :: ns => by
    have h := eqvIntsAll ns
    simp [PyData.eqvAll, PyData.eqv, h]
theorem eqvInts (ns : List Int) : PyData.eqv (.list (ns.map PyData.int)) (.list (ns.map PyData.int)) = true := by
  have h := eqvIntsAll ns
  simp [PyData.eqv, h]
theorem PInv.sorted {n : Nat} {ps : List (List Nat)} (h : PInv n ps) {ns : List Int} (hp : ns.Perm (ps.flatten.map fun (x : Nat) => (x : Int))) (hs : ns.Pairwise (· ≤ ·)) : ns = (List.range n).map fun (x : Nat) => (x : Int) := by
  refine PySem.W.ksm_same (hp.trans (h.perm.map _)) hs ?_
  rw [List.pairwise_map]
  exact List.Pairwise.imp (fun z => by omega) List.pairwise_lt_range
/-! ### the promises -/
def spRises : Sp := fun vs H Q _ => ∃ (a : Addr) (ns : List Nat), vs = [.ref a] ∧ (H a = some (.lst (nV ns)) ∨ (H a = some (.tup (nV ns)) ∧ ns ≠ [])) ∧ ns.Pairwise (· < ·) ∧ ns.length ≤ 1000 ∧ ∀ H', Same H H' → Q (.bl true) H'
def spPartFits : Sp := fun vs H Q _ => ∃ (v : V) (n : Nat) (p : List Nat), vs = [v, .int (n : Int)] ∧ PartAt H v p ∧ p ≠ [] ∧ p.Pairwise (· < ·) ∧ (∀ x ∈ p, x < n) ∧ p.length ≤ 8 ∧ ∀ H', Same H H' → Q (.bl true) H'
def spPartsFit : Sp := fun vs H Q _ => ∃ (a : Addr) (n : Nat) (us : List V) (ps : List (List Nat)), vs = [.ref a, .int (n : Int)] ∧ H a = some (.tup us) ∧ Paired (PartAt H) us ps ∧ PInv n ps ∧ n ≤ 8 ∧ ∀ H', Same H H' → Q (.bl true) H'
def spHasEnd : Sp := fun vs H Q _ => ∃ (a : Addr) (st : List Int) (x : Nat) (od : List Nat), vs = [.ref a, .int (x : Int)] ∧ H a = some (.tup (st.map V.int)) ∧ od.Perm (List.range st.length) ∧ SInv od st ∧ x < st.length ∧ st.length ≤ 1000 ∧ Q (.bl true) H
def spStandsFit : Sp := fun vs H Q _ => ∃ (a : Addr) (st : List Int) (m : Nat) (od : List Nat), vs = [.ref a, .int (m : Int)] ∧ H a = some (.tup (st.map V.int)) ∧ st.length = m ∧ od.Perm (List.range m) ∧ SInv od st ∧ m ≤ 1000 ∧ ∀ H', Same H H' → Q (.bl true) H'
/-- a program and a tree of it -/
def preT (H : Hp) (v t : V) (pr : List (Int × W)) (ps : List (List Nat)) (st : List Int) : Prop := PrAt H v pr ∧ PrOk pr ∧ TrAt H t ps st ∧ TrOk pr.length ps st
theorem preT.keep {H H' : Hp} {v t : V} {pr : List (Int × W)} {ps : List (List Nat)} {st : List Int} (k : Keep H H') (h : preT H v t pr ps st) : preT H' v t pr ps st := ⟨h.1.keep k, h.2.1, h.2.2.1.keep k, h.2.2.2⟩
def spCheckTree : Sp := fun vs H Q _ => ∃ v t pr ps st, vs = [v, t] ∧ preT H v t pr ps st ∧ ∀ H', Same H H' → Q .non H'
def spPartsBelow : Sp := fun vs H Q _ => ∃ (a : Addr) (st : List Int) (x : Nat) (l : List Nat), vs = [.ref a, .int (x : Int)] ∧ H a = some (.tup (st.map V.int)) ∧ Down st x l ∧ l.length ≤ 900 ∧ ∀ H' p, Same H H' → H p = none → H' p = some (.lst (nV l)) → Q (.ref p) H'
def spSizeOf : Sp := fun vs H Q _ => ∃ v u pr p, vs = [v, u] ∧ PrAt H v pr ∧ PartAt H u p ∧ (∀ x ∈ p, x < pr.length) ∧ p.length ≤ 900 ∧ ∀ H', Same H H' → Q (.int (psz pr p)) H'
def spBegins : Sp := fun vs H Q _ => ∃ v t pr ps st dn, vs = [v, t] ∧ preT H v t pr ps st ∧ Dn pr.length ps st dn ∧ ∀ H' p, Same H H' → H p = none → H' p = some (.lst (((List.range ps.length).map (bgn pr ps dn)).map V.int)) → Q (.ref p) H'
/-- the cells of all functions -/
def Cells (pr : List (Int × W)) (ps : List (List Nat)) (dn : Nat → List Nat) (cs : List Int) : Prop := cs.length = pr.length ∧ ∀ i p j f, ps[i]? = some p → p[j]? = some f → cs[f]? = some (bgn pr ps dn i + psz pr (p.take j))
def spPlaces : Sp := fun vs H Q _ => ∃ v t pr ps st dn, vs = [v, t] ∧ preT H v t pr ps st ∧ Dn pr.length ps st dn ∧ ∀ H' p cs, Same H H' → H p = none → H' p = some (.lst (cs.map V.int)) → Cells pr ps dn cs → Q (.ref p) H'
/-- the farthest end -/
def Far (pr : List (Int × W)) (ps : List (List Nat)) (dn : Nat → List Nat) (m : Int) : Prop := (∃ i p, ps[i]? = some p ∧ m = bgn pr ps dn i + psz pr p) ∧ ∀ i p, ps[i]? = some p → bgn pr ps dn i + psz pr p ≤ m
theorem Far.uniq {pr : List (Int × W)} {ps : List (List Nat)} {dn : Nat → List Nat} {m k : Int} (h : Far pr ps dn m) (h' : Far pr ps dn k) : m = k := by
  obtain ⟨⟨i, p, h1, h2⟩, h3⟩ := h
  obtain ⟨⟨j, q, h4, h5⟩, h6⟩ := h'
  have a := h3 j q h4
  have b := h6 i p h1
  omega
def spWanted : Sp := fun vs H Q _ => ∃ v t pr ps st dn, vs = [v, t] ∧ preT H v t pr ps st ∧ Dn pr.length ps st dn ∧ ∀ H' m, Same H H' → Far pr ps dn m → Q (.int m) H'
def spWayDown : Sp := fun vs H Q _ => ∃ (v t : V) (pr : List (Int × W)) (ps : List (List Nat)) (st : List Int) (dn : Nat → List Nat) (f i : Nat) (pt : List Nat), vs = [v, t, .int (f : Int)] ∧ preT H v t pr ps st ∧ Dn pr.length ps st dn ∧ ps[i]? = some pt ∧ f ∈ pt ∧
  ∀ H' p, Same H H' → H p = none → H' p = some (.lst (nV (dn i ++ [i]))) → Q (.ref p) H'
def spWayOf : Sp := fun vs H Q _ => ∃ (t : V) (n : Nat) (ps : List (List Nat)) (st : List Int) (dn : Nat → List Nat) (f i : Nat) (pt : List Nat), vs = [t, .int (f : Int)] ∧ TrAt H t ps st ∧ TrOk n ps st ∧ n ≤ 8 ∧ Dn n ps st dn ∧ ps[i]? = some pt ∧ f ∈ pt ∧
  ∀ H' p, Same H H' → H p = none → H' p = some (.lst (nV (dn i ++ [i]))) → Q (.ref p) H'
end Ov
/-! ### more on ways down -/
namespace Ov
open PySem PySem.Spec PyProof.Rows L2
theorem Down.get {st : List Int} {x : Nat} {l : List Nat} (h : Down st x l) : ∃ z, st[x]? = some z := by
  cases h with
  | base e => exact ⟨_, e⟩
  | step e _ => exact ⟨_, e⟩
theorem Paired.got {α β : Type} {R : α → β → Prop} : ∀ {a : List α} {b : List β} {i : Nat} {y : β}, Paired R a b → b[i]? = some y → ∃ x, a[i]? = some x ∧ R x y
  | _, _, 0, y, .cons h _, e => by
    obtain rfl := Option.some.inj e
    exact ⟨_, rfl, h⟩
  | _, _, i + 1, y, .cons _ r, e => Paired.got (i := i) (y := y) r e
theorem rep_v (x : V) (m : Nat) : (List.replicate ((m : Nat) : Int).toNat [x]).flatten = List.replicate m x := by
  rw [Int.toNat_natCast]
  induction m with
  | zero => rfl
  | succ m ih =>
    show [x] ++ (List.replicate m [x]).flatten = _
    rw [ih]
    rfl
/-- each function stands at one place of one part -/
theorem PInv.uniq {n : Nat} {ps : List (List Nat)} (h : PInv n ps) {i i' j j' f : Nat} {p p' : List Nat} (e1 : ps[i]? = some p) (e2 : p[j]? = some f) (e3 : ps[i']? = some p') (e4 : p'[j']? = some f) : i = i' ∧ j = j' := by
  have nd : ps.flatten.Nodup := h.perm.nodup_iff.mpr List.nodup_range
  unfold List.Nodup at nd
  rw [List.pairwise_flatten] at nd
  obtain ⟨hi, d1⟩ := List.getElem?_eq_some_iff.mp e1
  obtain ⟨hi', d3⟩ := List.getElem?_eq_some_iff.mp e3
  have m1 := List.mem_of_getElem? e2
  have m2 := List.mem_of_getElem? e4
  have ii : i = i' := by
    rcases Nat.lt_trichotomy i i' with lt | eq | gt
    · have z := List.pairwise_iff_getElem.mp nd.2 i i' hi hi' lt
      rw [d1, d3] at z
      exact absurd rfl (z f m1 f m2)
    · exact eq
    · have z := List.pairwise_iff_getElem.mp nd.2 i' i hi' hi gt
      rw [d1, d3] at z
      exact absurd rfl (z f m2 f m1)
  subst ii
  obtain rfl : p = p' := Option.some.inj (e1.symm.trans e3)
  obtain ⟨hj, d2⟩ := List.getElem?_eq_some_iff.mp e2
  obtain ⟨hj', d4⟩ := List.getElem?_eq_some_iff.mp e4
  have r := h.rise p (List.mem_of_getElem? e1)
  refine ⟨rfl, ?_⟩
  rcases Nat.lt_trichotomy j j' with lt | eq | gt
  · have z := List.pairwise_iff_getElem.mp r j j' hj hj' lt
    omega
  · exact eq
  · have z := List.pairwise_iff_getElem.mp r j' j hj' hj gt
    omega
theorem PInv.stands {n : Nat} {ps : List (List Nat)} (h : PInv n ps) {f : Nat} (hf : f < n) : ∃ (i : Nat) (p : List Nat) (j : Nat), ps[i]? = some p ∧ p[j]? = some f := by
  obtain ⟨p, hp, hm⟩ := List.mem_flatten.mp (h.perm.mem_iff.mpr (List.mem_range.mpr hf))
  obtain ⟨i, hi⟩ := List.mem_iff_getElem?.mp hp
  obtain ⟨j, hj⟩ := List.mem_iff_getElem?.mp hm
  exact ⟨i, p, j, hi, hj⟩
/-- a row that is filled part by part -/
def Fill {α : Type} (n : Nat) (ps : List (List Nat)) (R : Nat → Nat → α → Prop) (i j : Nat) (cs : List α) : Prop := cs.length = n ∧ ∀ i' p j' f, ps[i']? = some p → p[j']? = some f → (i' < i ∨ (i' = i ∧ j' < j)) → ∃ x, cs[f]? = some x ∧ R i' j' x
theorem Fill.start {α : Type} {n : Nat} {ps : List (List Nat)} {R : Nat → Nat → α → Prop} {cs : List α} (h : cs.length = n) : Fill n ps R 0 0 cs := ⟨h, fun _ _ _ _ _ _ z => by omega⟩
theorem Fill.mono {α : Type} {n : Nat} {ps : List (List Nat)} {R R' : Nat → Nat → α → Prop} {i j : Nat} {cs : List α} (h : Fill n ps R i j cs) (m : ∀ a b x, R a b x → R' a b x) : Fill n ps R' i j cs := ⟨h.1, fun i' p j' f e1 e2 z => by
  obtain ⟨x, h1, h2⟩ := h.2 i' p j' f e1 e2 z
  exact ⟨x, h1, m _ _ _ h2⟩⟩
theorem Fill.step {α : Type} {n : Nat} {ps : List (List Nat)} {R : Nat → Nat → α → Prop} {i j f : Nat} {p : List Nat} {cs : List α} {x : α} (h : Fill n ps R i j cs) (hp : PInv n ps) (e1 : ps[i]? = some p) (e2 : p[j]? = some f) (r : R i j x) : Fill n ps R i (j + 1) (cs.set f x) := by
  refine ⟨by rw [List.length_set]; exact h.1, fun i' p' j' f' d1 d2 z => ?_⟩
  by_cases e : f = f'
  · subst e
    obtain ⟨rfl, rfl⟩ := hp.uniq e1 e2 d1 d2
    have lf : f < cs.length := by rw [h.1]; exact hp.lt (List.mem_of_getElem? e1) (List.mem_of_getElem? e2)
    exact ⟨x, List.getElem?_set_self lf, r⟩
  · rw [List.getElem?_set_ne e]
    refine h.2 i' p' j' f' d1 d2 ?_
    rcases z with z | ⟨rfl, z⟩
    · exact .inl z
    · refine .inr ⟨rfl, ?_⟩
      by_cases ej : j' = j
      · subst ej
        obtain rfl : p = p' := Option.some.inj (e1.symm.trans d1)
        exact absurd (Option.some.inj (e2.symm.trans d2)) e
      · omega
theorem Fill.next {α : Type} {n : Nat} {ps : List (List Nat)} {R : Nat → Nat → α → Prop} {i : Nat} {p : List Nat} {cs : List α} (h : Fill n ps R i p.length cs) (e1 : ps[i]? = some p) : Fill n ps R (i + 1) 0 cs := ⟨h.1, fun i' p' j' f d1 d2 z => by
  refine h.2 i' p' j' f d1 d2 ?_
  by_cases e : i' = i
  · subst e
    obtain rfl : p = p' := Option.some.inj (e1.symm.trans d1)
    exact .inr ⟨rfl, (List.getElem?_eq_some_iff.mp d2).1⟩
  · omega⟩
theorem Fill.all {α : Type} {n : Nat} {ps : List (List Nat)} {R : Nat → Nat → α → Prop} {cs : List α} (h : Fill n ps R ps.length 0 cs) : cs.length = n ∧ ∀ i p j f, ps[i]? = some p → p[j]? = some f → ∃ x, cs[f]? = some x ∧ R i j x := ⟨h.1, fun i p j f d1 d2 => h.2 i p j f d1 d2 (.inl (List.getElem?_eq_some_iff.mp d1).1)⟩
/-- the cell of the j-th function of the i-th part -/
def IsCell (pr : List (Int × W)) (ps : List (List Nat)) (dn : Nat → List Nat) : Nat → Nat → Int → Prop := fun i j x => x = bgn pr ps dn i + psz pr ((ps[i]?.getD []).take j)
theorem Fill.cells {pr : List (Int × W)} {ps : List (List Nat)} {dn : Nat → List Nat} {cs : List Int} (h : Fill pr.length ps (IsCell pr ps dn) ps.length 0 cs) : Cells pr ps dn cs := by
  obtain ⟨h1, h2⟩ := h.all
  refine ⟨h1, fun i p j f d1 d2 => ?_⟩
  obtain ⟨x, e, r⟩ := h2 i p j f d1 d2
  rw [e, r, d1]
  rfl
theorem Cells.uniq {pr : List (Int × W)} {ps : List (List Nat)} {dn : Nat → List Nat} {cs cs' : List Int} (hp : PInv pr.length ps) (h : Cells pr ps dn cs) (h' : Cells pr ps dn cs') : cs = cs' := by
  refine List.ext_getElem? fun f => ?_
  by_cases hf : f < pr.length
  · obtain ⟨i, p, j, e1, e2⟩ := hp.stands hf
    rw [h.2 i p j f e1 e2, h'.2 i p j f e1 e2]
  · rw [List.getElem?_eq_none (by rw [h.1]; omega), List.getElem?_eq_none (by rw [h'.1]; omega)]
theorem ixN_nat {n k : Nat} (h : k < n) : ixN n (k : Int) = some k := by
  unfold ixN
  rw [if_pos (by omega), if_pos (by omega), Int.toNat_natCast]
theorem inVnat (f : Nat) (p : List Nat) : inV (.int (f : Int)) (nV p) = decide (f ∈ p) := by
  unfold inV nV
  rw [List.any_map, Bool.eq_iff_iff, List.any_eq_true, decide_eq_true_iff]
  constructor
  · rintro ⟨y, hy, e⟩
    have e' : ((y : Nat) : Int) = (f : Int) := by simpa [eqV] using e
    obtain rfl : y = f := by omega
    exact hy
  · intro h
    exact ⟨f, h, by simp [eqV]⟩
theorem nVflat (p : List Nat) : (nV p).all flatV = true := by
  unfold nV
  rw [List.all_map, List.all_eq_true]
  intro x _
  rfl
/-- two values that are the same: flat ones, lists and tuples of such -/
def Al (H : Hp) : Nat → V → V → Prop
  | 0, _, _ => False
  | d + 1, x, y => (x = y ∧ flatV x = true) ∨ (∃ a b xs ys, x = .ref a ∧ y = .ref b ∧ H a = some (.lst xs) ∧ H b = some (.lst ys) ∧ xs.length ≤ 9000 ∧ Paired (Al H d) xs ys) ∨
    ∃ a b xs ys, x = .ref a ∧ y = .ref b ∧ H a = some (.tup xs) ∧ H b = some (.tup ys) ∧ xs.length ≤ 9000 ∧ Paired (Al H d) xs ys
theorem Al.keep {H H' : Hp} (s : Same H H') : ∀ {d : Nat} {x y : V}, Al H d x y → Al H' d x y
  | 0, _, _, h => h.elim
  | d + 1, _, _, .inl h => .inl h
  | d + 1, _, _, .inr (.inl ⟨a, b, xs, ys, e1, e2, h1, h2, l, h3⟩) => .inr (.inl ⟨a, b, xs, ys, e1, e2, s _ _ h1, s _ _ h2, l, L2.Paired.mapP h3 fun _ _ z => Al.keep s z⟩)
  | d + 1, _, _, .inr (.inr ⟨a, b, xs, ys, e1, e2, h1, h2, l, h3⟩) => .inr (.inr ⟨a, b, xs, ys, e1, e2, s _ _ h1, s _ _ h2, l, L2.Paired.mapP h3 fun _ _ z => Al.keep s z⟩)
theorem Al.flat {H : Hp} {d : Nat} : ∀ xs : List V, xs.all flatV = true → Paired (Al H (d + 1)) xs xs
  | [], _ => .nil
  | x :: xs, h => by
    rw [List.all_cons, Bool.and_eq_true] at h
    exact .cons (.inl ⟨rfl, h.1⟩) (Al.flat xs h.2)
theorem Al.ints {H : Hp} {d : Nat} (ns : List Int) : Paired (Al H (d + 1)) (ns.map V.int) (ns.map V.int) := Al.flat _ (by
  rw [List.all_map, List.all_eq_true]
  intro x _
  rfl)
def spAlike (d : Nat) : Sp := fun vs H Q _ => ∃ x y, vs = [x, y] ∧ Al H d x y ∧ ∀ H', Same H H' → Q (.bl true) H'
theorem cut_last (l : List Nat) (x : Nat) : cutV (nV (l ++ [x])) none (some (-1)) = nV l := by
  have e : (nV (l ++ [x])).length = l.length + 1 := by rw [nV_len, List.length_append]; rfl
  have z : HT.sIx (l.length + 1) (l.length + 1) (some (-1)) = l.length := by
    unfold HT.sIx
    simp
    try omega
  unfold cutV
  rw [e, HT.sIx_none, z, Nat.sub_zero, List.drop_zero, nV_app]
  exact List.take_left' (nV_len l)
/-- what was laid: the functions' cells and ways down, the farthest end -/
def LaidAt (H : Hp) (pr : List (Int × W)) (ps : List (List Nat)) (dn : Nat → List Nat) (v : V) : Prop := ∃ r fl vs m, v = .ref r ∧ H r = some (.tup [.ref fl, .int m]) ∧ H fl = some (.lst vs) ∧
  Fill pr.length ps (fun i j x => ∃ t dl, x = .ref t ∧ H t = some (.tup [.int (bgn pr ps dn i + psz pr ((ps[i]?.getD []).take j)), .ref dl]) ∧ H dl = some (.lst (nV (dn i ++ [i])))) ps.length 0 vs ∧ Far pr ps dn m
def spLaid : Sp := fun vs H Q _ => ∃ v t pr ps st dn, vs = [v, t] ∧ preT H v t pr ps st ∧ Dn pr.length ps st dn ∧ ∀ H' x, Same H H' → LaidAt H' pr ps dn x → Q x H'
/-- the same, with where the new lists stand -/
def spLaidN : Sp := fun vs H Q _ => ∃ v t pr ps st dn, vs = [v, t] ∧ preT H v t pr ps st ∧ Dn pr.length ps st dn ∧ ∀ H' r fl us m, Same H H' → H fl = none → H' r = some (.tup [.ref fl, .int m]) → H' fl = some (.lst us) →
  Fill pr.length ps (fun i j x => ∃ t dl, x = .ref t ∧ H' t = some (.tup [.int (bgn pr ps dn i + psz pr ((ps[i]?.getD []).take j)), .ref dl]) ∧ H' dl = some (.lst (nV (dn i ++ [i]))) ∧ H dl = none) ps.length 0 us → Far pr ps dn m → Q (.ref r) H'
theorem bgn_psz {pr : List (Int × W)} {ps : List (List Nat)} {dn : Nat → List Nat} {i : Nat} : (((dn i ++ [i]).map fun y => psz pr (ps[y]?.getD []))).sum = bgn pr ps dn i + psz pr (ps[i]?.getD []) := by
  unfold bgn
  rw [List.map_append, List.sum_append]
  simp
/-- what is laid for the j-th function of the i-th part, the ways down at Hb -/
def RL (Hb H : Hp) (pr : List (Int × W)) (ps : List (List Nat)) (dn : Nat → List Nat) (H0 : Hp) : Nat → Nat → V → Prop := fun i j x => ∃ t dl, x = .ref t ∧ H t = some (.tup [.int (bgn pr ps dn i + psz pr ((ps[i]?.getD []).take j)), .ref dl]) ∧ Hb dl = some (.lst (nV (dn i ++ [i]))) ∧ H0 dl = none
theorem RL.keep {Hb H H' : Hp} {pr : List (Int × W)} {ps : List (List Nat)} {dn : Nat → List Nat} {H0 : Hp} (k : Keep H H') : ∀ a b x, RL Hb H pr ps dn H0 a b x → RL Hb H' pr ps dn H0 a b x := fun _ _ _ ⟨t, dl, e, h1, h2, h3⟩ => ⟨t, dl, e, k _ _ h1, h2, h3⟩
theorem LsAt.snoc {H : Hp} {bs : List Addr} {qs : List (List Nat)} {b : Addr} {q : List Nat} (h : LsAt H bs qs) (e : H b = some (.lst (nV q))) : LsAt H (bs ++ [b]) (qs ++ [q]) := Paired.snoc h e
/-- a law over one list of at most 63 ints -/
def spLaw (K : PySem.W.Frag) : Sp := fun vs H Q _ => ∃ (a : Addr) (ns : List Int), vs = [.ref a] ∧ SqL K H a (ns.map V.int) ∧ ns.length ≤ 63 ∧ ∀ H', Q (.bl true) H'
end Ov
/-! ### runs as data -/
namespace Ov
open PySem PySem.Spec PyProof.Rows L2
/-- what a word comes to -/
inductive Wt where
  | num (z : Int) | way (f : Nat)
inductive Flt where
  | kind | deep | long
def Flt.name : Flt → Str
  | .kind => "kind" | .deep => "deep" | .long => "long"
/-- how far a run is -/
structure RS where
  said : List Int
  calls : Nat
  row : List Nat
  came : List (Nat × Wt)
  told : List (Nat × Wt)
inductive Res where
  | ok (v : Wt) (s : RS) | bad (f : Flt) (s : RS)
def Res.bind (r : Res) (k : Wt → RS → Res) : Res := match r with
  | .ok v s => k v s
  | .bad f s => .bad f s
def WtOk (n : Nat) : Wt → Prop
  | .num z => 0 ≤ z ∧ z < 1000
  | .way f => f < n
def evArms (ev : W → RS → Res) : List W → List Wt → RS → (List Wt → RS → Res) → Res
  | [], acc, s, k => k acc s
  | w :: ws, acc, s, k => (ev w s).bind fun v s => evArms ev ws (acc ++ [v]) s k
def fin (call : Nat → Wt → RS → Res) (o : Op) (g : Int) (vs : List Wt) (s : RS) : Res := match o, vs with
  | .thn, [_, v] => .ok v s
  | .say, [.num z] => .ok (.num z) { s with said := s.said ++ [z] }
  | .call, [v] => call g.toNat v s
  | .through, [.way f, u] => call f u s
  | .plus, [.num x, .num y] => .ok (.num ((x + y) % 1000)) s
  | .less, [.num x, .num y] => .ok (.num ((x - y) % 1000)) s
  | .times, [.num x, .num y] => .ok (.num ((x * y) % 1000)) s
  | _, _ => .bad .kind s
/-- a word's going: calls as given, the argument a, words at most d within one another -/
def evB (call : Nat → Wt → RS → Res) (a : Wt) : Nat → W → RS → Res
  | 0, _, s => .bad .kind s
  | d + 1, .mk o g as, s => match o with
    | .num => .ok (.num g) s
    | .way => .ok (.way g.toNat) s
    | .arg => .ok a s
    | .ife => match as with
      | [t, x, y] => (evB call a d t s).bind fun v s => match v with
        | .way _ => .bad .kind s
        | .num z => if z ≠ 0 then evB call a d x s else evB call a d y s
      | _ => .bad .kind s
    | o => evArms (evB call a d) as [] s (fin call o g)
/-- a call's going: n more within one another, who calls, who is called -/
def evC (pr : List (Int × W)) : Nat → Nat → Nat → Wt → RS → Res
  | 0, _, _, _, s => .bad .deep s
  | n + 1, c, f, a, s => if 200 ≤ s.calls then .bad .long s else
    match pr[f]? with
    | none => .bad .kind s
    | some p => (evB (evC pr n f) a 7 p.2 { s with calls := s.calls + 1, row := s.row ++ [f], came := s.came ++ [(f, a)] }).bind fun v s => .ok v { s with row := s.row ++ [c], told := s.told ++ [(f, v)] }
/-- a whole run -/
def evR (pr : List (Int × W)) (z : Int) : Res := match pr[0]? with
  | none => .bad .kind ⟨[], 0, [0], [], []⟩
  | some p => (evB (evC pr 12 0) (.num z) 7 p.2 ⟨[], 0, [0], [(0, .num z)], []⟩).bind fun v s => .ok v { s with told := s.told ++ [(0, v)] }
/-- a worth as the law has it -/
def LV (H : Hp) : V → Wt → Prop
  | v, .num z => v = .int z
  | v, .way f => ∃ t, v = .ref t ∧ H t = some (.tup [.str "way", .int (f : Int)])
theorem LV.keep {H H' : Hp} (k : Keep H H') : ∀ {v : V} {a : Wt}, LV H v a → LV H' v a
  | _, .num _, h => h
  | _, .way _, ⟨t, e, h⟩ => ⟨t, e, k _ _ h⟩
/-- a pair of a function and a worth -/
def EntAt (H : Hp) (v : V) (e : Nat × Wt) : Prop := ∃ t lv, v = .ref t ∧ H t = some (.tup [.int (e.1 : Int), lv]) ∧ LV H lv e.2
theorem EntAt.keep {H H' : Hp} (k : Keep H H') {v : V} {e : Nat × Wt} (h : EntAt H v e) : EntAt H' v e := by
  obtain ⟨t, lv, e1, h1, h2⟩ := h
  exact ⟨t, lv, e1, k _ _ h1, h2.keep k⟩
/-- the law's record of a run: the dict, its lists -/
structure RA where
  r : Addr
  sa : Addr
  tr : Addr
  ca : Addr
  to : Addr
  ah : Addr
  ba : Addr
def rK (x : RA) (pv : V) (calls : Int) (en : V) : List (Key × V) :=
  [(.inr "program", pv), (.inr "said", .ref x.sa), (.inr "calls", .int calls), (.inr "trace", .ref x.tr), (.inr "end", en), (.inr "hall", .non), (.inr "ahead", .ref x.ah), (.inr "back", .ref x.ba), (.inr "looks", .int 0), (.inr "came", .ref x.ca), (.inr "told", .ref x.to)]
structure RAt (H : Hp) (x : RA) (pv : V) (s : RS) (en : V) : Prop where
  r : H x.r = some (.dK (rK x pv (s.calls : Int) en))
  sa : H x.sa = some (.lst (s.said.map V.int))
  tr : H x.tr = some (.lst (nV s.row))
  ca : ∃ cs, H x.ca = some (.lst cs) ∧ Paired (EntAt H) cs s.came
  to : ∃ cs, H x.to = some (.lst cs) ∧ Paired (EntAt H) cs s.told
  ah : H x.ah = some (.lst [])
  ba : H x.ba = some (.lst [])
  nd : [x.sa, x.tr, x.ca, x.to, x.ah, x.ba].Nodup
theorem rK_end {x : RA} {pv : V} {c : Int} {en v : V} : putK (rK x pv c en) (.inr "end") v = rK x pv c v := by rfl
theorem rK_calls {x : RA} {pv : V} {c d : Int} {en : V} : putK (rK x pv c en) (.inr "calls") (.int d) = rK x pv d en := by rfl
/-- all but the record stays -/
def ButR (x : RA) (H H' : Hp) : Prop := ∀ a o, a ≠ x.r → a ≠ x.sa → a ≠ x.tr → a ≠ x.ca → a ≠ x.to → H a = some o → H' a = some o
theorem ButR.trans {x : RA} {H H1 H2 : Hp} (p : ButR x H H1) (q : ButR x H1 H2) : ButR x H H2 := fun a o n1 n2 n3 n4 n5 e => q a o n1 n2 n3 n4 n5 (p a o n1 n2 n3 n4 n5 e)
theorem ButR.same {x : RA} {H H' : Hp} (p : Same H H') : ButR x H H' := fun a o _ _ _ _ _ e => p a o e
theorem RAt.keepB {H H' H0 : Hp} {x : RA} {pv : V} {s : RS} {en : V} (h : RAt H x pv s en) (b : ButR x H H') : Keep H H' := fun a xs e => by
  obtain ⟨cs, h1, _⟩ := h.ca
  obtain ⟨ds, h2, _⟩ := h.to
  exact b a _ (ne_of e h.r (by intro z; cases z)) (ne_of e h.sa (by intro z; cases z)) (ne_of e h.tr (by intro z; cases z)) (ne_of e h1 (by intro z; cases z)) (ne_of e h2 (by intro z; cases z)) e
theorem RAt.same {H H' : Hp} {x : RA} {pv : V} {s : RS} {en : V} (h : RAt H x pv s en) (e : Same H H') : RAt H' x pv s en := by
  obtain ⟨h1, h2, h3, ⟨cs, h4, h5⟩, ⟨ds, h6, h7⟩, h8, h9, h10⟩ := h
  exact ⟨e _ _ h1, e _ _ h2, e _ _ h3, ⟨cs, e _ _ h4, L2.Paired.mapP h5 fun _ _ z => z.keep (Keep.same e)⟩, ⟨ds, e _ _ h6, L2.Paired.mapP h7 fun _ _ z => z.keep (Keep.same e)⟩, e _ _ h8, e _ _ h9, h10⟩
theorem RAt.new {H : Hp} {x : RA} {pv : V} {s : RS} {en : V} (h : RAt H x pv s en) {p : Addr} (hp : H p = none) : p ≠ x.r ∧ p ≠ x.sa ∧ p ≠ x.tr ∧ p ≠ x.ca ∧ p ≠ x.to := by
  obtain ⟨cs, h1, _⟩ := h.ca
  obtain ⟨ds, h2, _⟩ := h.to
  exact ⟨(ne_of_none h.r hp).symm, (ne_of_none h.sa hp).symm, (ne_of_none h.tr hp).symm, (ne_of_none h1 hp).symm, (ne_of_none h2 hp).symm⟩
theorem Keep.updD {H : Hp} {a : Addr} {ks : List (Key × V)} {o : HO} (e : H a = some (.dK ks)) : Keep H (upd H a o) := fun b zs h => by
  rw [upd_ne (ne_of h e (by intro z; cases z))]
  exact h
theorem RAt.ents {H H' : Hp} {cs : List V} {l : List (Nat × Wt)} (k : Keep H H') (h : Paired (EntAt H) cs l) : Paired (EntAt H') cs l := L2.Paired.mapP h fun _ _ z => z.keep k
/-- the dict is written -/
theorem RAt.updR {H : Hp} {x : RA} {pv : V} {s : RS} {en en' : V} {c : Nat} (h : RAt H x pv s en) : RAt (upd H x.r (.dK (rK x pv (c : Int) en'))) x pv { s with calls := c } en' := by
  have k := Keep.updD (o := .dK (rK x pv (c : Int) en')) h.r
  obtain ⟨h1, h2, h3, ⟨cs, h4, h5⟩, ⟨ds, h6, h7⟩, h8, h9, h10⟩ := h
  have ne : ∀ {a : Addr} {l : List V}, H a = some (.lst l) → a ≠ x.r := fun e => ne_of e h1 (by intro z; cases z)
  exact ⟨upd_same, by rw [upd_ne (ne h2)]; exact h2, by rw [upd_ne (ne h3)]; exact h3, ⟨cs, by rw [upd_ne (ne h4)]; exact h4, RAt.ents k h5⟩, ⟨ds, by rw [upd_ne (ne h6)]; exact h6, RAt.ents k h7⟩, by rw [upd_ne (ne h8)]; exact h8, by rw [upd_ne (ne h9)]; exact h9, h10⟩
theorem RAt.butR {H : Hp} {x : RA} {o : HO} : ButR x H (upd H x.r o) := fun a u n _ _ _ _ e => by rw [upd_ne n]; exact e
theorem RAt.butS {H : Hp} {x : RA} {o : HO} : ButR x H (upd H x.sa o) := fun a u _ n _ _ _ e => by rw [upd_ne n]; exact e
theorem RAt.butT {H : Hp} {x : RA} {o : HO} : ButR x H (upd H x.tr o) := fun a u _ _ n _ _ e => by rw [upd_ne n]; exact e
theorem RAt.butC {H : Hp} {x : RA} {o : HO} : ButR x H (upd H x.ca o) := fun a u _ _ _ n _ e => by rw [upd_ne n]; exact e
theorem RAt.butO {H : Hp} {x : RA} {o : HO} : ButR x H (upd H x.to o) := fun a u _ _ _ _ n e => by rw [upd_ne n]; exact e
theorem RAt.nds {H : Hp} {x : RA} {pv : V} {s : RS} {en : V} (h : RAt H x pv s en) : (x.sa ≠ x.tr ∧ x.sa ≠ x.ca ∧ x.sa ≠ x.to ∧ x.sa ≠ x.ah ∧ x.sa ≠ x.ba) ∧ (x.tr ≠ x.ca ∧ x.tr ≠ x.to ∧ x.tr ≠ x.ah ∧ x.tr ≠ x.ba) ∧ (x.ca ≠ x.to ∧ x.ca ≠ x.ah ∧ x.ca ≠ x.ba) ∧ (x.to ≠ x.ah ∧ x.to ≠ x.ba) := by
  have := h.nd
  simp only [List.nodup_cons, List.mem_cons, List.not_mem_nil, or_false, not_or] at this
  obtain ⟨⟨a1, a2, a3, a4, a5⟩, ⟨b1, b2, b3, b4⟩, ⟨c1, c2, c3⟩, ⟨d1, d2⟩, _⟩ := this
  exact ⟨⟨a1, a2, a3, a4, a5⟩, ⟨b1, b2, b3, b4⟩, ⟨c1, c2, c3⟩, d1, d2⟩
theorem RAt.updS {H : Hp} {x : RA} {pv : V} {s : RS} {en : V} {z : Int} (h : RAt H x pv s en) : RAt (upd H x.sa (.lst (s.said.map V.int ++ [.int z]))) x pv { s with said := s.said ++ [z] } en := by
  have k := Keep.updL (ys := s.said.map V.int ++ [.int z]) h.sa
  obtain ⟨⟨a1, a2, a3, a4, a5⟩, ⟨b1, b2, b3, b4⟩, ⟨c1, c2, c3⟩, d1, d2⟩ := h.nds
  obtain ⟨h1, h2, h3, ⟨cs, h4, h5⟩, ⟨ds, h6, h7⟩, h8, h9, h10⟩ := h
  have ne : x.r ≠ x.sa := ne_of h1 h2 (by intro z; cases z)
  exact ⟨by rw [upd_ne ne]; exact h1, by rw [upd_same, List.map_append]; rfl, by rw [upd_ne a1.symm]; exact h3, ⟨cs, by rw [upd_ne a2.symm]; exact h4, RAt.ents k h5⟩, ⟨ds, by rw [upd_ne a3.symm]; exact h6, RAt.ents k h7⟩, by rw [upd_ne a4.symm]; exact h8, by rw [upd_ne a5.symm]; exact h9, h10⟩
theorem RAt.updT {H : Hp} {x : RA} {pv : V} {s : RS} {en : V} {f : Nat} (h : RAt H x pv s en) : RAt (upd H x.tr (.lst (nV s.row ++ [.int (f : Int)]))) x pv { s with row := s.row ++ [f] } en := by
  have k := Keep.updL (ys := nV s.row ++ [.int (f : Int)]) h.tr
  obtain ⟨⟨a1, a2, a3, a4, a5⟩, ⟨b1, b2, b3, b4⟩, ⟨c1, c2, c3⟩, d1, d2⟩ := h.nds
  obtain ⟨h1, h2, h3, ⟨cs, h4, h5⟩, ⟨ds, h6, h7⟩, h8, h9, h10⟩ := h
  have ne : x.r ≠ x.tr := ne_of h1 h3 (by intro z; cases z)
  exact ⟨by rw [upd_ne ne]; exact h1, by rw [upd_ne a1]; exact h2, by rw [upd_same, nV_app], ⟨cs, by rw [upd_ne b1.symm]; exact h4, RAt.ents k h5⟩, ⟨ds, by rw [upd_ne b2.symm]; exact h6, RAt.ents k h7⟩, by rw [upd_ne b3.symm]; exact h8, by rw [upd_ne b4.symm]; exact h9, h10⟩
theorem RAt.updC {H : Hp} {x : RA} {pv v : V} {s : RS} {en : V} {cs : List V} {e : Nat × Wt} (h : RAt H x pv s en) (hc : H x.ca = some (.lst cs)) (hv : EntAt H v e) : RAt (upd H x.ca (.lst (cs ++ [v]))) x pv { s with came := s.came ++ [e] } en := by
  have k := Keep.updL (ys := cs ++ [v]) hc
  obtain ⟨⟨a1, a2, a3, a4, a5⟩, ⟨b1, b2, b3, b4⟩, ⟨c1, c2, c3⟩, d1, d2⟩ := h.nds
  obtain ⟨h1, h2, h3, ⟨cs', h4, h5⟩, ⟨ds, h6, h7⟩, h8, h9, h10⟩ := h
  have ne : x.r ≠ x.ca := ne_of h1 h4 (by intro z; cases z)
  obtain rfl : cs' = cs := by
    have := h4.symm.trans hc
    cases this
    rfl
  exact ⟨by rw [upd_ne ne]; exact h1, by rw [upd_ne a2]; exact h2, by rw [upd_ne b1]; exact h3, ⟨cs' ++ [v], upd_same, PySem.Paired.snoc (RAt.ents k h5) (hv.keep k)⟩, ⟨ds, by rw [upd_ne c1.symm]; exact h6, RAt.ents k h7⟩, by rw [upd_ne c2.symm]; exact h8, by rw [upd_ne c3.symm]; exact h9, h10⟩
theorem RAt.updO {H : Hp} {x : RA} {pv v : V} {s : RS} {en : V} {cs : List V} {e : Nat × Wt} (h : RAt H x pv s en) (hc : H x.to = some (.lst cs)) (hv : EntAt H v e) : RAt (upd H x.to (.lst (cs ++ [v]))) x pv { s with told := s.told ++ [e] } en := by
  have k := Keep.updL (ys := cs ++ [v]) hc
  obtain ⟨⟨a1, a2, a3, a4, a5⟩, ⟨b1, b2, b3, b4⟩, ⟨c1, c2, c3⟩, d1, d2⟩ := h.nds
  obtain ⟨h1, h2, h3, ⟨cs', h4, h5⟩, ⟨ds, h6, h7⟩, h8, h9, h10⟩ := h
  have ne : x.r ≠ x.to := ne_of h1 h6 (by intro z; cases z)
  obtain rfl : ds = cs := by
    have := h6.symm.trans hc
    cases this
    rfl
  exact ⟨by rw [upd_ne ne]; exact h1, by rw [upd_ne a3]; exact h2, by rw [upd_ne b2]; exact h3, ⟨cs', by rw [upd_ne c1]; exact h4, RAt.ents k h5⟩, ⟨ds ++ [v], upd_same, PySem.Paired.snoc (RAt.ents k h7) (hv.keep k)⟩, by rw [upd_ne d1.symm]; exact h8, by rw [upd_ne d2.symm]; exact h9, h10⟩
theorem pg_lstK {X : Cx} {K : PySem.W.Frag} {es : List Expr} {k : Nat} {pos : Pos} {t : TGs} {n : Nat} (hK : X.K = K) (hc : X.calm = true) (h : PGs X es t)
    (hn : (assignEach es X.env).length = n := by rfl) (hst : (assignEach es X.env).findIdx? (·.1) = none := by rfl) : PG X (.Tuple es k pos) (gLst K n t) := by
  subst hK
  exact pg_lst hc h hn hst
/-- how much may still be laid down -/
def RS.phi (s : RS) : Nat := s.said.length + s.row.length + s.came.length + s.told.length + 44 * (200 - s.calls)
def Good (n b : Nat) : Res → Prop
  | .ok v s => WtOk n v ∧ s.phi ≤ b
  | .bad _ s => s.phi ≤ b
theorem Good.le {n b c : Nat} (le : b ≤ c) : ∀ {r : Res}, Good n b r → Good n c r
  | .ok _ _, h => ⟨h.1, Nat.le_trans h.2 le⟩
  | .bad _ _, h => Nat.le_trans (show _ ≤ b from h) le
theorem Good.bind {n b c : Nat} (le : b ≤ c) {k : Wt → RS → Res} : ∀ {r : Res}, Good n b r → (∀ v s, WtOk n v → s.phi ≤ b → Good n c (k v s)) → Good n c (r.bind k)
  | .ok v s, h, hk => hk v s h.1 h.2
  | .bad _ _, h, _ => Nat.le_trans (show _ ≤ b from h) le
theorem evArms_good {n : Nat} {ev : W → RS → Res} {k : List Wt → RS → Res} {c : Nat} : ∀ (ws : List W) (acc : List Wt) (s : RS), (∀ w ∈ ws, ∀ s, Good n (s.phi + w.size) (ev w s)) → s.phi + W.sizes ws ≤ c → (∀ v ∈ acc, WtOk n v) →
    (∀ vs s, vs.length = acc.length + ws.length → (∀ v ∈ vs, WtOk n v) → s.phi ≤ c → Good n (c + 1) (k vs s)) → Good n (c + 1) (evArms ev ws acc s k)
  | [], acc, s, _, hs, ha, hk => by
    rw [W.sizes] at hs
    exact hk acc s rfl ha hs
  | w :: ws, acc, s, he, hs, ha, hk => by
    rw [W.sizes] at hs
    refine Good.bind (b := s.phi + w.size) (by omega) (he w List.mem_cons_self s) fun v s' hv hs' => ?_
    refine evArms_good ws (acc ++ [v]) s' (fun u hu => he u (List.mem_cons_of_mem _ hu)) (by omega) (fun u hu => ?_) fun vs s2 hl h1 h2 => hk vs s2 (by rw [hl, List.length_append, List.length_singleton, List.length_cons]; omega) h1 h2
    rcases List.mem_append.mp hu with h | h
    · exact ha u h
    · rw [List.mem_singleton.mp h]
      exact hv
theorem fin_good {n : Nat} {call : Nat → Wt → RS → Res} (hc : ∀ f u s, f < n → WtOk n u → Good n s.phi (call f u s)) {o : Op} {g : Int} (hg : o.fits n g) {vs : List Wt} {s : RS} {c : Nat} (hv : ∀ v ∈ vs, WtOk n v) (hs : s.phi ≤ c) : Good n (c + 1) (fin call o g vs s) := by
  have md : ∀ z : Int, WtOk n (.num (z % 1000)) := fun z => ⟨Int.emod_nonneg _ (by decide), Int.emod_lt_of_pos _ (by decide)⟩
  unfold fin
  split
  · exact ⟨hv _ (by simp), by omega⟩
  · refine ⟨hv _ (by simp), ?_⟩
    unfold RS.phi at hs ⊢
    simp only [List.length_append, List.length_singleton]
    omega
  · have h := hg
    exact Good.le (by omega) (hc _ _ _ (by have : 0 ≤ g ∧ g < n := h; omega) (hv _ (by simp)))
  · rename_i f u
    exact Good.le (by omega) (hc _ _ _ (hv (.way f) (by simp)) (hv _ (by simp)))
  · exact ⟨md _, by omega⟩
  · exact ⟨md _, by omega⟩
  · exact ⟨md _, by omega⟩
  · show s.phi ≤ c + 1
    omega
theorem evB_good {n : Nat} {call : Nat → Wt → RS → Res} (hc : ∀ f u s, f < n → WtOk n u → Good n s.phi (call f u s)) {a : Wt} (ha : WtOk n a) : ∀ (d : Nat) (w : W) (s : RS), WOk n d w → Good n (s.phi + w.size) (evB call a d w s) := by
  intro d
  induction d with
  | zero => exact fun w s h => absurd h wok0
  | succ d ih =>
    intro w s h
    cases h with
    | @mk _ o g as h1 h2 h3 =>
    rw [W.size_mk]
    have gen : Good n (s.phi + (1 + W.sizes as)) (evArms (evB call a d) as [] s (fin call o g)) := by
      rw [show s.phi + (1 + W.sizes as) = s.phi + W.sizes as + 1 by omega]
      exact evArms_good as [] s (fun w hw s => ih w s (h3 w hw)) (Nat.le_refl _) (fun _ z => nomatch z) fun vs s2 _ h4 h5 => fin_good hc h2 h4 h5
    cases o with
    | num => exact ⟨⟨h2.1, by have : 0 ≤ g ∧ g ≤ 99 := h2; omega⟩, by omega⟩
    | way => exact ⟨(by have : 0 ≤ g ∧ g < n := h2; show g.toNat < n; omega), by omega⟩
    | arg => exact ⟨ha, by omega⟩
    | ife =>
      match as, h1, h3 with
      | [t, x, y], _, h3 =>
        simp only [W.sizes]
        refine Good.bind (b := s.phi + t.size) (by omega) (ih t s (h3 t (by simp))) fun v s' hv hs' => ?_
        cases v with
        | way f => show s'.phi ≤ _; omega
        | num z =>
          show Good n _ (if z ≠ 0 then _ else _)
          split
          · exact Good.le (by omega) (ih x s' (h3 x (by simp)))
          · exact Good.le (by omega) (ih y s' (h3 y (by simp)))
    | plus => exact gen
    | less => exact gen
    | times => exact gen
    | thn => exact gen
    | say => exact gen
    | call => exact gen
    | through => exact gen
theorem evC_good {pr : List (Int × W)} (hp : PrOk pr) : ∀ (n c f : Nat) (u : Wt) (s : RS), f < pr.length → WtOk pr.length u → Good pr.length s.phi (evC pr n c f u s)
  | 0, _, _, _, s, _, _ => Nat.le_refl _
  | n + 1, c, f, u, s, hf, hu => by
    rw [evC]
    by_cases h : 200 ≤ s.calls
    · rw [if_pos h]
      exact Nat.le_refl _
    · rw [if_neg h, List.getElem?_eq_getElem hf]
      have hb := hp.f _ (List.getElem_mem hf)
      have g := evB_good (n := pr.length) (call := evC pr n f) (a := u) (fun f' u' s' h1 h2 => evC_good hp n f f' u' s' h1 h2) hu 7 (pr[f]).2 { s with calls := s.calls + 1, row := s.row ++ [f], came := s.came ++ [(f, u)] } hb.2.2.1
      have e : ({ s with calls := s.calls + 1, row := s.row ++ [f], came := s.came ++ [(f, u)] } : RS).phi + (pr[f]).2.size ≤ s.phi - 2 ∧ 2 ≤ s.phi := by
        have := hb.2.2.2
        unfold RS.phi
        simp only [List.length_append, List.length_singleton]
        omega
      refine Good.bind (b := s.phi - 2) (by omega) (Good.le e.1 g) fun v s' hv hs' => ⟨hv, ?_⟩
      unfold RS.phi at hs' ⊢
      simp only [List.length_append, List.length_singleton]
      unfold RS.phi at e
      omega
/-- the fault stands at v -/
def FltAt (H : Hp) (v : V) (f : Flt) : Prop := ∃ t, v = .ref t ∧ H t = some (.tup [.str "fault", .str f.name])
def most : Nat := 1000000
def spSeen : Sp := fun vs H Q _ => ∃ x pv s f b, vs = [.ref x.r, f, b] ∧ RAt H x pv s .non ∧ Q .non H
/-- an answer: what it comes to, or a fault -/
def Ans (x : RA) (pv : V) (H : Hp) (Q : VK) (r : Res) : Prop := match r with
  | .ok b s => ∀ H' y, ButR x H H' → RAt H' x pv s .non → LV H' y b → Q y H'
  | .bad f s => ∀ H' t, ButR x H H' → RAt H' x pv s (.ref t) → H' t = some (.tup [.str "fault", .str f.name]) → Q .non H'
theorem Ans.but {x : RA} {pv : V} {H H1 : Hp} {Q : VK} (b : ButR x H H1) : ∀ {r : Res}, Ans x pv H Q r → Ans x pv H1 Q r
  | .ok _ _, h => fun H' y b' => h H' y (b.trans b')
  | .bad _ _, h => fun H' t b' => h H' t (b.trans b')
def spCome (pr : List (Int × W)) (n d : Nat) : Sp := fun vs H Q _ => ∃ (x : RA) (pv : V) (s : RS) (v lv : V) (w : W) (a : Wt) (fn : Nat) (pl dp : Int), vs = [.ref x.r, .int (fn : Int), .int pl, v, lv, .int dp] ∧ RAt H x pv s .non ∧ PrAt H pv pr ∧ PrOk pr ∧
  WAt H v w ∧ WOk pr.length d w ∧ LV H lv a ∧ WtOk pr.length a ∧ fn < pr.length ∧ s.phi + w.size ≤ most ∧ dp + (n : Int) = 12 ∧ Ans x pv H Q (evB (evC pr n fn) a d w s)
def spCalled (pr : List (Int × W)) (n : Nat) : Sp := fun vs H Q _ => ∃ (x : RA) (pv : V) (s : RS) (at_ b fl : Addr) (o : Op) (g : Int) (us ls : List V) (acc : List Wt) (fn : Nat) (pl dp : Int), vs = [.ref x.r, .ref at_, .ref b, .ref fl, .int dp] ∧ RAt H x pv s .non ∧ PrAt H pv pr ∧ PrOk pr ∧
  H at_ = some (.tup [.int (fn : Int), .int pl]) ∧ WordAt H b o g us ∧ (o = .call ∨ o = .through) ∧ o.fits pr.length g ∧ H fl = some (.lst ls) ∧ Paired (LV H) ls acc ∧ acc.length = o.arity ∧ (∀ u ∈ acc, WtOk pr.length u) ∧ fn < pr.length ∧ s.phi ≤ most ∧ dp + (n : Int) = 12 ∧
  fl ≠ x.sa ∧ fl ≠ x.tr ∧ fl ≠ x.ca ∧ fl ≠ x.to ∧ Ans x pv H Q (fin (evC pr n fn) o g acc s)
theorem putEnd {H : Hp} {x : RA} {pv : V} {c : Int} {en v : V} (h : H x.r = some (.dK (rK x pv c en))) : DPut H x.r (.str "end") v (upd H x.r (.dK (rK x pv c v))) := by
  rw [← rK_end (en := en)]
  exact DPut.k (k := Sum.inr "end") h (by show 11 < sizeLine; decide)
theorem putCalls {H : Hp} {x : RA} {pv : V} {c d : Int} {en : V} (h : H x.r = some (.dK (rK x pv c en))) : DPut H x.r (.str "calls") (.int d) (upd H x.r (.dK (rK x pv d en))) := by
  rw [← rK_calls (c := c)]
  exact DPut.k (k := Sum.inr "calls") h (by show 11 < sizeLine; decide)
theorem ButR.keepL {x : RA} {H H' : Hp} (b : ButR x H H') {r : List (Key × V)} (hr : H x.r = some (.dK r)) {l : Addr} {ls : List V} (h : H l = some (.lst ls)) (n1 : l ≠ x.sa) (n2 : l ≠ x.tr) (n3 : l ≠ x.ca) (n4 : l ≠ x.to) : H' l = some (.lst ls) :=
  b l _ (ne_of h hr (by intro z; cases z)) n1 n2 n3 n4 h
theorem big {n : Nat} {s : RS} (h : s.phi ≤ most) (le : n ≤ s.phi + 1) : n < sizeLine := Nat.lt_of_le_of_lt (Nat.le_trans le (Nat.succ_le_succ h)) (by decide)
theorem hu65 {k : Nat} {A : Around} (hr : Room k A) : A.units + 65 < cLine := by
  have := hr.un
  omega
theorem pairShaped (a b : Int) : SeqAt.shaped (.tuple [.int a, .int b]) = true := by
  simp [SeqAt.shaped, PyData.depth, PyData.depthAll, PyData.canLay0, PyData.canLayAll0]
theorem two_of {α β : Type} {R : α → β → Prop} {ls : List α} {acc : List β} (h : Paired R ls acc) (e : acc.length = 2) : ∃ x y a b, ls = [x, y] ∧ acc = [a, b] ∧ R x a ∧ R y b := by
  match acc, h, e with
  | [a, b], .cons h1 (.cons h2 .nil), _ => exact ⟨_, _, a, b, rfl, rfl, h1, h2⟩
theorem one_of {α β : Type} {R : α → β → Prop} {ls : List α} {acc : List β} (h : Paired R ls acc) (e : acc.length = 1) : ∃ x a, ls = [x] ∧ acc = [a] ∧ R x a := by
  match acc, h, e with
  | [a], .cons h1 .nil, _ => exact ⟨_, a, rfl, rfl, h1⟩
theorem evB_gen {call : Nat → Wt → RS → Res} {a : Wt} {d : Nat} {o : Op} {g : Int} {as : List W} {s : RS} (n1 : o ≠ .num) (n2 : o ≠ .way) (n3 : o ≠ .arg) (n4 : o ≠ .ife) : evB call a (d + 1) (.mk o g as) s = evArms (evB call a d) as [] s (fin call o g) := by
  cases o <;> first | rfl | contradiction
theorem RAt.fresh {H0 H : Hp} {x : RA} {pv : V} {s0 s : RS} {en0 en : V} {F : Addr} {zs zs' : List V} (h0 : RAt H0 x pv s0 en0) (hF : H0 F = none) (h : RAt H x pv s en) (e : H F = some (.lst zs')) : RAt (upd H F (.lst zs)) x pv s en := by
  have k := Keep.updL (ys := zs) e
  obtain ⟨cs0, hc0, _⟩ := h0.ca
  obtain ⟨ds0, hd0, _⟩ := h0.to
  have ne : ∀ {a : Addr} {o : HO}, H0 a = some o → a ≠ F := fun z => ne_of_none z hF
  obtain ⟨h1, h2, h3, ⟨cs, h4, h5⟩, ⟨ds, h6, h7⟩, h8, h9, h10⟩ := h
  exact ⟨by rw [upd_ne (ne h0.r)]; exact h1, by rw [upd_ne (ne h0.sa)]; exact h2, by rw [upd_ne (ne h0.tr)]; exact h3, ⟨cs, by rw [upd_ne (ne hc0)]; exact h4, RAt.ents k h5⟩, ⟨ds, by rw [upd_ne (ne hd0)]; exact h6, RAt.ents k h7⟩, by rw [upd_ne (ne h0.ah)]; exact h8, by rw [upd_ne (ne h0.ba)]; exact h9, h10⟩
theorem ButR.updn {x : RA} {H H' : Hp} {F : Addr} {o : HO} (b : ButR x H H') (hF : H F = none) : ButR x H (upd H' F o) := fun a u n1 n2 n3 n4 n5 e => by
  rw [upd_ne (ne_of_none e hF)]
  exact b a u n1 n2 n3 n4 n5 e
def isRef : V → Bool
  | .ref _ => true
  | _ => false
theorem LV.ref {H : Hp} {v : V} {a : Wt} (h : LV H v a) : (∃ z, a = .num z ∧ v = .int z) ∨ ∃ f t, a = .way f ∧ v = .ref t ∧ H t = some (.tup [.str "way", .int (f : Int)]) := by
  cases a with
  | num z => exact .inl ⟨z, rfl, h⟩
  | way f =>
    obtain ⟨t, e, h⟩ := h
    exact .inr ⟨f, t, rfl, e, h⟩
theorem way_dp {K : PySem.W.Frag} {H : Hp} {f : Nat} {t : Addr} (h : H t = some (.tup [.str "way", .int (f : Int)])) : Dp K H (.ref t) (.tuple [.str "way", .int (f : Int)]) := .tup (SqT.of h) (.cons (.str _) (.cons (.int _) .nil))
theorem ways_dp {K : PySem.W.Frag} {H : Hp} {ls : List V} {acc : List Wt} (h : Paired (LV H) ls acc) (le : acc.length ≤ 2) : ∃ ds, DpAll K H (ls.filter isRef) ds ∧ SeqAt.shaped (.list ds) = true ∧ ((PyData.eqv (.list ds) (.list []) = true ∧ ∀ v ∈ acc, ∃ z, v = .num z) ∨ (PyData.eqv (.list ds) (.list []) = false ∧ ∃ f, .way f ∈ acc)) := by
  have sh : SeqAt.shaped (.list []) = true := intsShaped []
  have e0 : PyData.eqv (.list []) (.list []) = true := eqvNil []
  have so : PyData.strOk (Str.ofString "way") = true := by decide +kernel
  match ls, acc, h, le with
  | _, _, .nil, _ => exact ⟨[], .nil, sh, .inl ⟨e0, fun _ z => nomatch z⟩⟩
  | _, _, .cons h1 .nil, _ =>
    rcases h1.ref with ⟨z, rfl, rfl⟩ | ⟨f, t, rfl, rfl, ht⟩
    · exact ⟨[], .nil, sh, .inl ⟨e0, by simp⟩⟩
    · exact ⟨_, .cons (way_dp ht) .nil, by simp [SeqAt.shaped, PyData.depth, PyData.depthAll, PyData.canLay0, PyData.canLayAll0, so], .inr ⟨by simp [PyData.eqv, PyData.eqvAll], f, by simp⟩⟩
  | _, _, .cons h1 (.cons h2 .nil), _ =>
    rcases h1.ref with ⟨z, rfl, rfl⟩ | ⟨f, t, rfl, rfl, ht⟩ <;> rcases h2.ref with ⟨z', rfl, rfl⟩ | ⟨f', t', rfl, rfl, ht'⟩
    · exact ⟨[], .nil, sh, .inl ⟨e0, by simp⟩⟩
    · exact ⟨_, .cons (way_dp ht') .nil, by simp [SeqAt.shaped, PyData.depth, PyData.depthAll, PyData.canLay0, PyData.canLayAll0, so], .inr ⟨by simp [PyData.eqv, PyData.eqvAll], f', by simp⟩⟩
    · exact ⟨_, .cons (way_dp ht) .nil, by simp [SeqAt.shaped, PyData.depth, PyData.depthAll, PyData.canLay0, PyData.canLayAll0, so], .inr ⟨by simp [PyData.eqv, PyData.eqvAll], f, by simp⟩⟩
    · exact ⟨_, .cons (way_dp ht) (.cons (way_dp ht') .nil), by simp [SeqAt.shaped, PyData.depth, PyData.depthAll, PyData.canLay0, PyData.canLayAll0, so], .inr ⟨by simp [PyData.eqv, PyData.eqvAll], f, by simp⟩⟩
  | _, _, .cons _ (.cons _ (.cons _ _)), le =>
    simp only [List.length_cons] at le
    omega
theorem fin_bad {call : Nat → Wt → RS → Res} {o : Op} {g : Int} {acc : List Wt} {s : RS} {f : Nat} (h : Wt.way f ∈ acc) (l : acc.length ≤ 2) (ho : o = .say ∨ o = .plus ∨ o = .less ∨ o = .times) : fin call o g acc s = .bad .kind s := by
  match acc, l with
  | [], _ => cases h
  | [a], _ =>
    obtain rfl : a = .way f := (List.mem_singleton.mp h).symm
    rcases ho with rfl | rfl | rfl | rfl <;> rfl
  | [a, c], _ =>
    have h' : a = .way f ∨ c = .way f := by
      rcases List.mem_cons.mp h with e | e
      · exact .inl e.symm
      · exact .inr (List.mem_singleton.mp e).symm
    rcases h' with rfl | rfl
    · rcases ho with rfl | rfl | rfl | rfl <;> rfl
    · rcases ho with rfl | rfl | rfl | rfl <;> cases a <;> rfl
  | _ :: _ :: _ :: _, l =>
    simp only [List.length_cons] at l
    omega
theorem Res.bind_ok (r : Res) : r.bind .ok = r := by cases r <;> rfl
def ifK (ex ey : RS → Res) : Wt → RS → Res := fun v s => match v with
  | .way _ => .bad .kind s
  | .num z => if z ≠ 0 then ex s else ey s
theorem evB_if {call : Nat → Wt → RS → Res} {a : Wt} {d : Nat} {g : Int} {wt wx wy : W} {s : RS} : evB call a (d + 1) (.mk .ife g [wt, wx, wy]) s = (evB call a d wt s).bind (ifK (evB call a d wx) (evB call a d wy)) := rfl
theorem three_of {α : Type} {l : List α} (h : l.length = 3) : ∃ a b c, l = [a, b, c] := by
  match l, h with
  | [a, b, c], _ => exact ⟨a, b, c, rfl⟩
end Ov
/-! ### d.update(e), of dicts -/
namespace Ov
open PySem PySem.Spec PyProof.Rows L2
section
variable {X : Cx} {pins : List (Addr × Obj)} {σ : L2.St} {H : Hp} {s : Shared} {a b : Addr} {kvs more : List (Key × V)} {A : Around} {E : Value → Shared → Prop}
theorem d_update {Q : Value → Shared → Prop} (I : Inv X pins σ H s) (ea : H a = some (.dK kvs)) (eb : H b = some (.dK more)) (ne : a ≠ b) (hz : kvs.length + more.length ≤ 1000) (h : ∀ s', Inv X pins σ (upd H a (.dK (mergeK kvs more))) s' → Q .none s') :
    wpAny (model X.prog X.w) A (call (.builtin "dict.update") [.ref a, .ref b]) Q E s := by
  obtain ⟨z, hd, vs, rel, dd⟩ := dk_of I.hok ea
  obtain ⟨z', hd', ws, rel', dd'⟩ := dk_of I.hok eb
  have l1 := rel.length
  have l2 := rel'.length
  refine call_meetsIn PySem.F.slot_dict_update dd.typeIs PySem.F.entry_dict_update (PySem.F.args_dict_update_2 _ _) (meets_dict_update (mixKind X.prog X.w) a b ne hd') ⟨vs, ws, dd, dd', Nat.le_trans (by omega) (sml _ hz), fun h' d1 d2 hs => h _ ?_⟩
  have he : ∃ q, h'.get? a = some q := let ⟨q, _, _, hq, _⟩ := d1; ⟨q, hq⟩
  have lk := KV.merge rel' rel
  have ll : (mergeK kvs more).length ≤ sizeLine := by
    rw [lk.length]
    exact Nat.le_trans (merged_length_le vs ws) (Nat.le_trans (by omega) (sml _ hz))
  exact d_write (t' := s.toks) I (by rw [ea]; exact True.intro) hs he (dk_new ll hd lk d1)
end
theorem pe_fldK {X : Cx} {K : PySem.W.Frag} {e : Expr} {f : Str} {pos : Pos} {ta : TE} (hK : X.K = K) (h : PE X e ta) (hb : attributeBase e f X.env (eval e X.env) = eval e X.env) : PE X (.Attribute e f pos) (tFld K ta f) := by
  subst hK
  exact pe_fld h hb
def rDUpd : V → List V → Hp → VK → Prop := fun x vs H Q => ∃ (a b : Addr) (kvs more : List (Key × V)), x = .ref a ∧ vs = [.ref b] ∧ H a = some (.dK kvs) ∧ H b = some (.dK more) ∧ a ≠ b ∧ kvs.length + more.length ≤ 1000 ∧ Q .non (upd H a (.dK (mergeK kvs more)))
theorem mt_dupd {X : Cx} : MtR X "dict.update" rDUpd := by
  intro pins s σ H x vs v us Q I rx rv h
  obtain ⟨a, b, kvs, more, rfl, rfl, ea, eb, ne, hz, q⟩ := h
  obtain rfl : v = Value.ref a := rx
  cases rv with
  | cons r1 rest =>
    cases rest
    cases (show _ = Value.ref b from r1)
    exact d_update I ea eb ne hz fun s' I' => ⟨.non, _, I', rfl, q⟩
/-- a new record's places -/
structure RNew (H : Hp) (x : RA) : Prop where
  r : H x.r = none
  sa : H x.sa = none
  tr : H x.tr = none
  ca : H x.ca = none
  to : H x.to = none
theorem ButR.sameN {H0 H H' : Hp} {x : RA} (n : RNew H0 x) (s : Same H0 H) (b : ButR x H H') : Same H0 H' := fun a o e => b a o (ne_of_none e n.r) (ne_of_none e n.sa) (ne_of_none e n.tr) (ne_of_none e n.ca) (ne_of_none e n.to) (s a o e)
def rs0 : RS := ⟨[], 0, [0], [], []⟩
def spBegun : Sp := fun vs H Q _ => ∃ (pv : V) (ah ba : Addr), vs = [pv, .non, .ref ah, .ref ba] ∧ H ah = some (.lst []) ∧ H ba = some (.lst []) ∧ ah ≠ ba ∧ ∀ H' x, Same H H' → RNew H x → RAt H' x pv rs0 .non → x.ah = ah → x.ba = ba → Q (.ref x.r) H'
/-- how a run ends, told -/
def endD : Res → Str × V
  | .ok (.num z) _ => ("number", .int z)
  | .ok (.way f) _ => ("way", .int (f : Int))
  | .bad f _ => ("fault", .str f.name)
def Res.st : Res → RS
  | .ok _ s => s
  | .bad _ s => s
def spLawRun (pr : List (Int × W)) : Sp := fun vs H Q _ => ∃ (pv : V) (z : Int) (ah ba : Addr), vs = [pv, .int z, .non, .ref ah, .ref ba] ∧ PrAt H pv pr ∧ PrOk pr ∧ 0 ≤ z ∧ z < 1000 ∧ H ah = some (.lst []) ∧ H ba = some (.lst []) ∧ ah ≠ ba ∧
  ∀ H' x t, Same H H' → RAt H' x pv (evR pr z).st (.ref t) → H' t = some (.tup [.str (endD (evR pr z)).1, (endD (evR pr z)).2]) → Q (.ref x.r) H'
def rk1 (pv : V) (sa tr : Addr) : List (Key × V) := [(.inr "program", pv), (.inr "said", .ref sa), (.inr "calls", .int 0), (.inr "trace", .ref tr), (.inr "end", .non), (.inr "hall", .non)]
def rk2 (ah ba ca to : Addr) : List (Key × V) := [(.inr "ahead", .ref ah), (.inr "back", .ref ba), (.inr "looks", .int 0), (.inr "came", .ref ca), (.inr "told", .ref to)]
theorem mergeK_fresh : ∀ (more acc : List (Key × V)), ((acc ++ more).map (·.1)).Nodup → mergeK acc more = acc ++ more
  | [], acc, _ => (List.append_nil acc).symm
  | kv :: r, acc, h => by
    have e : putK acc kv.1 kv.2 = acc ++ [kv] := by
      unfold putK
      rw [if_neg]
      intro z
      obtain ⟨x, hx, hxe⟩ := List.any_eq_true.mp z
      rw [List.map_append, List.map_cons, List.nodup_append] at h
      exact h.2.2 x.1 (List.mem_map.mpr ⟨x, hx, rfl⟩) kv.1 List.mem_cons_self (of_decide_eq_true hxe)
    show mergeK (putK acc kv.1 kv.2) r = _
    rw [e, mergeK_fresh r (acc ++ [kv]) (by rw [List.append_assoc]; exact h), List.append_assoc]
    rfl
theorem rk_keys {pv : V} {sa tr ah ba ca to : Addr} : ((rk1 pv sa tr ++ rk2 ah ba ca to).map (·.1)).Nodup := by
  show ([.inr "program", .inr "said", .inr "calls", .inr "trace", .inr "end", .inr "hall", .inr "ahead", .inr "back", .inr "looks", .inr "came", .inr "told"] : List Key).Nodup
  decide +kernel
theorem rk1_nil {pv : V} {sa tr : Addr} : mergeK [] (rk1 pv sa tr) = rk1 pv sa tr := mergeK_fresh _ [] (by
  show ([.inr "program", .inr "said", .inr "calls", .inr "trace", .inr "end", .inr "hall"] : List Key).Nodup
  decide +kernel)
theorem rk2_nil {ah ba ca to : Addr} : mergeK [] (rk2 ah ba ca to) = rk2 ah ba ca to := mergeK_fresh _ [] (by
  show ([.inr "ahead", .inr "back", .inr "looks", .inr "came", .inr "told"] : List Key).Nodup
  decide +kernel)
theorem rk_all {pv : V} {sa tr ah ba ca to r : Addr} : mergeK (rk1 pv sa tr) (rk2 ah ba ca to) = rK ⟨r, sa, tr, ca, to, ah, ba⟩ pv 0 .non := mergeK_fresh _ _ rk_keys
theorem RAt.said0 {H : Hp} {x : RA} {pv : V} {s : RS} {en : V} (h : RAt H x pv s en) : H x.sa = some (.lst (s.said.map V.int)) := h.sa
def spNumber : Sp := fun vs H Q _ => ∃ h c, vs = [.ref h] ∧ Dr H h c ∧ ∀ (z : Int) H', 0 ≤ z → z < 1000 → But h c H H' → Dr H' h c → Q (.int z) H'
/-! ### the program's side of runs -/
theorem PairedMem.map {α β : Type} {R R' : α → β → Prop} : ∀ {l : List α} {m : List β}, Paired R l m → (∀ a b, a ∈ l → R a b → R' a b) → Paired R' l m
  | _, _, .nil, _ => .nil
  | _, _, .cons h r, f => .cons (f _ _ List.mem_cons_self h) (PairedMem.map r fun a b m => f a b (List.mem_cons_of_mem _ m))
theorem PairedMem.left {α β : Type} {R : α → β → Prop} : ∀ {l : List α} {m : List β}, Paired R l m → ∀ a ∈ l, ∃ b, R a b
  | _, _, .cons h r, a, ha => by
    rcases List.mem_cons.mp ha with rfl | ha
    · exact ⟨_, h⟩
    · exact PairedMem.left r a ha
/-- the rows of a body, at b -/
def BodyAt (H : Hp) (b : Addr) (f : Int × W) : Prop := ∃ ys, H b = some (.lst ys) ∧ Paired (RowAt H) ys (f.2.rows 0)
theorem BodyAt.same {H H' : Hp} {b : Addr} {f : Int × W} (s : Same H H') (h : BodyAt H b f) : BodyAt H' b f := by
  obtain ⟨ys, h1, h2⟩ := h
  exact ⟨ys, s _ _ h1, L2.Paired.mapP h2 fun _ _ z => z.keep (Keep.same s)⟩
def spNumbered : Sp := fun vs H Q _ => ∃ v pr, vs = [v] ∧ PrAt H v pr ∧ PrOk pr ∧ ∀ H' p bs, Same H H' → H p = none → H' p = some (.lst (bs.map V.ref)) → Paired (BodyAt H') bs pr → (∀ b ∈ bs, H b = none) → Q (.ref p) H'
/-- a worth as the program has it -/
def PVd : Wt → Str × V
  | .num z => ("number", .int z)
  | .way f => ("way", .int (f : Int))
def PV (H : Hp) (v : V) (a : Wt) : Prop := ∃ t, v = .ref t ∧ H t = some (.tup [.str (PVd a).1, (PVd a).2])
theorem PV.keep {H H' : Hp} (k : Keep H H') {v : V} {a : Wt} (h : PV H v a) : PV H' v a := by
  obtain ⟨t, e, h⟩ := h
  exact ⟨t, e, k _ _ h⟩
def spReckoned : Sp := fun vs H Q _ => ∃ (o : Op) (x y : Int), vs = [.str o.name, .int x, .int y] ∧ (o = .plus ∨ o = .less ∨ o = .times) ∧ 0 ≤ x ∧ x < 1000 ∧
  ∀ H' t z, Same H H' → H t = none → H' t = some (.tup [.str "number", .int z]) → (∀ call g s, fin call o g [.num x, .num y] s = .ok (.num z) s) → Q (.ref t) H'
end Ov
namespace PySem
namespace FltX
open PySem.W PySem.Calls PyProof.Rows PySem.HandSPX
/-! ### the text of __init__ -/
def iA (p1 p2 : Pos) : Arguments := { posonlyargs := [], args := [{ arg := "self", annotation := none, pos := p1 }, { arg := "word", annotation := none, pos := p2 }], vararg := none, kwonlyargs := [], kw_defaults := [], kwarg := none, defaults := [] }
def iB (q1 q2 q3 q4 : Pos) : List Stmt := [.Assign [.Attribute (.Name "self" q1) "word" q2] (.Name "word" q3) q4]
def iS : Scope := { kind := .function, names := [(PySem.Str.ofString "self", .local), (PySem.Str.ofString "word", .local)], isGenerator := false, isCoroutine := false, more := [] }
/-- what the written part says of Flt, at C, and of its __init__, at fI -/
structure FltTxt (K : Frag) (mg : Str → Option Value) (C fI : Addr) : Prop where
  gC : mg "Fault" = some (.ref C)
  cls : ∃ nm q N bs bm sn sub ab col dd k0 k1 k2 k3 k5, K.lookup C = some (excClassObj nm q C N bs bm true sn sub ab col dd k0 k1 k2 k3 k5 "Exception.__new__") ∧ bm = ESX.exTail
  sa : findIn K (.ref C) "__setattr__" = some (some (.builtin "object.__setattr__"))
  ga : findIn K (.ref C) "__getattribute__" = some (some (.builtin "BaseException.__getattribute__"))
  gg : findIn K (.ref C) "__getattr__" = some none
  noN : findIn K (.ref C) "word" = some none
  iC : findIn K (.ref C) "__init__" = some (some (.ref fI))
  tC : typeIn K (.ref fI) = some (.type "function")
  kC : keepIn K (.ref C) = true
  exC : subIn K (.ref C) (.type "BaseException") = some true
  tyC : typeIn K (.ref C) = some (.type "type")
  hdC : hasDictIn K C = true
  te : exmOne K (.ref C) (.ref C) = some true
  fn : ∃ (oc : Value) (od : Option Addr) (doc pm : Value) (an : Option Addr) (cdv ct : Value) (osl : Array (Option Value)) (p1 p2 q1 q2 q3 q4 : Pos),
    K.lookup fI = some ⟨oc, od, .func (fnOf "__init__" "Fault.__init__" (iA p1 p2) (iB q1 q2 q3 q4) iS .none .none doc pm an cdv ct), osl⟩ ∧ codeIn K cdv "Fault.__init__" = true
theorem one_size (v : Value) : [v].length ≤ sizeLine := by
  rw [sizeLine_eq]
  exact (by decide : 1 ≤ 16777216)
theorem kept_but {K : Frag} {h h' : Heap} {x : Addr} (X : K.In h) (hx : K.lookup x = none) (k : ∀ b o, b ≠ x → h.get? b = some o → h'.get? b = some o) : K.In h' := fun a o e =>
  k a o (fun z => by rw [z, hx] at e; cases e) (X a o e)
theorem ldC {M : Model} {s : Shared} {name : Str} {scope : Scope} {L a : Addr} {cd : Value} {m : Str → Option Value} {x : Str} {pos : Pos} {v : Value} {Q : Value → Shared → Prop} {A : Around} {E : Value → Shared → Prop} (hn : s.heap.Ns L m) (hv : m x = some v) (h : Q v s)
    (hk : scope.kind = .function := by rfl) (hl : (envOfC name scope L a cd).kindOf x = some .local := by rfl) (hd : (x == ("__debug__" : Str)) = false := by decide) :
    wpAny M A (eval (.Name x pos) (envOfC name scope L a cd)) Q E s := wpAny_Name (wpAny_loadName_local hk hl hn hv h) hd
/-- what __init__ leaves of a fresh exception at x -/
structure InitEnd (h h' : Heap) (x C dx t1 : Addr) (v : Value) : Prop where
  keep : ∀ b o, b ≠ x → h.get? b = some o → h'.get? b = some o
  obj : h'.get? x = some { cls := .ref C, dict := some dx, data := .fields #[.ref t1, .none, .none, .none, .bool false, .none] }
  dbig : h.objs.size ≤ dx
  dne : dx ≠ x
  ns : h'.Ns1 dx (fun y => if y = "word" then some v else none)
/-- a made Flt -/
structure OwnMade (h h' : Heap) (e C d : Addr) (v : Value) : Prop where
  keep : ∀ b o, h.get? b = some o → h'.get? b = some o
  new : h.objs.size ≤ e
  obj : ∃ oe vs, h'.get? e = some oe ∧ oe.cls = .ref C ∧ oe.dict = some d ∧ oe.data = .fields vs ∧ vs[1]? = some .none
  dbig : h.objs.size ≤ d
  dne : d ≠ e
  ns : h'.Ns1 d (fun y => if y = "word" then some v else none)
section
variable {prog : Program} {w : World} {A : Around} {E : Value → Shared → Prop} {R : Result → Shared → Prop} {s : Shared} {K : Frag} {mg : Str → Option Value} {C fI : Addr}
theorem low_init (T : FltTxt K mg C fI) {x t0 : Addr} {v : Value} (X : K.In s.heap) (hlim : s.heap.NoLimit) (hx : s.heap.get? x = some (excO C t0)) (hnx : K.lookup x = none) (hroom : A.depth < recursionLimit)
    (hq : ∀ h' tk dx, InitEnd s.heap h' x C dx t0 v → R (.ok (.ret .none)) { s with heap := h', toks := tk }) :
    codeAny (model prog w) A (.call (.ref fI) ⟨[.ref x, v], []⟩) R s := by
  obtain ⟨oc, od, doc, pm, an, cdv, ct, osl, p1, p2, q1, q2, q3, q4, ho, hcd⟩ := T.fn
  obtain ⟨nm, q, N, bs, bm, sn, sub, ab, col, dd, k0, k1, k2, k3, k5, hC, hbm⟩ := T.cls
  have hcl : clsIn K C = some { name := nm, bases := bs, mro := .ref C :: bm, ns := N, qualname := q, hasDict := true, slotNames := sn, subclasses := sub, abstract := ab, collection := col, hasDel := false } := by unfold clsIn; rw [hC] <;> rfl
  refine Att.call_fn (binds := [("self", .ref x), ("word", v)]) X hlim ho hcd hroom (BindsTo.of_eq (by first | rfl | with_unfolding_all rfl)) (by first | rfl | decide | with_unfolding_all rfl) (fun s₁ IC => ?_) rfl rfl rfl
  obtain ⟨h₁, tk₁, rfl⟩ := IC.toInCall.same
  have k : ∀ b o, s.heap.get? b = some o → h₁.get? b = some o := IC.toInCall.keep
  have hn := IC.toInCall.ns
  have hxL : s.heap.objs.size ≠ x := Nat.ne_of_gt (Heap.lt_size hx)
  have X₁ : K.In h₁ := X.keeps k
  have hx₁ := k _ _ hx
  -- self.by = by
  show wpAny _ _ (execs _ _) _ _ _
  refine wpAny_execs_cons (plainObj_wpAny_Assign_Attribute ?_)
  refine ldC (v := v) hn (by first | rfl | with_unfolding_all rfl | kernel_rfl) (ldC (v := .ref x) hn (by first | rfl | with_unfolding_all rfl | kernel_rfl) ?_)
  refine set_plain X₁ (ox := excO C t0) (od := none) ⟨hx₁, rfl, rfl, trivial⟩ T.sa ?_
  refine ESX.osa_new X₁ hx₁ hcl (by rw [← hbm]) rfl T.noN (fun h₃ tk₃ dx k₃ dn dne hx₃ hn₃ => ?_)
  show wpAny _ _ (execs _ _) _ _ _
  have z : s.heap.objs.size < h₁.objs.size := hn.lt
  exact wpAny_execs_nil (hq h₃ tk₃ dx ⟨fun b o hb e => k₃ b o hb (k b o e), hx₃, Nat.le_of_lt (Nat.lt_of_lt_of_le z dn), dne, hn₃⟩)
theorem low_made (T : FltTxt K mg C fI) {v : Value} (X : K.In s.heap) (hlim : s.heap.NoLimit) (hroom : A.depth + 1 < recursionLimit)
    (hq : ∀ h' tk e d, OwnMade s.heap h' e C d v → R (.ok (.ret (.ref e))) { s with heap := h', toks := tk }) :
    codeAny (model prog w) A (.call (.ref C) ⟨[v], []⟩) R s := by
  obtain ⟨nm, q, N, bs, bm, sn, sub, ab, col, dd, k0, k1, k2, k3, k5, hC, hbm⟩ := T.cls
  obtain ⟨hp, g, dr, tk, os⟩ := s
  have k : ∀ b o, hp.get? b = some o → ((hp.push (kdv_tup [v])).push (excO C hp.objs.size)).get? b = some o := fun b o e => Heap.get?_push_of_some _ (Heap.get?_push_of_some _ e)
  have hget : ((hp.push (kdv_tup [v])).push (excO C hp.objs.size)).get? (hp.objs.size + 1) = some (excO C hp.objs.size) := by heap_get
  have hnx : K.lookup (hp.objs.size + 1) = none := by
    cases e : K.lookup (hp.objs.size + 1) with
    | none => rfl
    | some o =>
      have z : hp.get? (hp.objs.size + 1) = some o := X _ _ e
      exact absurd (Nat.lt_of_succ_lt (Heap.lt_size z)) (Nat.lt_irrefl _)
  refine call_own F.excBase_Exception (fun X => by rw [hbm]) (X _ _ hC) (looks_findIn X T.iC) (fun self => bind_fn X self T.tC) (one_size v) ?_
  refine low_init (s := ⟨(hp.push (kdv_tup [v])).push (excO C hp.objs.size), g, dr, tk, os⟩) T (X.keeps k) (hlim.keeps k) hget hnx ?_ fun h' tk' dx ⟨k', hx, dn, dne, hns⟩ => ?_
  · show A.depth + 1 < recursionLimit
    exact hroom
  · have old : ∀ b o, hp.get? b = some o → h'.get? b = some o := fun b o e => k' b o (Nat.ne_of_lt (Nat.lt_succ_of_lt (Heap.lt_size e))) (k b o e)
    have z : hp.objs.size + 1 + 1 ≤ dx := by
      first
        | (simpa only [Heap.size_push] using dn)
        | exact dn
        | (have q := dn; rw [Heap.size_push, Heap.size_push] at q; exact q)
    exact ⟨rfl, hq h' tk' (hp.objs.size + 1) dx ⟨old, Nat.le_succ _, ⟨_, _, hx, rfl, rfl, rfl, rfl⟩, Nat.le_trans (Nat.le_trans (Nat.le_succ _) (Nat.le_succ _)) z, dne, hns⟩⟩
end
end FltX
end PySem
namespace L2
open PySem PySem.Spec PyProof.Rows
theorem relO_low {v : V} {v' : Value} (r : RelV v v') (f : Str) : RelO (List.lookup f [(("word" : Str), v)]) (if f = "word" then some v' else none) := by
  by_cases hw : f = "word"
  · subst hw
    rw [if_pos rfl]
    have q : List.lookup ("word" : Str) [(("word" : Str), v)] = some v := by simp [List.lookup]
    rw [q]
    exact r
  · rw [if_neg hw]
    have qw : (f == ("word" : Str)) = false := by simpa using hw
    have q2 : List.lookup f [(("word" : Str), v)] = none := by simp [List.lookup, qw]
    rw [q2]
    trivial
section
variable {X : Cx} {C fI : Addr}
/-- Flt(e) -/
def tMkFlt (C : Addr) (ta : TA) : St → Hp → XK → Prop := fun σ H Q => ta σ H fun vs H1 => ∃ v, vs = [v] ∧ ∀ d, H1 d = none → Q (.ref C) (some d) (upd H1 d (.xd [(("word" : Str), v)]))
theorem pmk_low {a : Expr} {ta : TA} {p pos : Pos} {k : Nat} (T : PySem.FltX.FltTxt X.K X.mg C fI) (hr : Room k X.A) (ha : PA X [a] ta) (hg : Gl X "Fault" := by rfl)
    (he : starEach (a :: []) X.env = (false, eval a X.env) :: starEach [] X.env := by rfl) (hpl : (backTo pos (starEach [] X.env)).any (·.1) = false := by rfl) :
    PMk X (.Call (.Name "Fault" p) [a] [] pos) (tMkFlt C ta) := by
  intro pins s σ H Q I h
  refine wpAny_Call_Name_kw (ld_glob I hg T.gC ?_)
  refine PySem.W.callWith_K (h₀ := X.base) I.ok.mod.kin T.kC (thn (ha.run pos pins s σ H _ I h) fun us s1 hh => ?_) he hpl
  obtain ⟨vs, H1, I1, r1, v, ev, q1⟩ := hh
  subst ev
  refine ⟨I1.kIn, ?_⟩
  cases r1 with
  | cons rv rn =>
    rename_i v' us'
    cases rn
    show wpAny _ _ (call (.ref C) [v']) _ _ _
    have hlim := I1.nolimit
    obtain ⟨hp, g, dr, tk, os⟩ := s1
    refine wpAny_call (PySem.FltX.low_made T I1.kIn hlim (by have := hr.dp; omega) fun h' tk' e d M => ?_)
    show MkP X pins σ Q (.ref e) ⟨h', g, dr, tk', os⟩
    obtain ⟨oe, fv, hoe, hc, hd, hdat, h1⟩ := M.obj
    have hns := M.ns
    obtain ⟨G', g1, g2⟩ := restrict h' fun b => decide (b ≠ e)
    have gk : ∀ b, b ≠ e → G'.get? b = h'.get? b := fun b hb => g1 b (decide_eq_true hb)
    have ge : G'.get? e = none := g2 e (by simp)
    have old : ∀ b o, hp.get? b = some o → G'.get? b = some o := fun b o q => (gk b (Nat.ne_of_lt (Nat.lt_of_lt_of_le (Heap.lt_size q) M.new))).trans (M.keep b o q)
    have ob : ObjOk X.prog X.w (upd H1 d (.xd [(("word" : Str), v)])) G' d (.xd [(("word" : Str), v)]) :=
      ⟨_, hns.at (fun o q => (gk d M.dne).trans q), fun f => relO_low rv f⟩
    have J : Inv X pins σ (upd H1 d (.xd [(("word" : Str), v)])) ⟨G', g, dr, tk', os⟩ := I1.laid (t' := tk') old M.dbig ob
    refine ⟨e, oe, fv, ⟨G', g, dr, tk', os⟩, _, .ref C, some d, rfl, J, fun b o q => ?_, ge, hoe, ⟨hc, hd⟩, hdat, h1, ?_, rfl, I1.bare, raises_own T.exC T.tyC, q1 d (I1.hok.fresh M.dbig)⟩
    · by_cases hb : b = e
      · have q' : G'.get? b = some o := q
        rw [hb, ge] at q'; cases q'
      · exact (gk b hb).symm.trans q
    · rw [upd_ne (Ne.symm M.dne)]
      exact I1.hok.fresh M.new
/-- raise Flt(e) -/
def tRaiseFlt (C : Addr) (W : WX) (ta : TA) : TS := fun _ σ H => tMkFlt C ta σ H fun cls d H' => W cls d σ H'
theorem ps_raiseFlt {a : Expr} {ta : TA} {W : WX} {p pos pos2 : Pos} {k : Nat} (hc : X.calm = true) (T : PySem.FltX.FltTxt X.K X.mg C fI) (hr : Room k X.A) (tk : Takes X W) (ha : PA X [a] ta) (hg : Gl X "Fault" := by rfl)
    (he : starEach (a :: []) X.env = (false, eval a X.env) :: starEach [] X.env := by rfl) (hpl : (backTo pos (starEach [] X.env)).any (·.1) = false := by rfl) :
    PS X (.Raise (some (.Call (.Name "Fault" p) [a] [] pos)) none pos2) (tRaiseFlt C W ta) := ps_raise hc tk (pmk_low T hr ha hg he hpl)
/-- low.by, low the exception that the suite holds (at a; its class cls, its dict d) -/
def tByFlt (C : Addr) (a : Addr) (cls : Value) (d : Option Addr) (te : TE) : TE := fun σ H Q => te σ H fun x H1 => x = .ref a ∧ cls = .ref C ∧ ∃ (dd : Addr) (v : V), d = some dd ∧ H1 dd = some (.xd [(("word" : Str), v)]) ∧ Q v H1
theorem pe_byFlt {a : Addr} {oe : Obj} {cls : Value} {d : Option Addr} {pn : List (Addr × Obj)} {e : Expr} {te : TE} {pos : Pos} (T : PySem.FltX.FltTxt X.K X.mg C fI) (hz : Zc cls d oe) (hf : ∃ vs, oe.data = .fields vs) (he : PE (X.suite a ((a, oe) :: pn)) e te)
    (hb : attributeBase e "word" X.env (eval e X.env) = eval e X.env := by rfl) :
    PE (X.suite a ((a, oe) :: pn)) (.Attribute e "word" pos) (tByFlt C a cls d te) := by
  refine ⟨fun pins s σ H Q I h => ?_⟩
  refine attr_of hb (thn (he.run pins s σ H _ I h) fun u s1 hh => ?_)
  obtain ⟨x, H1, I1, rx, ex, ec, dd, v, ed, ea, q⟩ := hh
  subst ex
  obtain rfl : u = Value.ref a := rx
  subst ec
  subst ed
  obtain ⟨ha, _⟩ := I1.pin (a, oe) (List.mem_append_left _ List.mem_cons_self)
  obtain ⟨vs, hd⟩ := hf
  have hx : ObjOk X.prog X.w H1 s1.heap dd (.xd [(("word" : Str), v)]) := I1.hok dd _ ea
  obtain ⟨mA, hns, hr⟩ := hx
  obtain ⟨od, ho, hl⟩ := lookIn_ns hns
  have l : List.lookup ("word" : Str) [(("word" : Str), v)] = some v := by simp [List.lookup]
  obtain ⟨u, hu, ru⟩ := RelO.some_of (v := v) (o := mA "word") (by rw [← l]; exact hr "word")
  have J : PySem.W.InstAt s1.heap a oe C (some od) := ⟨ha, hz.1, by unfold PySem.W.notCls; rw [hd] <;> rfl, by rw [hz.2]; exact ho⟩
  exact HandSPX.exc_get I1.kIn J T.ga T.gg T.exC (PySem.W.findObj_own T.hdC T.noN rfl (by rw [hl, hu])) (handed_of ru) ⟨v, H1, I1.tok _, ru, q⟩
end
end L2

namespace L2
open PySem PySem.Spec PyProof.Rows
/-- an if whose test is known -/
theorem if_true_of {c : Bool} {A B : Prop} (hc : c = true) (h : A) : if c = true then A else B := by
  rw [if_pos hc]
  exact h
theorem if_false_of {c : Bool} {A B : Prop} (hc : c = false) (h : B) : if c = true then A else B := by
  rw [hc, if_neg Bool.false_ne_true]
  exact h
end L2
/-! ### the own error Fault: its facts as one test of the written part -/
namespace Ov
open PySem PySem.Spec PyProof.Rows L2
def flt1 (K : PySem.W.Frag) (C : Addr) : Bool := match K.lookup C with
  | some ⟨.type "type", _, .cls cd, sl⟩ => (match cd.mro, sl.toList with
    | .ref C' :: bm, [_, _, _, _, some (.builtin n), _] => C' == C && n == "Exception.__new__" && !cd.hasDel && cd.hasDict && bm == PySem.ESX.exTail
    | _, _ => false)
  | _ => false
theorem flt1_ok {K : PySem.W.Frag} {C : Addr} (q : flt1 K C = true) : ∃ nm q N bs bm sn sub ab col dd k0 k1 k2 k3 k5, K.lookup C = some (excClassObj nm q C N bs bm true sn sub ab col dd k0 k1 k2 k3 k5 "Exception.__new__") ∧ bm = PySem.ESX.exTail := by
  unfold flt1 at q
  split at q
  · rename_i dd cd sl ho
    split at q
    · rename_i C' bm k0 k1 k2 k3 n k5 hm hs
      simp only [Bool.and_eq_true, beq_iff_eq, Bool.not_eq_true'] at q
      obtain ⟨⟨⟨⟨rfl, rfl⟩, hdel⟩, hdi⟩, hb⟩ := q
      obtain ⟨nm, bs, mro, ns, qn, hd, sn, sub, ab, col, del⟩ := cd
      dsimp only at hm hdel hdi
      subst hm hdel hdi
      have hsl : sl = #[k0, k1, k2, k3, some (.builtin "Exception.__new__"), k5] := by
        obtain ⟨l⟩ := sl
        simp only at hs
        rw [hs]
      subst hsl
      exact ⟨nm, qn, ns, bs, bm, sn, sub, ab, col, dd, k0, k1, k2, k3, k5, ho, hb⟩
    · cases q
  · cases q
/-- a def without defaults -/
def fnNone (K : PySem.W.Frag) (a : Addr) : Bool := match K.lookup a with
  | some ⟨_, _, .func fd, _⟩ => decide (fd.defaults = .none) && decide (fd.kwdefaults = .none)
  | _ => false
theorem fnNone_ok {K : PySem.W.Frag} {a : Addr} {oc : Value} {od : Option Addr} {fd : FuncData} {osl : Array (Option Value)} (lk : K.lookup a = some ⟨oc, od, .func fd, osl⟩) (q : fnNone K a = true) : fd.defaults = .none ∧ fd.kwdefaults = .none := by
  unfold fnNone at q
  rw [lk] at q
  simpa only [Bool.and_eq_true, decide_eq_true_eq] using q
def fltB (K : PySem.W.Frag) (C fI : Addr) : Bool := flt1 K C && He.eqO (PySem.W.findIn K (.ref C) "__setattr__") (some (some (.builtin "object.__setattr__"))) && He.eqO (PySem.W.findIn K (.ref C) "__getattribute__") (some (some (.builtin "BaseException.__getattribute__"))) &&
  He.eqO (PySem.W.findIn K (.ref C) "__getattr__") (some none) && He.eqO (PySem.W.findIn K (.ref C) "word") (some none) && He.eqO (PySem.W.findIn K (.ref C) "__init__") (some (some (.ref fI))) && decide (PySem.W.typeIn K (.ref fI) = some (.type "function")) &&
  PySem.W.keepIn K (.ref C) && decide (PySem.W.subIn K (.ref C) (.type "BaseException") = some true) && decide (PySem.W.typeIn K (.ref C) = some (.type "type")) && PySem.W.hasDictIn K C && decide (PySem.W.exmOne K (.ref C) (.ref C) = some true) && fnNone K fI
theorem flt_ok {K : PySem.W.Frag} {mg : Str → Option Value} {C fI : Addr} (g : mg "Fault" = some (.ref C)) (q : fltB K C fI = true)
    (fn : ∃ (oc : Value) (od : Option Addr) (doc pm : Value) (an : Option Addr) (cdv ct : Value) (osl : Array (Option Value)) (p1 p2 q1 q2 q3 q4 : Pos),
    K.lookup fI = some ⟨oc, od, .func (PySem.W.fnOf "__init__" "Fault.__init__" (PySem.FltX.iA p1 p2) (PySem.FltX.iB q1 q2 q3 q4) PySem.FltX.iS .none .none doc pm an cdv ct), osl⟩ ∧ PySem.W.codeIn K cdv "Fault.__init__" = true) : PySem.FltX.FltTxt K mg C fI := by
  unfold fltB at q
  simp only [Bool.and_eq_true, decide_eq_true_eq] at q
  obtain ⟨⟨⟨⟨⟨⟨⟨⟨⟨⟨⟨⟨a1, a2⟩, a3⟩, a4⟩, a5⟩, a6⟩, a7⟩, a8⟩, a9⟩, a10⟩, a11⟩, a12⟩, _⟩ := q
  exact { gC := g, cls := flt1_ok a1, sa := He.eqO_ok a2, ga := He.eqO_ok a3, gg := He.eqO_ok a4, noN := He.eqO_ok a5, iC := He.eqO_ok a6, tC := a7, kC := a8, exC := a9, tyC := a10, hdC := a11, te := a12, fn := fn }
theorem fltB_none {K : PySem.W.Frag} {C fI : Addr} (q : fltB K C fI = true) : fnNone K fI = true := by
  unfold fltB at q
  simp only [Bool.and_eq_true] at q
  exact q.2
/-- a fault's way out of a def -/
def Out (K : PySem.W.Frag) (H : Hp) (E : XK) (x : Str) : Prop := ∀ H' d, Same H H' → H d = none → H' d = some (.xd [("word", .str x)]) → E (.ref (He.ga K "Fault")) (some d) H'
def spNumIn (K : PySem.W.Frag) : Sp := fun vs H Q E => ∃ v a, vs = [v] ∧ PV H v a ∧ match a with
  | .num z => Q (.int z) H
  | .way _ => Out K H E "kind"
def spEndIn (K : PySem.W.Frag) : Sp := fun vs H Q E => ∃ v a, vs = [v] ∧ PV H v a ∧ match a with
  | .way f => Q (.int (f : Int)) H
  | .num _ => Out K H E "kind"
/-! ### the program's object of a run -/
structure PA where
  a : Addr
  dx : Addr
  bo : Addr
  sa : Addr
  ro : Addr
def runFs (x : PA) (told : V) (calls others : Int) : List (Str × V) := [("bodies", .ref x.bo), ("told", told), ("said", .ref x.sa), ("row", .ref x.ro), ("calls", .int calls), ("others", .int others)]
/-- the object, what was said, where the run went; the bodies' rows stand at bo -/
structure RunAt (K : PySem.W.Frag) (H : Hp) (x : PA) (pr : List (Int × W)) (told : V) (s : RS) (others : Int) : Prop where
  ob : H x.a = some (.ins (He.ga K "Run") x.dx (runFs x told (s.calls : Int) others))
  bo : ∃ bs : List Addr, H x.bo = some (.lst (bs.map V.ref)) ∧ Paired (BodyAt H) bs pr ∧ ∀ b ∈ bs, b ≠ x.sa ∧ b ≠ x.ro
  sa : H x.sa = some (.lst (s.said.map V.int))
  ro : H x.ro = some (.lst (nV s.row))
  nd : x.bo ≠ x.sa ∧ x.bo ≠ x.ro ∧ x.sa ≠ x.ro
def spRunInit (K : PySem.W.Frag) : Sp := fun vs H Q _ => ∃ (a dx : Addr) (v : V) (pr : List (Int × W)), vs = [.ref a, v] ∧ H a = some (.ins (He.ga K "Run") dx []) ∧ PrAt H v pr ∧ PrOk pr ∧
  ∀ H' x, (∀ b o, b ≠ a → H b = some o → H' b = some o) → x.a = a → x.dx = dx → H x.sa = none → H x.ro = none → RunAt K H' x pr .non ⟨[], 0, [], [], []⟩ 0 → Q .non H'
theorem putF_new {f : Str} {v : V} : ∀ {fs : List (Str × V)}, (fs.map (·.1)).contains f = false → putF f v fs = fs ++ [(f, v)]
  | [], _ => rfl
  | (g, x) :: r, h => by
    rw [List.map_cons, List.contains_cons, Bool.or_eq_false_iff] at h
    show (if g = f then (g, v) :: r else (g, x) :: putF f v r) = _
    have n : ¬ g = f := fun z => by
      have e := h.1
      rw [← z] at e
      exact absurd e (by simp)
    rw [if_neg n, putF_new h.2]
    rfl
theorem runFs_new {x : PA} : putF "others" (.int 0) (putF "calls" (.int 0) (putF "row" (.ref x.ro) (putF "said" (.ref x.sa) (putF "told" .non (putF "bodies" (.ref x.bo) []))))) = runFs x .non 0 0 := by
  rw [putF_new (f := "bodies") (fs := []) rfl]
  rw [putF_new (f := "told") (by show (["bodies"] : List Str).contains "told" = false; decide +kernel)]
  rw [putF_new (f := "said") (by show (["bodies", "told"] : List Str).contains "said" = false; decide +kernel)]
  rw [putF_new (f := "row") (by show (["bodies", "told", "said"] : List Str).contains "row" = false; decide +kernel)]
  rw [putF_new (f := "calls") (by show (["bodies", "told", "said", "row"] : List Str).contains "calls" = false; decide +kernel)]
  rw [putF_new (f := "others") (by show (["bodies", "told", "said", "row", "calls"] : List Str).contains "others" = false; decide +kernel)]
  rfl
/-- all but the run's object and its lists stays -/
def ButP (x : PA) (H H' : Hp) : Prop := ∀ b o, b ≠ x.a → b ≠ x.sa → b ≠ x.ro → H b = some o → H' b = some o
def spSay (K : PySem.W.Frag) : Sp := fun vs H Q E => ∃ (x : PA) (pr : List (Int × W)) (told v : V) (s : RS) (oth : Int) (a : Wt), vs = [.ref x.a, v] ∧ RunAt K H x pr told s oth ∧ PV H v a ∧ s.said.length ≤ most ∧ match a with
  | .num z => ∀ H', ButP x H H' → RunAt K H' x pr told { s with said := s.said ++ [z] } oth → Q v H'
  | .way _ => Out K H E "kind"
theorem BodyAt.updL {H : Hp} {p b : Addr} {f : Int × W} {xs ys : List V} (e : H p = some (.lst xs)) (n : b ≠ p) (h : BodyAt H b f) : BodyAt (upd H p (.lst ys)) b f := by
  obtain ⟨zs, h1, h2⟩ := h
  exact ⟨zs, by rw [upd_ne n]; exact h1, L2.Paired.mapP h2 fun _ _ z => z.keep (Keep.updL e)⟩
theorem RunAt.updS {K : PySem.W.Frag} {H : Hp} {x : PA} {pr : List (Int × W)} {told : V} {s : RS} {oth z : Int} (h : RunAt K H x pr told s oth) : RunAt K (upd H x.sa (.lst (s.said.map V.int ++ [.int z]))) x pr told { s with said := s.said ++ [z] } oth := by
  obtain ⟨h1, ⟨bs, h2, h3, h4⟩, h5, h6, n1, n2, n3⟩ := h
  exact ⟨by rw [upd_ne (ne_of h1 h5 (by intro z; cases z))]; exact h1, ⟨bs, by rw [upd_ne n1]; exact h2, PairedMem.map h3 fun b f hb z => z.updL h5 (h4 b hb).1, h4⟩, by rw [upd_same, List.map_append]; rfl, by rw [upd_ne n3.symm]; exact h6, n1, n2, n3⟩
theorem RunAt.updR {K : PySem.W.Frag} {H : Hp} {x : PA} {pr : List (Int × W)} {told : V} {s : RS} {oth : Int} {f : Nat} (h : RunAt K H x pr told s oth) : RunAt K (upd H x.ro (.lst (nV s.row ++ [.int (f : Int)]))) x pr told { s with row := s.row ++ [f] } oth := by
  obtain ⟨h1, ⟨bs, h2, h3, h4⟩, h5, h6, n1, n2, n3⟩ := h
  exact ⟨by rw [upd_ne (ne_of h1 h6 (by intro z; cases z))]; exact h1, ⟨bs, by rw [upd_ne n2]; exact h2, PairedMem.map h3 fun b f hb z => z.updL h6 (h4 b hb).2, h4⟩, by rw [upd_ne n3]; exact h5, by rw [upd_same, nV_app], n1, n2, n3⟩
end Ov
namespace Ov
open PySem PySem.Spec PyProof.Rows L2
/-! ### kinds of errors: what isinstance asks, as a check of K -/
def excKB (K : PySem.W.Frag) (D : Addr) (cs : List (Value × Bool)) : Bool :=
  He.eqO (PySem.W.findIn K (.ref D) "__getattribute__") (some (some (.builtin "BaseException.__getattribute__"))) && He.eqO (PySem.W.findIn K (.ref D) "__getattr__") (some none) &&
  decide (PySem.W.subIn K (.ref D) (.type "BaseException") = some true) && PySem.W.hasDictIn K D && He.eqO (PySem.W.findIn K (.ref D) "__class__") (some (some (.builtin "object.__class__"))) &&
  He.eqO (PySem.W.specialIn K (.builtin "object.__class__") "__get__") (some (some (.builtin "getset_descriptor.__get__"))) && decide (PySem.W.takesIn K (.builtin "object.__class__") = some true) &&
  decide (PySem.W.mroIn K D (.type "object") = some true) && cs.all fun p => decide (PySem.W.kitOne K (.ref D) p.1 = some p.2)
theorem excKB_ok {K : PySem.W.Frag} {D : Addr} {cs : List (Value × Bool)} (h : excKB K D cs = true) : ExcC K D ∧ ∀ p ∈ cs, PySem.W.kitOne K (.ref D) p.1 = some p.2 := by
  unfold excKB at h
  simp only [Bool.and_eq_true, decide_eq_true_eq] at h
  obtain ⟨⟨⟨⟨⟨⟨⟨⟨a1, a2⟩, a3⟩, a4⟩, a5⟩, a6⟩, a7⟩, a8⟩, a9⟩ := h
  exact ⟨⟨He.eqO_ok a1, He.eqO_ok a2, a3, a4, He.eqO_ok a5, He.eqO_ok a6, a7, a8⟩, fun p hp => of_decide_eq_true (List.all_eq_true.mp a9 p hp)⟩
/-- the rule of a def whose code object is told -/
theorem funD_okC {P : Program} {w : World} {K : PySem.W.Frag} {mg : Str → Option Value} {base : Heap} {x qual : Str} {params : Arguments} {body : List Stmt} {scope : Scope} {dvs : List V} {kws : List (Str × V)} {f : Addr} {fd : FuncData} {CX : CXT} {N ps : List Str} {k : Nat} {sp : Sp} (F : FunD K x qual params body scope dvs kws f fd) (S : FnScope N ps scope) (len : ∀ vs H Q E, sp vs H Q E → vs.length = ps.length)
    (hbody : ∀ (cdv : Value) (A : Around) (outer : List Env) (s : Shared) (H : Hp) (vs : List V) (Q : VK) (E : XK), fd.code = cdv → Room k (A.deeper (envOfC qual scope s.heap.objs.size f cdv)) → sp vs H Q E →
      ∃ t, PSs (cxOf CX P w K mg base N qual scope f cdv A outer s H E) body t ∧ t { nx := fun _ H' => Q .non H', rt := Q } (L2.start N vs) H) : FnOk P w K mg base CX (k + 1) f fd ps sp := by
  obtain ⟨oc, od, dV, kV, doc, pm, an, cdv, ct, osl, rfl, lk, hcd, _, _⟩ := F.ex
  exact fn_of lk hcd S len fun A outer s H vs Q E hr hsp => hbody cdv A outer s H vs Q E rfl hr hsp
/-- the code object of a def whose table is told -/
theorem code_of {K : PySem.W.Frag} {x qual : Str} {params : Arguments} {body : List Stmt} {scope : Scope} {dvs : List V} {kws : List (Str × V)} {fd : FuncData} {p : He.Defn} (F : FunD K x qual params body scope dvs kws (He.fAd K p) fd) : fd.code = .ref (He.cT K p).1 := by
  obtain ⟨oc, od, dV, kV, doc, pm, an, cdv, ct, osl, rfl, lk, hcd, _, _⟩ := F.ex
  show cdv = .ref (He.codeOf K p)
  unfold He.codeOf
  rw [lk]
  cases cdv with
  | ref c => rfl
  | _ => exact absurd hcd (by simp [PySem.W.codeIn])
end Ov
/-! ### methods that say super(): their defs, and the call -/
namespace Ov
open PySem PySem.Spec PyProof.Rows L2
/-- the words of a def that captures its class -/
abbrev supN (name qual : Str) (params : Arguments) (body : List Stmt) (scope : Scope) (cc cda : Addr) : NdefX.NF := ⟨name, qual, params, body, scope, [("__class__", cc)], cda⟩
/-- the def at f captures the class at D by the cell cc; its code object is at cda, of the main file -/
structure SupD (P : Program) (K : PySem.W.Frag) (name qual : Str) (params : Arguments) (body : List Stmt) (scope : Scope) (f cc cda D : Addr) (fd : FuncData) : Prop where
  ex : ∃ oc od doc pm an ct osl, fd = PySem.W.fnX name qual params body scope [("__class__", cc)] .none .none doc pm an (.ref cda) ct ∧ K.lookup f = some ⟨oc, od, .func fd, osl⟩
  code : PySem.W.codeIn K (.ref cda) qual = true
  file : ∃ ccl cdd vs ccs file tf, K.lookup cda = some ⟨ccl, cdd, .fields vs, ccs⟩ ∧ vs[2]? = some (.str file tf) ∧ ((P.main.file : Str) == file) = true
  cell : ∃ cl cld csl, K.lookup cc = some ⟨cl, cld, .cell (some (.ref D)), csl⟩
  top : (P.main.scope.names.lookup ("super" : Str)).isSome = false
/-- a suite that is run as (a part of) the body bd of X's def: the code that runs is known -/
structure QS (X : Cx) (bd : List Stmt) (st : Stmt) (t : TS) : Prop where
  run : ∀ (pins : List (Addr × Obj)) (s : Shared) (σ : L2.St) (H : Hp) (D : Ends), Inv X pins σ H s → t D σ H → PySem.wpAt (model X.prog X.w) X.A (.func bd X.env) (exec st X.env) (SP X pins D) X.xe s
structure QSs (X : Cx) (bd : List Stmt) (sts : List Stmt) (t : TS) : Prop where
  run : ∀ (pins : List (Addr × Obj)) (s : Shared) (σ : L2.St) (H : Hp) (D : Ends), Inv X pins σ H s → t D σ H → PySem.wpAt (model X.prog X.w) X.A (.func bd X.env) (execs sts X.env) (SP X pins D) X.xe s
structure QE (X : Cx) (bd : List Stmt) (e : Expr) (t : TE) : Prop where
  run : ∀ (pins : List (Addr × Obj)) (s : Shared) (σ : L2.St) (H : Hp) (Q : VK), Inv X pins σ H s → t σ H Q → PySem.wpAt (model X.prog X.w) X.A (.func bd X.env) (eval e X.env) (EP X pins σ Q) X.xe s
section
variable {X : Cx} {bd : List Stmt} {st : Stmt} {sts : List Stmt} {e : Expr} {t u : TS} {te : TE} {pos : Pos}
theorem QS.of (h : PS X st t) : QS X bd st t := ⟨fun pins s σ H D I q => PySem.wpAt_of_wpAny (h.run pins s σ H D I q)⟩
theorem QSs.of (h : PSs X sts t) : QSs X bd sts t := ⟨fun pins s σ H D I q => PySem.wpAt_of_wpAny (h.run pins s σ H D I q)⟩
theorem QSs.cons (h1 : QS X bd st t) (h2 : QSs X bd sts u) : QSs X bd (st :: sts) (tSeq t u) := by
  refine ⟨fun pins s σ H D I h => ?_⟩
  refine ks_wpAt_execs_cons (PySem.wpAt_mono (h1.run pins s σ H { D with nx := u D } I h) (fun f s1 q => ?_) fun _ _ z => z)
  cases f with
  | next =>
    obtain ⟨σ', H', I', q⟩ := q
    exact h2.run pins s1 σ' H' D I' q
  | ret v => exact q
  | brk => exact q
  | cont => exact q
theorem QSs.one (h1 : QS X bd st t) : QSs X bd [st] t := by
  refine ⟨fun pins s σ H D I h => ?_⟩
  refine ks_wpAt_execs_cons (PySem.wpAt_mono (h1.run pins s σ H D I h) (fun f s1 q => ?_) fun _ _ z => z)
  cases f with
  | next => exact PySem.wpAt_of_wpAny (wpAny_execs_nil q)
  | ret v => exact q
  | brk => exact q
  | cont => exact q
theorem QS.expr (he : QE X bd e te) (hs : swapsWith e none pos.line X.env = pure false := by rfl) : QS X bd (.Expr e pos) (tDrop te) := by
  refine ⟨fun pins s σ H D I h => ?_⟩
  exact ks_wpAt_Expr_any (PySem.wpAt_mono (he.run pins s σ H _ I h) (fun v s1 ⟨x, H1, I1, r1, q1⟩ => ⟨σ, H1, I1, q1⟩) fun _ _ z => z) I.quiet hs
end
/-- the rule: a def that captures its class, by its body -/
theorem fn_ofS {CX : CXT} {P : Program} {w : World} {K : PySem.W.Frag} {mg : Str → Option Value} {base : Heap} {k : Nat} {f cc cda D : Addr} {name qual : Str} {params : Arguments} {body : List Stmt} {scope : Scope} {fd : FuncData} {N ps : List Str} {sp : Sp}
    (S : SupD P K name qual params body scope f cc cda D fd) (SC : NdefX.NScope N ps ["__class__"] scope) (len : ∀ vs H Q E, sp vs H Q E → vs.length = ps.length)
    (hbody : ∀ (A : Around) (outer : List Env) (s : Shared) (H : Hp) (vs : List V) (Q : VK) (E : XK), Room k (A.deeper (NdefX.envF (supN name qual params body scope cc cda) f s.heap.objs.size)) → sp vs H Q E →
      ∃ t, QSs (NdefX.ncx CX P w K mg base N (supN name qual params body scope cc cda) f A outer s H E) body body t ∧ t { nx := fun _ H' => Q .non H', rt := Q } (NdefX.startF N vs [none]) H) :
    FnOk P w K mg base CX (k + 1) f fd ps sp := by
  refine ⟨len, fun A outer s H args us vs Q E hr e0 hb r hsp => ?_⟩
  have hl := len _ _ _ _ hsp
  have bk : ∀ b o, base.get? b = some o → s.heap.get? b = some o := fun b o e => (e0.bs b o e).1
  have KX : K.In s.heap := e0.mod.kin.keeps bk
  have lim : s.heap.NoLimit := e0.mod.nolimit.keeps bk
  obtain ⟨oc, od, doc, pm, an, ct, osl, rfl, lk⟩ := S.ex
  obtain ⟨cl, cld, csl, lc⟩ := S.cell
  have C : NdefX.CellsAt (supN name qual params body scope cc cda).cl ["__class__"] [none] s.heap H := by
    refine ⟨rfl, fun y c e => ?_, fun x y c ex ey => ?_, fun i y e => ?_⟩
    · have e : List.lookup y [(("__class__" : Str), cc)] = some c := e
      rw [List.lookup_cons] at e
      split at e
      · cases e
        exact ⟨(e0.bs _ _ (e0.mod.kin _ _ lc)).2, _, _, KX _ _ lc, rfl⟩
      · cases e
    · have ex : List.lookup x [(("__class__" : Str), cc)] = some c := ex
      have ey : List.lookup y [(("__class__" : Str), cc)] = some c := ey
      rw [List.lookup_cons] at ex ey
      split at ex
      · rename_i hx
        split at ey
        · rename_i hy
          exact (beq_iff_eq.mp hx).trans (beq_iff_eq.mp hy).symm
        · cases ey
      · cases ex
    · match i, e with
      | 0, e =>
        cases e
        exact ⟨cc, rfl, fun v z => by cases z⟩
      | i + 1, e => exact absurd e (by simp)
  refine codeAny_call_function hr.depth (KX _ _ lk) rfl SC.co SC.gen rfl (PySem.W.codeRec_of KX S.code) (hb _ _ _ _ ?_)
  refine wpAny_newFunctionEnv SC.nocell (fun ⟨n, _⟩ hy => SC.par n (List.of_mem_zip hy).1) (fun h₁ hns hsb => ⟨lim.fresh _ hsb, ?_⟩) SC.kind
  show codeAny _ _ (.func body (NdefX.envF (supN name qual params body scope cc cda) f s.heap.objs.size)) _ _
  refine ks_codeAny_funcAt ?_
  have kp : ∀ b o, s.heap.get? b = some o → h₁.get? b = some o := fun b o e => hsb.extBut b o (Nat.ne_of_lt (Heap.lt_size e)) (Heap.get?_push_of_some _ e)
  obtain ⟨t, ht, hq⟩ := hbody A outer s H vs Q E (hr.deeper _) hsp
  have I : Inv (NdefX.ncx CX P w K mg base N (supN name qual params body scope cc cda) f A outer s H E) [] (NdefX.startF N vs [none]) H { s with heap := h₁, toks := s.toks + (ps.zip us).length } := NdefX.inv_startN SC hr.hd e0 hl r C hns kp
  refine PySem.wpAt_mono (ht.run [] _ (NdefX.startF N vs [none]) H _ I hq) (fun fl s' hs => ?_) fun e s' hs => hs
  have fin : ∀ {σ' : L2.St} {H' : Hp} {v : V} {u : Value}, Inv (NdefX.ncx CX P w K mg base N (supN name qual params body scope cc cda) f A outer s H E) [] σ' H' s' → L2.RelV v u → Q v H' → CE outer P w H s Q u s' :=
    fun {σ' H' v u} J rv q => ⟨v, H', J.os, J.bare, J.base, J.hok, rv, q⟩
  cases fl with
  | ret u =>
    obtain ⟨v, σ', H', J, rv, q⟩ := hs
    exact fin J rv q
  | next =>
    obtain ⟨σ', H', J, q⟩ := hs
    exact fin (v := V.non) (u := Value.none) J rfl q
  | brk =>
    obtain ⟨_, _, _, q⟩ := hs
    exact False.elim q
  | cont =>
    obtain ⟨_, _, _, q⟩ := hs
    exact False.elim q
/-- what super() finds: the method m behind the class D, for an instance of C -/
structure SupM (K : PySem.W.Frag) (C D : Addr) (m : Str) (g : Addr) : Prop where
  cls : ∃ cd, PySem.W.clsIn K C = some cd
  clsD : ∃ cd, PySem.W.clsIn K D = some cd
  sub : PySem.W.mroIn K C (.ref D) = some true
  any : PySem.W.nsIn K cStatics "thirdparty.any" = some none
  at_ : PySem.W.ks_superIn K C D m = some (some (.ref g))
  ty : PySem.W.typeIn K (.ref g) = some (.type "function")
  fi : PySem.W.fnIn K g = true
/-- super().m(..) in a method of the class at D; the slot i holds self, an instance of the class at C -/
def tSup (i : Nat) (C : Addr) (sp : Sp) (E : XK) (t : TA) : TE := fun σ H Q => ∃ a dx fs, σ[i]? = some (some (.ref a)) ∧ H a = some (.ins C dx fs) ∧ t σ H fun vs H2 => sp (.ref a :: vs) H2 Q E
section
variable {X : Cx} {CX : CXT} {k : Nat} {C D g f cc cda : Addr} {name qual m x : Str} {params : Arguments} {body : List Stmt} {scope : Scope} {fd : FuncData} {sp : Sp} {E : XK} {e : Expr} {es : List Expr} {p0 p1 pos apos : Pos} {t : TA} {i : Nat} {ar : Arg}
theorem cls_at {K : PySem.W.Frag} {h : Heap} {A : Addr} {cd : ClassData} (X : K.In h) (hc : PySem.W.clsIn K A = some cd) : ∃ o, h.get? A = some o ∧ o.data = .cls cd := by
  unfold PySem.W.clsIn at hc
  split at hc
  · rename_i c d cd' sl ho
    cases hc
    exact ⟨_, X _ _ ho, rfl⟩
  · cases hc
theorem qe_super {pl : Sem Bool} (S : SupD X.prog X.K name qual params body scope f cc cda D fd) (M : SupM X.K C D m g) (hsc : X.env.scope = scope) (hfn : X.env.func = some f) (hco : X.env.code = .ref cda) (hcl : X.env.cells.lookup ("__class__" : Str) = some cc) (har : (params.posonlyargs ++ params.args).head? = some ar) (hi : X.N[i]? = some ar.arg)
    (ha0 : scope.names.lookup ar.arg = some .local) (hks : scope.names.lookup ("super" : Str) = some .globalImplicit) (hkc : scope.names.lookup ("__class__" : Str) = some .free) (hsup : X.mg "super" = none)
    (hmc : (m == ("__class__" : Str)) = false) (F : FnR X.prog X.w X.K X.mg X.base CX k g sp) (hr : Room k X.A) (hx : Passes CX X E) (ha : L2.PA X (e :: es) t)
    (hst : starEach (e :: es) X.env = (false, eval e X.env) :: starEach es X.env := by rfl) (hpl : (backTo pos (starEach es X.env)).any (·.1) = false := by rfl)
    (ht : eval (.Call (.Attribute (.Call (.Name "super" p0) [] [] p1) m apos) (e :: es) [] pos) X.env = (do
      let ov ← attributeBase (.Call (.Name "super" p0) [] [] p1) m X.env (eval (.Call (.Name "super" p0) [] [] p1) X.env)
      standAt apos.atName
      let (f, first) ← holding [ov] (getMethod ov m pl)
      callWith pos f first (backTo pos (starEach (e :: es) X.env)) []) := by rfl) :
    QE X body (.Call (.Attribute (.Call (.Name "super" p0) [] [] p1) m apos) (e :: es) [] pos) (tSup i C sp E t) := by
  refine ⟨fun pins s σ H Q I h => ?_⟩
  obtain ⟨a, dx, fs, ea, hins, h⟩ := h
  obtain ⟨oc, od, doc, pm, an, ct, osl, rfl, lk⟩ := S.ex
  obtain ⟨ccl, cdd, vs, ccs, file, tf, lcode, hvs, hfile⟩ := S.file
  obtain ⟨cl, cld, csl, lc⟩ := S.cell
  obtain ⟨cdC, hC⟩ := M.cls
  obtain ⟨cdD, hD⟩ := M.clsD
  obtain ⟨mA, O, rr, _, _, _⟩ := ins_get I.hok hins
  obtain ⟨oD, J, hlook⟩ := O.look
  obtain ⟨ob, hb1, hb2⟩ := cls_at I.kIn hD
  have kk : ∀ y, X.env.kindOf y = scope.names.lookup y := fun y => by
    show X.env.scope.names.lookup y = _
    rw [hsc]
  have hkind : X.env.scope.kind = .function := I.ok.kind
  refine ks_wpAt_MethodCall (pl := pl) ?_ ht
  refine ks_wpAt_super_base (by rw [kk]; exact hks) (by rw [kk]; exact hkc) hmc hfn (I.kIn _ _ lk) rfl har hco (I.kIn _ _ lcode) rfl hvs hfile S.top ?_
  obtain ⟨mb, g1, g2⟩ := I.mod.blt
  refine PySem.W.ks_loadName_global hkind (by rw [kk]; exact hks) (Calls.loadGlobal_builtin (by rw [I.ok.glob]; exact I.mod.glob.keeps I.bk) hsup (by rw [I.ok.blt]; exact g1.keeps I.bk) ((g2 _ (by decide)).trans (show bootBuiltins "super" = some (.type "super") from by decide +kernel)) ⟨rfl, ?_⟩)
  refine wpAny_loadName_free hkind (by rw [kk]; exact hkc) hcl ⟨_, I.kIn _ _ lc, rfl⟩ ?_
  obtain ⟨m0, hn, hl⟩ := I.loc
  obtain ⟨u, ru, lu⟩ := hl i ar.arg (.ref a) hi ea (by rw [hsc]; exact .inl ha0)
  obtain rfl : u = Value.ref a := ru
  have hself : m0 ar.arg = some (.ref a) := by
    rcases lu with ⟨_, z⟩ | ⟨z, _⟩
    · exact z
    · have z : X.env.kindOf ar.arg = some .cell ∨ X.env.kindOf ar.arg = some .free := z
      rw [kk, ha0] at z
      rcases z with z | z <;> cases z
  refine wpAny_loadName_local hkind (by rw [kk]; exact ha0) hn hself ?_
  refine ks_wpAny_isType_cls hb1 hb2 ⟨rfl, ?_⟩
  refine ks_wpAny_call_super hb1 hb2 J.at_ J.cls (fun c z => ?_) (PySem.W.looks_mroIn I.kIn M.sub) (fun h1 e1 k1 => ?_)
  · have := J.no
    unfold PySem.W.notCls at this
    rw [z] at this
    exact Bool.noConfusion this
  have I1 : Inv X pins σ H { s with heap := h1, toks := s.toks } := I.kept (t' := s.toks) k1
  obtain ⟨ofn, hof, hofc⟩ : ∃ of, h1.get? g = some of ∧ of.cls = .type "function" := by
    have ht' : (X.K.lookup g).map (·.cls) = some (.type "function") := M.ty
    cases z : X.K.lookup g with
    | none => rw [z] at ht'; cases ht'
    | some of => rw [z] at ht'; exact ⟨of, I1.kIn _ _ z, Option.some.inj ht'⟩
  have hm := M.at_
  unfold PySem.W.ks_superIn at hm
  rw [hC] at hm
  refine ks_wpAny_getMethod_super (K := X.K) (of := ofn) (l₀ := cdC.mro) e1 (PySem.W.looks_opaque I1.kIn M.any) (fun A Q E s k q => wpAny_bind ((PySem.W.looks_clsIn I1.kIn hC) A _ E s k (wpAny_pure q))) rfl I1.kIn hm hof hofc (PySem.W.ks_ne I.kIn J hC) hmc ?_
  have I2 : Inv X ((h1.objs.size, PySem.W.methodObj (.ref g) (.ref a)) :: pins) σ H { s with heap := h1.push (PySem.W.methodObj (.ref g) (.ref a)), toks := s.toks + 1 } := ClX.met_new I1
  refine ClX.callwith_cm I2 (ClX.base_none I1 (Nat.le_refl _)) M.fi (thn (ha.run pos _ _ σ H _ I2 h) fun us s3 ⟨vs, H2, I3, rv, q2⟩ => ⟨⟨ClX.pin_at I3, I3.kIn⟩, ?_⟩) hst hpl
  exact ClX.run_cm F hr hx I3 rv q2
end
end Ov
/-! ### C.m(x, ..) of a class by its name; try around a body that says super() -/
namespace Ov
open PySem PySem.Spec PyProof.Rows L2
/-- C.m(x, ..): the def itself, nothing bound -/
def tUnb (C : Addr) (sp : Sp) (E : XK) (ta : TE) (t : TA) : TE := fun σ H Q => ta σ H fun x H1 => x = .ref C ∧ t σ H1 fun vs H2 => sp vs H2 Q E
section
variable {X : Cx} {CX : CXT} {k : Nat} {C g : Addr} {mc : Value} {sp : Sp} {E : XK} {o e : Expr} {es : List Expr} {m : Str} {pos apos : Pos} {ta : TE} {t : TA} {pl : Sem Bool}
theorem pe_unb (he : PE X o ta) (r : ClX.CRead X.K C mc) (c : ClX.CVal X.K C mc m (.ref g) (.ref g)) (hk : PySem.W.keepIn X.K (.ref g) = true) (F : FnR X.prog X.w X.K X.mg X.base CX k g sp) (hr : Room k X.A) (hx : Passes CX X E) (ha : L2.PA X (e :: es) t)
    (hst : starEach (e :: es) X.env = (false, eval e X.env) :: starEach es X.env := by rfl) (hpl : (backTo pos (starEach es X.env)).any (·.1) = false := by rfl)
    (ht : eval (.Call (.Attribute o m apos) (e :: es) [] pos) X.env = (do
      let ov ← eval o X.env
      standAt apos.atName
      let (f, first) ← holding [ov] (getMethod ov m pl)
      callWith pos f first (backTo pos (starEach (e :: es) X.env)) (backToKw pos (keywordEach [] X.env))) := by rfl) :
    PE X (.Call (.Attribute o m apos) (e :: es) [] pos) (tUnb C sp E ta t) := by
  constructor
  intro pins s σ H Q I h
  refine PySem.W.methodCall_KW (pl := pl) (thn (he.run pins s σ H _ I h) fun u s1 y => ?_) ht
  obtain ⟨x, H1, I1, rx, ex, q⟩ := y
  subst ex
  cases rx
  refine PySem.W.method_cls I1.kIn r.ga (ClX.getcval_ok I1 r c fun s2 I2 => ?_)
  refine PySem.W.callWith_K (first := []) (h₀ := X.base) I.ok.mod.kin hk (thn (ha.run pos pins s2 σ H1 _ I2 q) fun us s3 z => ?_) hst hpl
  obtain ⟨vs, H2, I3, rv, q2⟩ := z
  exact ⟨I3.kIn, wpAny_call (run_fnR F hr hx I3 rv q2)⟩
end
section
variable {X : Cx} {bd body orelse : List Stmt} {h₀ : ExceptHandler} {hs : List ExceptHandler} {pos : Pos} {t u : TS}
theorem at_attempt {α : Type} {M : Model} {A : Around} {c : Code} {E : Value → Shared → Prop} {s : Shared} {m : Sem α} {Q : Except Value α → Shared → Prop} (h : PySem.wpAt M A c m (fun a => Q (.ok a)) (fun e => Q (.error e)) s) : PySem.wpAt M A c m.attempt Q E s := by
  intro Γ p hc hΓ
  rw [Sem.wp_attempt]
  exact h Γ p hc hΓ
/-- a body from which no exception comes -/
theorem QS.try_thru (hb : QSs X.nox bd body t) : QS X bd (.Try body (h₀ :: hs) [] [] pos) t := by
  constructor
  intro pins s σ H D I h
  rw [arm_exec_Try]
  refine PySem.wpAt_bind (PySem.wpAt_of_wpAny (wpAny_standAt ?_))
  unfold tryStmt
  simp only [List.isEmpty_nil, if_true, List.isEmpty_cons, Bool.false_and, Bool.false_eq_true, if_false]
  refine PySem.wpAt_bind (at_attempt (PySem.wpAt_mono (hb.run pins s σ H D (I.wish _) h) (fun f s1 q => ?_) fun e s1 z => z.elim))
  have q' : SP X pins D f s1 := q.unwish
  cases f with
  | next => exact PySem.wpAt_of_wpAny (wpAny_execs_nil q')
  | ret v => exact PySem.wpAt_of_wpAny (wpAny_pure q')
  | brk => exact PySem.wpAt_of_wpAny (wpAny_pure q')
  | cont => exact PySem.wpAt_of_wpAny (wpAny_pure q')
end
end Ov
/-! ### the facts of a method that says super(), as tests of the written part; the hook -/
namespace Ov
open PySem PySem.Spec PyProof.Rows L2
abbrev FnC : Type := Option (Str × Str × Arguments × FuncBody × Scope × Addr × List Str × Addr)
def fnC (K : PySem.W.Frag) (p : Str × Option Str) : FnC := match K.lookup (He.fAd K p) with
  | some ⟨_, _, .func fd, _⟩ => some (fd.name, fd.qualname, fd.params, fd.body, fd.scope, fd.globals, fd.closure.map (·.1), fd.builtins)
  | _ => none
def valC (d : He.DefD) : FnC := some (d.name, d.qual, d.params, .stmts d.body, d.scope, mainGlobals, ["__class__"], builtinsNs)
/-- the def's object: its cell and its code object -/
def celOf (K : PySem.W.Frag) (f : Addr) : Addr := match K.lookup f with
  | some ⟨_, _, .func fd, _⟩ => (match fd.closure with
    | (_, c) :: _ => c
    | [] => 0)
  | _ => 0
def codOf (K : PySem.W.Frag) (f : Addr) : Addr := match K.lookup f with
  | some ⟨_, _, .func fd, _⟩ => (match fd.code with
    | .ref c => c
    | _ => 0)
  | _ => 0
def fnAt (K : PySem.W.Frag) (f : Addr) : FuncData := match K.lookup f with
  | some ⟨_, _, .func fd, _⟩ => fd
  | _ => default
def supB (K : PySem.W.Frag) (file : Str) (D f : Addr) (qual : Str) : Bool := (match K.lookup f with
    | some ⟨_, _, .func fd, _⟩ => decide (fd.defaults = .none) && (decide (fd.kwdefaults = .none) && decide (fd.code = .ref (codOf K f)))
    | _ => false) && (PySem.W.codeIn K (.ref (codOf K f)) qual && ((match K.lookup (codOf K f) with
    | some ⟨_, _, .fields vs, _⟩ => (match ((vs : Array Value)[2]? : Option Value) with
      | some (.str x _) => file == x
      | _ => false)
    | _ => false) && (match K.lookup (celOf K f) with
    | some ⟨_, _, .cell (some v), _⟩ => decide (v = .ref D)
    | _ => false)))
theorem supB_ok {P : Program} {K : PySem.W.Frag} {D : Addr} {d : He.DefD} (e : fnC K d.at_ = valC d) (h : supB K P.main.file D (He.fAd K d.at_) d.qual = true) (ht : (P.main.scope.names.lookup ("super" : Str)).isSome = false) :
    SupD P K d.name d.qual d.params d.body d.scope (He.fAd K d.at_) (celOf K (He.fAd K d.at_)) (codOf K (He.fAd K d.at_)) D (fnAt K (He.fAd K d.at_)) := by
  unfold supB at h
  obtain ⟨h1, h⟩ := He.ba h
  obtain ⟨h2, h⟩ := He.ba h
  obtain ⟨h3, h4⟩ := He.ba h
  refine ⟨?_, h2, ?_, ?_, ht⟩
  · unfold fnC at e
    cases q : K.lookup (He.fAd K d.at_) with
    | none =>
      rw [q] at h1
      cases h1
    | some o =>
      obtain ⟨oc, od, dt, osl⟩ := o
      rw [q] at h1 e
      cases dt with
      | func fd =>
        have ea : fnAt K (He.fAd K d.at_) = fd := by
          unfold fnAt
          rw [q]
        have ec : celOf K (He.fAd K d.at_) = (match fd.closure with
          | (_, c) :: _ => c
          | [] => 0) := by
          unfold celOf
          rw [q]
        obtain ⟨g1, g2⟩ := He.ba h1
        obtain ⟨g2, g3⟩ := He.ba g2
        obtain ⟨n1, n2, n3, n4, n5, n6, n7, n8, n9, n10, n11, n12, n13, n14, n15⟩ := fd
        have e2 : (some (n1, n2, n3, n4, n5, n6, n7.map (·.1), n15) : FnC) = some (d.name, d.qual, d.params, FuncBody.stmts d.body, d.scope, mainGlobals, [("__class__" : Str)], builtinsNs) := e
        simp only [Option.some.injEq, Prod.mk.injEq] at e2
        obtain ⟨i1, i2, i3, i4, i5, i6, i7, i8⟩ := e2
        subst i1 i2 i3 i4 i5 i6 i8
        have j1 : n8 = .none := of_decide_eq_true g1
        have j2 : n9 = .none := of_decide_eq_true g2
        have j3 : n13 = .ref (codOf K (He.fAd K d.at_)) := of_decide_eq_true g3
        subst j1 j2
        match n7, i7, ec with
        | [(a, c)], i7, ec =>
          have i7 : [a] = [("__class__" : Str)] := i7
          cases i7
          have ec : celOf K (He.fAd K d.at_) = c := ec
          refine ⟨oc, od, n10, n11, n12, n14, osl, ?_, by rw [ea]⟩
          rw [ea, ec, j3]
      | _ => cases h1
  · split at h3
    · rename_i a b vs c q
      split at h3
      · rename_i x t hv
        exact ⟨_, _, vs, _, x, t, q, hv, h3⟩
      · cases h3
    · cases h3
  · split at h4
    · rename_i a b v c q
      have e3 := of_decide_eq_true h4
      subst e3
      exact ⟨_, _, _, q⟩
    · cases h4
def supMB (K : PySem.W.Frag) (C D : Addr) (m : Str) (g : Addr) : Bool := (PySem.W.clsIn K C).isSome && ((PySem.W.clsIn K D).isSome && (decide (PySem.W.mroIn K C (.ref D) = some true) && (He.eqO (PySem.W.nsIn K cStatics "thirdparty.any") (some none) &&
  (He.eqO (PySem.W.ks_superIn K C D m) (some (some (.ref g))) && (decide (PySem.W.typeIn K (.ref g) = some (.type "function")) && PySem.W.fnIn K g)))))
theorem supMB_ok {K : PySem.W.Frag} {C D g : Addr} {m : Str} (h : supMB K C D m g = true) : SupM K C D m g := by
  unfold supMB at h
  obtain ⟨h1, h⟩ := He.ba h
  obtain ⟨h2, h⟩ := He.ba h
  obtain ⟨h3, h⟩ := He.ba h
  obtain ⟨h4, h⟩ := He.ba h
  obtain ⟨h5, h⟩ := He.ba h
  obtain ⟨h6, h7⟩ := He.ba h
  exact ⟨Option.isSome_iff_exists.mp h1, Option.isSome_iff_exists.mp h2, of_decide_eq_true h3, He.eqO_ok h4, He.eqO_ok h5, of_decide_eq_true h6, h7⟩
def unbB (K : PySem.W.Frag) (C : Addr) (m : Str) (g : Addr) : Bool := PySem.W.readsIn K C (.type "type") && (He.eqO (PySem.W.specialIn K (.ref C) "__getattribute__") (some (some (.builtin "type.__getattribute__"))) && (match PySem.W.findCls K (.ref C) (.type "type") m with
  | some (.val v) => decide (v = .ref g)
  | _ => false))
theorem unbB_ok {K : PySem.W.Frag} {C g : Addr} {m : Str} (h : unbB K C m g = true) : ClX.CRead K C (.type "type") ∧ ClX.CVal K C (.type "type") m (.ref g) (.ref g) := by
  unfold unbB at h
  obtain ⟨h1, h⟩ := He.ba h
  obtain ⟨h2, h3⟩ := He.ba h
  refine ⟨⟨h1, He.eqO_ok h2⟩, ?_, rfl⟩
  split at h3
  · rename_i v q
    rw [of_decide_eq_true h3] at q
    exact q
  · cases h3
/-- what the module's names reach, and the interpreter's own notes -/
def asC (g : Addr → Option Obj) (n : Nat) : List Addr := cStatics :: He.asD g n
def obsC (n : Nat) (fa : List He.Fa) (fn : List He.DefD) (ts : List He.Tab) (tf : List He.Defn) (ex : PySem.W.Frag → Bool) (sf : List He.DefD) (g : Addr → Option Obj) : He.AlX × List FnC :=
  ((He.obsT fa fn ts (He.frT g (asC g n)), ex (He.frT g (asC g n)) && He.tabsB g tf (He.frT g (asC g n))), sf.map fun d => fnC (He.frT g (asC g n)) d.at_)
theorem says_at {g : Addr → Option Obj} {h : Heap} {as : List Addr} {fa : List He.Fa} {fn : List He.DefD} {ts : List He.Tab} {tf : List He.Defn} {ex : PySem.W.Frag → Bool} {w : World} (hg : g = h.get?) (e1 : He.obsT fa fn ts (He.frT g as) = He.valT fn ts w) (e2 : (ex (He.frT g as) && He.tabsB g tf (He.frT g as)) = true) : He.SaysX fa fn ts tf ex w h (He.frT g as) := by
  obtain ⟨m, tb⟩ := He.ba e2
  have one : ∀ p ∈ tf, PySem.W.codeHdIn (He.frT g as) (He.cT (He.frT g as) p).1 (He.cT (He.frT g as) p).2 = true ∧ ∃ o, g (He.cT (He.frT g as) p).2 = some o ∧ He.emptyTab o = true := by
    intro p hp
    obtain ⟨c1, c2⟩ := He.ba (List.all_eq_true.mp tb p hp)
    generalize hq : g (He.cT (He.frT g as) p).2 = q at c2
    match q, c2 with
    | some o, c2 => exact ⟨c1, o, rfl, c2⟩
  constructor
  · exact e1
  · exact m
  · exact fun p hp => (one p hp).1
  · intro p hp
    obtain ⟨_, o, z1, z2⟩ := one p hp
    exact He.frT_none z1 z2
  · intro p hp
    obtain ⟨_, o, z1, z2⟩ := one p hp
    rw [← hg, z1, He.emptyTab_eq z2]
/-- the hook: HandS' one over asC, and these defs -/
def hookC (n : Nat) (fa : List He.Fa) (fn : List He.DefD) (ts : List He.Tab) (tf : List He.Defn) (ex : PySem.W.Frag → Bool) (sf : List He.DefD) : PySem.W.Hook where
  α := He.AlX × List FnC
  obs := fun s => obsC n fa fn ts tf ex sf s.heap.get?
  val := fun w => (He.valX fn ts w, sf.map valC)
  says := fun w h => ∃ K : PySem.W.Frag, K.In h ∧ He.SaysX fa fn ts tf ex w h K ∧ sf.map (fun d => fnC K d.at_) = sf.map valC
  of := fun _ _ e => ⟨_, He.frT_in, says_at rfl (congrArg (fun z => z.1.1) e) (congrArg (fun z => z.1.2) e), congrArg (·.2) e⟩
  keeps := fun _ _ _ ⟨K, hK, c, z⟩ k => ⟨K, PySem.W.Frag.In.keeps hK k, ⟨c.t, c.more, c.hd, c.out, fun p hp => k _ _ (c.empty p hp)⟩, z⟩
theorem obsC_eq {n : Nat} {fa : List He.Fa} {fn : List He.DefD} {ts : List He.Tab} {tf : List He.Defn} {ex : PySem.W.Frag → Bool} {sf : List He.DefD} {g : Addr → Option Obj} {s : Shared} (h : ∀ a, g a = s.heap.get? a) : obsC n fa fn ts tf ex sf g = (hookC n fa fn ts tf ex sf).obs s := by
  obtain rfl : g = s.heap.get? := funext h
  rfl
theorem fnC_at {K : PySem.W.Frag} {sf : List He.DefD} (h : sf.map (fun d => fnC K d.at_) = sf.map valC) (i : Nat) {d : He.DefD} (e : sf[i]? = some d := by rfl) : fnC K d.at_ = valC d := by
  have z := congrArg (fun l => l[i]?) h
  simp only [List.getElem?_map, e, Option.map_some, Option.some.injEq] at z
  exact z
end Ov
namespace K18
open PySem PySem.Spec PyProof.Rows L2
/-! ### the text by places -/
def top (i : Nat) : Stmt := PySem.Challenge.pw_overlayhall_k18_whole_bounds_of_runs.main.body.getD i (.Pass ⟨0, 0, 0, 0⟩)
abbrev s_between : Stmt := top 9
abbrev s_given_of : Stmt := top 14
abbrev s_arms_of : Stmt := top 15
abbrev s_words_of : Stmt := top 16
abbrev s_add_word : Stmt := top 17
abbrev s_check_program : Stmt := top 24
abbrev s_check_function : Stmt := top 25
abbrev s_function_fits : Stmt := top 26
abbrev s_word_fits : Stmt := top 27
abbrev s_given_fits : Stmt := top 28
abbrev s_numbered : Stmt := top 29
abbrev s_check_number : Stmt := top 35
abbrev s_number_in : Stmt := top 37
abbrev s_end_of_way : Stmt := top 38
abbrev s_reckoned : Stmt := top 39
abbrev s_run : Stmt := top 41
abbrev s_plain_run : Stmt := top 42
abbrev s_check_tree : Stmt := top 45
abbrev s_parts_fit : Stmt := top 46
abbrev s_part_fits : Stmt := top 47
abbrev s_rises : Stmt := top 48
abbrev s_stands_fit : Stmt := top 49
abbrev s_has_end : Stmt := top 50
abbrev s_parts_below : Stmt := top 51
abbrev s_size_of : Stmt := top 52
abbrev s_begins : Stmt := top 53
abbrev s_firsts_of : Stmt := top 54
abbrev s_end_of : Stmt := top 55
abbrev s_way_of : Stmt := top 56
abbrev s_check_room : Stmt := top 60
abbrev s_layouts : Stmt := top 61
abbrev s_run_in : Stmt := top 65
abbrev s_room_run : Stmt := top 66
abbrev s_check_places : Stmt := top 67
abbrev s_calls_at : Stmt := top 68
abbrev s_law_mix : Stmt := top 70
abbrev s_law_next : Stmt := top 71
abbrev s_law_alike : Stmt := top 72
abbrev s_law_many : Stmt := top 73
abbrev s_law_all : Stmt := top 74
abbrev s_law_ends : Stmt := top 75
abbrev s_law_sum : Stmt := top 76
abbrev s_law_both_good : Stmt := top 77
abbrev s_law : Stmt := top 78
abbrev s_BadProgram_init : Stmt := inClass (top 2) 0
abbrev s_Fault_init : Stmt := inClass (top 34) 0
abbrev s_Run_init : Stmt := inClass (top 36) 0
abbrev s_Run_begin : Stmt := inClass (top 36) 1
abbrev s_Run_worth : Stmt := inClass (top 36) 2
abbrev s_Run_say : Stmt := inClass (top 36) 3
abbrev s_Run_call : Stmt := inClass (top 36) 4
abbrev s_Run_enter : Stmt := inClass (top 36) 5
abbrev s_Run_come_back : Stmt := inClass (top 36) 6
abbrev s_Hall_init : Stmt := inClass (top 59) 0
abbrev s_Hall_look : Stmt := inClass (top 59) 1
abbrev s_Hall_there : Stmt := inClass (top 59) 2
abbrev s_Hall_cells : Stmt := inClass (top 59) 3
abbrev s_Hall_brought : Stmt := inClass (top 59) 4
abbrev s_Hall_has_part : Stmt := inClass (top 59) 5
abbrev s_Hall_bring : Stmt := inClass (top 59) 6
abbrev s_Lost_init : Stmt := inClass (top 63) 0
abbrev s_RoomRun_init : Stmt := inClass (top 64) 0
abbrev s_RoomRun_begin : Stmt := inClass (top 64) 1
abbrev s_RoomRun_enter : Stmt := inClass (top 64) 2
abbrev s_RoomRun_come_back : Stmt := inClass (top 64) 3
abbrev s_RoomRun_go_on : Stmt := inClass (top 64) 4
abbrev FnP (K : PySem.W.Frag) (x q : Str) (st : Stmt) (f : Addr) (fd : FuncData) : Prop := FunD K x q (defArgs st) (defBody st) (defScope st) [] [] f fd
/-! ### the head: facts by names, the run -/
def d_between : He.DefD := ⟨("between", none), "between", "between", defArgs s_between, defBody s_between, defScope s_between, [], []⟩
def d_given_of : He.DefD := ⟨("given_of", none), "given_of", "given_of", defArgs s_given_of, defBody s_given_of, defScope s_given_of, [], []⟩
def d_arms_of : He.DefD := ⟨("arms_of", none), "arms_of", "arms_of", defArgs s_arms_of, defBody s_arms_of, defScope s_arms_of, [], []⟩
def d_words_of : He.DefD := ⟨("words_of", none), "words_of", "words_of", defArgs s_words_of, defBody s_words_of, defScope s_words_of, [], []⟩
def d_add_word : He.DefD := ⟨("add_word", none), "add_word", "add_word", defArgs s_add_word, defBody s_add_word, defScope s_add_word, [], []⟩
def d_check_program : He.DefD := ⟨("check_program", none), "check_program", "check_program", defArgs s_check_program, defBody s_check_program, defScope s_check_program, [], []⟩
def d_check_function : He.DefD := ⟨("check_function", none), "check_function", "check_function", defArgs s_check_function, defBody s_check_function, defScope s_check_function, [], []⟩
def d_function_fits : He.DefD := ⟨("function_fits", none), "function_fits", "function_fits", defArgs s_function_fits, defBody s_function_fits, defScope s_function_fits, [], []⟩
def d_word_fits : He.DefD := ⟨("word_fits", none), "word_fits", "word_fits", defArgs s_word_fits, defBody s_word_fits, defScope s_word_fits, [], []⟩
def d_given_fits : He.DefD := ⟨("given_fits", none), "given_fits", "given_fits", defArgs s_given_fits, defBody s_given_fits, defScope s_given_fits, [], []⟩
def d_numbered : He.DefD := ⟨("numbered", none), "numbered", "numbered", defArgs s_numbered, defBody s_numbered, defScope s_numbered, [], []⟩
def d_check_number : He.DefD := ⟨("check_number", none), "check_number", "check_number", defArgs s_check_number, defBody s_check_number, defScope s_check_number, [], []⟩
def d_number_in : He.DefD := ⟨("number_in", none), "number_in", "number_in", defArgs s_number_in, defBody s_number_in, defScope s_number_in, [], []⟩
def d_end_of_way : He.DefD := ⟨("end_of_way", none), "end_of_way", "end_of_way", defArgs s_end_of_way, defBody s_end_of_way, defScope s_end_of_way, [], []⟩
def d_reckoned : He.DefD := ⟨("reckoned", none), "reckoned", "reckoned", defArgs s_reckoned, defBody s_reckoned, defScope s_reckoned, [], []⟩
def d_run : He.DefD := ⟨("run", none), "run", "run", defArgs s_run, defBody s_run, defScope s_run, [], []⟩
def d_plain_run : He.DefD := ⟨("plain_run", none), "plain_run", "plain_run", defArgs s_plain_run, defBody s_plain_run, defScope s_plain_run, [], []⟩
def d_check_tree : He.DefD := ⟨("check_tree", none), "check_tree", "check_tree", defArgs s_check_tree, defBody s_check_tree, defScope s_check_tree, [], []⟩
def d_parts_fit : He.DefD := ⟨("parts_fit", none), "parts_fit", "parts_fit", defArgs s_parts_fit, defBody s_parts_fit, defScope s_parts_fit, [], []⟩
def d_part_fits : He.DefD := ⟨("part_fits", none), "part_fits", "part_fits", defArgs s_part_fits, defBody s_part_fits, defScope s_part_fits, [], []⟩
def d_rises : He.DefD := ⟨("rises", none), "rises", "rises", defArgs s_rises, defBody s_rises, defScope s_rises, [], []⟩
def d_stands_fit : He.DefD := ⟨("stands_fit", none), "stands_fit", "stands_fit", defArgs s_stands_fit, defBody s_stands_fit, defScope s_stands_fit, [], []⟩
def d_has_end : He.DefD := ⟨("has_end", none), "has_end", "has_end", defArgs s_has_end, defBody s_has_end, defScope s_has_end, [], []⟩
def d_parts_below : He.DefD := ⟨("parts_below", none), "parts_below", "parts_below", defArgs s_parts_below, defBody s_parts_below, defScope s_parts_below, [], []⟩
def d_size_of : He.DefD := ⟨("size_of", none), "size_of", "size_of", defArgs s_size_of, defBody s_size_of, defScope s_size_of, [], []⟩
def d_begins : He.DefD := ⟨("begins", none), "begins", "begins", defArgs s_begins, defBody s_begins, defScope s_begins, [], []⟩
def d_firsts_of : He.DefD := ⟨("firsts_of", none), "firsts_of", "firsts_of", defArgs s_firsts_of, defBody s_firsts_of, defScope s_firsts_of, [], []⟩
def d_end_of : He.DefD := ⟨("end_of", none), "end_of", "end_of", defArgs s_end_of, defBody s_end_of, defScope s_end_of, [], []⟩
def d_way_of : He.DefD := ⟨("way_of", none), "way_of", "way_of", defArgs s_way_of, defBody s_way_of, defScope s_way_of, [], []⟩
def d_check_room : He.DefD := ⟨("check_room", none), "check_room", "check_room", defArgs s_check_room, defBody s_check_room, defScope s_check_room, [], []⟩
def d_layouts : He.DefD := ⟨("layouts", none), "layouts", "layouts", defArgs s_layouts, defBody s_layouts, defScope s_layouts, [], []⟩
def d_run_in : He.DefD := ⟨("run_in", none), "run_in", "run_in", defArgs s_run_in, defBody s_run_in, defScope s_run_in, [], []⟩
def d_room_run : He.DefD := ⟨("room_run", none), "room_run", "room_run", defArgs s_room_run, defBody s_room_run, defScope s_room_run, [], []⟩
def d_check_places : He.DefD := ⟨("check_places", none), "check_places", "check_places", defArgs s_check_places, defBody s_check_places, defScope s_check_places, [], []⟩
def d_calls_at : He.DefD := ⟨("calls_at", none), "calls_at", "calls_at", defArgs s_calls_at, defBody s_calls_at, defScope s_calls_at, [], []⟩
def d_law_mix : He.DefD := ⟨("_law_mix", none), "_law_mix", "_law_mix", defArgs s_law_mix, defBody s_law_mix, defScope s_law_mix, [], []⟩
def d_law_next : He.DefD := ⟨("_law_next", none), "_law_next", "_law_next", defArgs s_law_next, defBody s_law_next, defScope s_law_next, [], []⟩
def d_law_alike : He.DefD := ⟨("_law_alike", none), "_law_alike", "_law_alike", defArgs s_law_alike, defBody s_law_alike, defScope s_law_alike, [], []⟩
def d_law_many : He.DefD := ⟨("_law_many", none), "_law_many", "_law_many", defArgs s_law_many, defBody s_law_many, defScope s_law_many, [], []⟩
def d_law_all : He.DefD := ⟨("_law_all", none), "_law_all", "_law_all", defArgs s_law_all, defBody s_law_all, defScope s_law_all, [], []⟩
def d_law_ends : He.DefD := ⟨("_law_ends", none), "_law_ends", "_law_ends", defArgs s_law_ends, defBody s_law_ends, defScope s_law_ends, [], []⟩
def d_law_sum : He.DefD := ⟨("_law_sum", none), "_law_sum", "_law_sum", defArgs s_law_sum, defBody s_law_sum, defScope s_law_sum, [], []⟩
def d_law_both_good : He.DefD := ⟨("_law_both_good", none), "_law_both_good", "_law_both_good", defArgs s_law_both_good, defBody s_law_both_good, defScope s_law_both_good, [], []⟩
def d_law : He.DefD := ⟨("law", none), "law", "law", defArgs s_law, defBody s_law, defScope s_law, [], []⟩
def d_BadProgram_init : He.DefD := ⟨("BadProgram", (some "__init__")), "__init__", "BadProgram.__init__", defArgs s_BadProgram_init, defBody s_BadProgram_init, defScope s_BadProgram_init, [], []⟩
def d_Fault_init : He.DefD := ⟨("Fault", (some "__init__")), "__init__", "Fault.__init__", defArgs s_Fault_init, defBody s_Fault_init, defScope s_Fault_init, [], []⟩
def d_Run_init : He.DefD := ⟨("Run", (some "__init__")), "__init__", "Run.__init__", defArgs s_Run_init, defBody s_Run_init, defScope s_Run_init, [], []⟩
def d_Run_begin : He.DefD := ⟨("Run", (some "begin")), "begin", "Run.begin", defArgs s_Run_begin, defBody s_Run_begin, defScope s_Run_begin, [], []⟩
def d_Run_worth : He.DefD := ⟨("Run", (some "worth")), "worth", "Run.worth", defArgs s_Run_worth, defBody s_Run_worth, defScope s_Run_worth, [], []⟩
def d_Run_say : He.DefD := ⟨("Run", (some "say")), "say", "Run.say", defArgs s_Run_say, defBody s_Run_say, defScope s_Run_say, [], []⟩
def d_Run_call : He.DefD := ⟨("Run", (some "call")), "call", "Run.call", defArgs s_Run_call, defBody s_Run_call, defScope s_Run_call, [], []⟩
def d_Run_enter : He.DefD := ⟨("Run", (some "enter")), "enter", "Run.enter", defArgs s_Run_enter, defBody s_Run_enter, defScope s_Run_enter, [], []⟩
def d_Run_come_back : He.DefD := ⟨("Run", (some "come_back")), "come_back", "Run.come_back", defArgs s_Run_come_back, defBody s_Run_come_back, defScope s_Run_come_back, [], []⟩
def d_Hall_init : He.DefD := ⟨("Hall", (some "__init__")), "__init__", "Hall.__init__", defArgs s_Hall_init, defBody s_Hall_init, defScope s_Hall_init, [], []⟩
def d_Hall_look : He.DefD := ⟨("Hall", (some "look")), "look", "Hall.look", defArgs s_Hall_look, defBody s_Hall_look, defScope s_Hall_look, [], []⟩
def d_Hall_there : He.DefD := ⟨("Hall", (some "there")), "there", "Hall.there", defArgs s_Hall_there, defBody s_Hall_there, defScope s_Hall_there, [], []⟩
def d_Hall_cells : He.DefD := ⟨("Hall", (some "cells")), "cells", "Hall.cells", defArgs s_Hall_cells, defBody s_Hall_cells, defScope s_Hall_cells, [], []⟩
def d_Hall_brought : He.DefD := ⟨("Hall", (some "brought")), "brought", "Hall.brought", defArgs s_Hall_brought, defBody s_Hall_brought, defScope s_Hall_brought, [], []⟩
def d_Hall_has_part : He.DefD := ⟨("Hall", (some "has_part")), "has_part", "Hall.has_part", defArgs s_Hall_has_part, defBody s_Hall_has_part, defScope s_Hall_has_part, [], []⟩
def d_Hall_bring : He.DefD := ⟨("Hall", (some "bring")), "bring", "Hall.bring", defArgs s_Hall_bring, defBody s_Hall_bring, defScope s_Hall_bring, [], []⟩
def d_Lost_init : He.DefD := ⟨("Lost", (some "__init__")), "__init__", "Lost.__init__", defArgs s_Lost_init, defBody s_Lost_init, defScope s_Lost_init, [], []⟩
def d_RoomRun_init : He.DefD := ⟨("RoomRun", (some "__init__")), "__init__", "RoomRun.__init__", defArgs s_RoomRun_init, defBody s_RoomRun_init, defScope s_RoomRun_init, [], []⟩
def d_RoomRun_begin : He.DefD := ⟨("RoomRun", (some "begin")), "begin", "RoomRun.begin", defArgs s_RoomRun_begin, defBody s_RoomRun_begin, defScope s_RoomRun_begin, [], []⟩
def d_RoomRun_enter : He.DefD := ⟨("RoomRun", (some "enter")), "enter", "RoomRun.enter", defArgs s_RoomRun_enter, defBody s_RoomRun_enter, defScope s_RoomRun_enter, [], []⟩
def d_RoomRun_come_back : He.DefD := ⟨("RoomRun", (some "come_back")), "come_back", "RoomRun.come_back", defArgs s_RoomRun_come_back, defBody s_RoomRun_come_back, defScope s_RoomRun_come_back, [], []⟩
def d_RoomRun_go_on : He.DefD := ⟨("RoomRun", (some "go_on")), "go_on", "RoomRun.go_on", defArgs s_RoomRun_go_on, defBody s_RoomRun_go_on, defScope s_RoomRun_go_on, [], []⟩
def fn : List He.DefD := [d_between, d_given_of, d_arms_of, d_words_of, d_add_word, d_check_program, d_check_function, d_function_fits, d_word_fits, d_given_fits, d_numbered, d_check_number, d_number_in, d_end_of_way, d_reckoned, d_run, d_plain_run, d_check_tree, d_parts_fit, d_part_fits, d_rises, d_stands_fit, d_has_end, d_parts_below, d_size_of, d_begins, d_firsts_of, d_end_of, d_way_of, d_check_room, d_layouts, d_run_in, d_room_run, d_check_places, d_calls_at, d_law_mix, d_law_next, d_law_alike, d_law_many, d_law_all, d_law_ends, d_law_sum, d_law_both_good, d_law, d_BadProgram_init, d_Fault_init, d_Run_init, d_Run_begin, d_Run_worth, d_Run_say, d_Run_call, d_Run_enter, d_Run_come_back, d_Hall_init, d_Hall_look, d_Hall_there, d_Hall_cells, d_Hall_brought, d_Hall_has_part, d_Hall_bring, d_Lost_init, d_RoomRun_init, d_RoomRun_go_on]
def fa : List He.Fa := [.glo "HallError", .glo "BadProgram", .glo "BadNumber", .glo "BadTree", .glo "BadRoom", .glo "BadFunction", .glo "BadPlace", .glo "between", .glo "ARMS", .glo "GIVEN", .glo "CALLS", .glo "given_of", .glo "arms_of", .glo "words_of", .glo "add_word", .glo "check_program", .glo "check_function", .glo "function_fits", .glo "word_fits", .glo "given_fits", .glo "numbered", .glo "Fault", .glo "check_number", .glo "Run", .glo "number_in", .glo "end_of_way", .glo "reckoned", .glo "run", .glo "plain_run", .glo "check_tree", .glo "parts_fit", .glo "part_fits", .glo "rises", .glo "stands_fit", .glo "has_end", .glo "parts_below", .glo "size_of", .glo "begins", .glo "firsts_of", .glo "end_of", .glo "way_of", .glo "Hall", .glo "check_room", .glo "layouts", .glo "Lost", .glo "RoomRun", .glo "run_in", .glo "room_run", .glo "check_places", .glo "calls_at", .glo "_law_mix", .glo "_law_next", .glo "_law_alike", .glo "_law_many", .glo "_law_all", .glo "_law_ends", .glo "_law_sum", .glo "_law_both_good", .glo "law", .free "Exception", .free "ValueError", .free "all", .free "bool", .free "enumerate", .free "int", .free "isinstance", .free "len", .free "list", .free "max", .free "range", .free "sorted", .free "str", .free "sum", .free "super", .free "tuple", .free "zip", .int "MOST_FUNCTIONS" 8, .int "MOST_CELLS" 8, .int "MOST_WORDS" 40, .int "MOST_AROUND" 6, .int "GREATEST_WRITTEN" 99, .int "NUMBERS" 1000, .int "MOST_OTHERS" 12, .int "MOST_CALLS" 200, .int "NO_PART" (-1), .int "MOST_ROOM" 64, .cls "Run", .mkr "Run", .meth "Run" "begin", .meth "Run" "worth", .meth "Run" "say", .meth "Run" "call", .meth "Run" "enter", .meth "Run" "come_back", .noat "Run" "bodies", .noat "Run" "calls", .noat "Run" "others", .noat "Run" "row", .noat "Run" "said", .noat "Run" "told", .cls "Hall", .mkr "Hall", .meth "Hall" "look", .meth "Hall" "there", .meth "Hall" "cells", .meth "Hall" "brought", .meth "Hall" "has_part", .meth "Hall" "bring", .noat "Hall" "layouts", .noat "Hall" "lying", .noat "Hall" "moved", .noat "Hall" "ways", .cls "RoomRun", .mkr "RoomRun", .meth "RoomRun" "begin", .meth "RoomRun" "enter", .meth "RoomRun" "come_back", .meth "RoomRun" "go_on", .meth "RoomRun" "worth", .meth "RoomRun" "say", .meth "RoomRun" "call", .noat "RoomRun" "ahead", .noat "RoomRun" "back", .noat "RoomRun" "bodies", .noat "RoomRun" "calls", .noat "RoomRun" "hall", .noat "RoomRun" "looks", .noat "RoomRun" "others", .noat "RoomRun" "row", .noat "RoomRun" "said", .noat "RoomRun" "told", .exc "HallError", .exc "BadNumber", .exc "BadTree", .exc "BadRoom", .exc "BadFunction", .exc "BadPlace", .exm "HallError" "HallError" true, .exm "BadNumber" "BadNumber" true, .exm "BadNumber" "HallError" true, .exm "BadTree" "BadTree" true, .exm "BadTree" "HallError" true, .exm "BadRoom" "BadRoom" true, .exm "BadRoom" "HallError" true, .exm "BadFunction" "BadFunction" true, .exm "BadFunction" "HallError" true, .exm "BadPlace" "BadPlace" true, .exm "BadPlace" "HallError" true]
def kv_ARMS : List (Str × He.Dv) := [("num", .int 0), ("argument", .int 0), ("way", .int 0), ("plus", .int 2), ("less", .int 2), ("times", .int 2), ("if", .int 3), ("then", .int 2), ("say", .int 1), ("call", .int 1), ("through", .int 2)]
def kv_GIVEN : List (Str × He.Dv) := [("num", .str "number"), ("way", .str "function"), ("call", .str "function")]
def miss_ARMS : List Str := []
def miss_GIVEN : List Str := ["argument", "plus", "less", "times", "if", "then", "say", "through"]
def tf : List He.Defn := []
def ts : List He.Tab := [(fun K => He.ga K "ARMS", ["num", "argument", "way", "plus", "less", "times", "if", "then", "say", "call", "through"]), (fun K => He.ga K "GIVEN", ["num", "way", "call"])]
def ex (K : PySem.W.Frag) : Bool := He.valsB K (He.ga K "ARMS") kv_ARMS && He.valsB K (He.ga K "GIVEN") kv_GIVEN && (miss_GIVEN.all fun x => He.eqO (PySem.W.nsIn K (He.ga K "GIVEN") x) (some none)) && Ov.supB K PySem.Challenge.pw_overlayhall_k18_whole_bounds_of_runs.main.file (He.ga K "RoomRun") (He.ma K (He.ga K "RoomRun") "begin") "RoomRun.begin" && Ov.supMB K (He.ga K "RoomRun") (He.ga K "RoomRun") "begin" (He.ma K (He.ga K "Run") "begin") && Ov.supB K PySem.Challenge.pw_overlayhall_k18_whole_bounds_of_runs.main.file (He.ga K "RoomRun") (He.ma K (He.ga K "RoomRun") "enter") "RoomRun.enter" && Ov.supMB K (He.ga K "RoomRun") (He.ga K "RoomRun") "enter" (He.ma K (He.ga K "Run") "enter") && Ov.supB K PySem.Challenge.pw_overlayhall_k18_whole_bounds_of_runs.main.file (He.ga K "RoomRun") (He.ma K (He.ga K "RoomRun") "come_back") "RoomRun.come_back" && Ov.supMB K (He.ga K "RoomRun") (He.ga K "RoomRun") "come_back" (He.ma K (He.ga K "Run") "come_back") && decide ((He.ma K (He.ga K "RoomRun") "worth") = (He.ma K (He.ga K "Run") "worth")) && decide ((He.ma K (He.ga K "RoomRun") "say") = (He.ma K (He.ga K "Run") "say")) && decide ((He.ma K (He.ga K "RoomRun") "call") = (He.ma K (He.ga K "Run") "call")) && Ov.unbB K (He.ga K "Run") "__init__" (He.ma K (He.ga K "Run") "__init__") && Ov.fltB K (He.ga K "Fault") (He.ma K (He.ga K "Fault") "__init__")
abbrev R : PySem.W.OpenRow := PySem.W.OpenLaw.row PySem.Challenge.rw_overlayhall_k18_whole_bounds_of_runs
def sf : List He.DefD := [d_RoomRun_begin, d_RoomRun_enter, d_RoomRun_come_back]
abbrev hk : PySem.W.Hook := Ov.hookC 4 fa fn ts tf ex sf
def ob (s : PySem.W.SharedT) : He.AlX × List Ov.FnC := Ov.obsC 4 fa fn ts tf ex sf (HandSHeadRun.getT s)
theorem ob_eq (s : PySem.W.SharedT) : ob s = hk.obs s.abs := Ov.obsC_eq (HandSHeadRun.getT_eq s)
def names0 : List PySem.Str := ["HallError", "BadProgram", "BadNumber", "BadTree", "BadRoom", "BadFunction", "BadPlace", "between", "ARMS", "GIVEN", "CALLS", "given_of", "arms_of", "words_of", "add_word", "MOST_FUNCTIONS", "MOST_CELLS", "MOST_WORDS", "MOST_AROUND", "GREATEST_WRITTEN", "check_program", "check_function", "function_fits", "word_fits", "given_fits", "numbered", "NUMBERS", "MOST_OTHERS", "MOST_CALLS", "Fault"]
def names1 : List PySem.Str := ["check_number", "Run", "number_in", "end_of_way", "reckoned", "run", "plain_run", "NO_PART", "check_tree", "parts_fit", "part_fits", "rises", "stands_fit", "has_end", "parts_below", "size_of", "begins", "firsts_of", "end_of", "way_of", "MOST_ROOM", "Hall", "check_room", "layouts", "Lost", "RoomRun", "run_in", "room_run", "check_places", "calls_at"]
def names2 : List PySem.Str := ["_law_mix", "_law_next", "_law_alike", "_law_many", "_law_all", "_law_ends", "_law_sum", "_law_both_good"]
def names : List PySem.Str := names0 ++ names1 ++ names2
abbrev RunP (w : World) : Prop := HandSHeadRun.RunEq R (PySem.W.view R.prog [78]) hk ob 9000 names w
theorem runF (w : World) : RunP (w.withFollow "special-get-raises" false) := by
  intro os
  kernel_rfl
theorem runT (w : World) : RunP (w.withFollow "special-get-raises" true) := by
  intro os
  kernel_rfl
theorem run (w : World) : RunP w := PySem.W.byRow2 "special-get-raises" (P := RunP) runF runT w
/-! ### the facts by name -/
def fdOf (K : PySem.W.Frag) (d : He.DefD) : FuncData := match K.lookup (He.fAd K d.at_) with
  | some ⟨_, _, .func fd, _⟩ => fd
  | _ => PySem.W.fnOf d.name d.qual d.params d.body d.scope .none .none .none .none none .none .none
theorem fdOf_eq {K : PySem.W.Frag} {d : He.DefD} {fd : FuncData} (F : FunD K d.name d.qual d.params d.body d.scope (d.dvs K) (d.kws K) (He.fAd K d.at_) fd) : FunD K d.name d.qual d.params d.body d.scope (d.dvs K) (d.kws K) (He.fAd K d.at_) (fdOf K d) := by
  obtain ⟨oc, od, dV, kV, doc, pm, an, cdv, ct, osl, _, lk, h⟩ := F.ex
  have e : fdOf K d = fd := by
    unfold fdOf
    rw [lk]
  rw [e]
  exact F
structure Txt (w : World) (K : PySem.W.Frag) (mg : Str → Option Value) : Prop where
  g_HallError : mg "HallError" = some (.ref (He.ga K "HallError"))
  g_BadProgram : mg "BadProgram" = some (.ref (He.ga K "BadProgram"))
  g_BadNumber : mg "BadNumber" = some (.ref (He.ga K "BadNumber"))
  g_BadTree : mg "BadTree" = some (.ref (He.ga K "BadTree"))
  g_BadRoom : mg "BadRoom" = some (.ref (He.ga K "BadRoom"))
  g_BadFunction : mg "BadFunction" = some (.ref (He.ga K "BadFunction"))
  g_BadPlace : mg "BadPlace" = some (.ref (He.ga K "BadPlace"))
  g_between : mg "between" = some (.ref (He.ga K "between"))
  g_ARMS : mg "ARMS" = some (.ref (He.ga K "ARMS"))
  g_GIVEN : mg "GIVEN" = some (.ref (He.ga K "GIVEN"))
  g_CALLS : mg "CALLS" = some (.ref (He.ga K "CALLS"))
  g_given_of : mg "given_of" = some (.ref (He.ga K "given_of"))
  g_arms_of : mg "arms_of" = some (.ref (He.ga K "arms_of"))
  g_words_of : mg "words_of" = some (.ref (He.ga K "words_of"))
  g_add_word : mg "add_word" = some (.ref (He.ga K "add_word"))
  g_check_program : mg "check_program" = some (.ref (He.ga K "check_program"))
  g_check_function : mg "check_function" = some (.ref (He.ga K "check_function"))
  g_function_fits : mg "function_fits" = some (.ref (He.ga K "function_fits"))
  g_word_fits : mg "word_fits" = some (.ref (He.ga K "word_fits"))
  g_given_fits : mg "given_fits" = some (.ref (He.ga K "given_fits"))
  g_numbered : mg "numbered" = some (.ref (He.ga K "numbered"))
  g_Fault : mg "Fault" = some (.ref (He.ga K "Fault"))
  g_check_number : mg "check_number" = some (.ref (He.ga K "check_number"))
  g_Run : mg "Run" = some (.ref (He.ga K "Run"))
  g_number_in : mg "number_in" = some (.ref (He.ga K "number_in"))
  g_end_of_way : mg "end_of_way" = some (.ref (He.ga K "end_of_way"))
  g_reckoned : mg "reckoned" = some (.ref (He.ga K "reckoned"))
  g_run : mg "run" = some (.ref (He.ga K "run"))
  g_plain_run : mg "plain_run" = some (.ref (He.ga K "plain_run"))
  g_check_tree : mg "check_tree" = some (.ref (He.ga K "check_tree"))
  g_parts_fit : mg "parts_fit" = some (.ref (He.ga K "parts_fit"))
  g_part_fits : mg "part_fits" = some (.ref (He.ga K "part_fits"))
  g_rises : mg "rises" = some (.ref (He.ga K "rises"))
  g_stands_fit : mg "stands_fit" = some (.ref (He.ga K "stands_fit"))
  g_has_end : mg "has_end" = some (.ref (He.ga K "has_end"))
  g_parts_below : mg "parts_below" = some (.ref (He.ga K "parts_below"))
  g_size_of : mg "size_of" = some (.ref (He.ga K "size_of"))
  g_begins : mg "begins" = some (.ref (He.ga K "begins"))
  g_firsts_of : mg "firsts_of" = some (.ref (He.ga K "firsts_of"))
  g_end_of : mg "end_of" = some (.ref (He.ga K "end_of"))
  g_way_of : mg "way_of" = some (.ref (He.ga K "way_of"))
  g_Hall : mg "Hall" = some (.ref (He.ga K "Hall"))
  g_check_room : mg "check_room" = some (.ref (He.ga K "check_room"))
  g_layouts : mg "layouts" = some (.ref (He.ga K "layouts"))
  g_Lost : mg "Lost" = some (.ref (He.ga K "Lost"))
  g_RoomRun : mg "RoomRun" = some (.ref (He.ga K "RoomRun"))
  g_run_in : mg "run_in" = some (.ref (He.ga K "run_in"))
  g_room_run : mg "room_run" = some (.ref (He.ga K "room_run"))
  g_check_places : mg "check_places" = some (.ref (He.ga K "check_places"))
  g_calls_at : mg "calls_at" = some (.ref (He.ga K "calls_at"))
  g_law_mix : mg "_law_mix" = some (.ref (He.ga K "_law_mix"))
  g_law_next : mg "_law_next" = some (.ref (He.ga K "_law_next"))
  g_law_alike : mg "_law_alike" = some (.ref (He.ga K "_law_alike"))
  g_law_many : mg "_law_many" = some (.ref (He.ga K "_law_many"))
  g_law_all : mg "_law_all" = some (.ref (He.ga K "_law_all"))
  g_law_ends : mg "_law_ends" = some (.ref (He.ga K "_law_ends"))
  g_law_sum : mg "_law_sum" = some (.ref (He.ga K "_law_sum"))
  g_law_both_good : mg "_law_both_good" = some (.ref (He.ga K "_law_both_good"))
  g_law : mg "law" = some (.ref (He.ga K "law"))
  z_Exception : mg "Exception" = none
  z_ValueError : mg "ValueError" = none
  z_all : mg "all" = none
  z_bool : mg "bool" = none
  z_enumerate : mg "enumerate" = none
  z_int : mg "int" = none
  z_isinstance : mg "isinstance" = none
  z_len : mg "len" = none
  z_list : mg "list" = none
  z_max : mg "max" = none
  z_range : mg "range" = none
  z_sorted : mg "sorted" = none
  z_str : mg "str" = none
  z_sum : mg "sum" = none
  z_super : mg "super" = none
  z_tuple : mg "tuple" = none
  z_zip : mg "zip" = none
  i_MOST_FUNCTIONS : ∃ t, mg "MOST_FUNCTIONS" = some (.int 8 t)
  i_MOST_CELLS : ∃ t, mg "MOST_CELLS" = some (.int 8 t)
  i_MOST_WORDS : ∃ t, mg "MOST_WORDS" = some (.int 40 t)
  i_MOST_AROUND : ∃ t, mg "MOST_AROUND" = some (.int 6 t)
  i_GREATEST_WRITTEN : ∃ t, mg "GREATEST_WRITTEN" = some (.int 99 t)
  i_NUMBERS : ∃ t, mg "NUMBERS" = some (.int 1000 t)
  i_MOST_OTHERS : ∃ t, mg "MOST_OTHERS" = some (.int 12 t)
  i_MOST_CALLS : ∃ t, mg "MOST_CALLS" = some (.int 200 t)
  i_NO_PART : ∃ t, mg "NO_PART" = some (.int (-1) t)
  i_MOST_ROOM : ∃ t, mg "MOST_ROOM" = some (.int 64 t)
  F_between : FnP K "between" "between" s_between (He.ga K "between") (fdOf K d_between)
  F_given_of : FnP K "given_of" "given_of" s_given_of (He.ga K "given_of") (fdOf K d_given_of)
  F_arms_of : FnP K "arms_of" "arms_of" s_arms_of (He.ga K "arms_of") (fdOf K d_arms_of)
  F_words_of : FnP K "words_of" "words_of" s_words_of (He.ga K "words_of") (fdOf K d_words_of)
  F_add_word : FnP K "add_word" "add_word" s_add_word (He.ga K "add_word") (fdOf K d_add_word)
  F_check_program : FnP K "check_program" "check_program" s_check_program (He.ga K "check_program") (fdOf K d_check_program)
  F_check_function : FnP K "check_function" "check_function" s_check_function (He.ga K "check_function") (fdOf K d_check_function)
  F_function_fits : FnP K "function_fits" "function_fits" s_function_fits (He.ga K "function_fits") (fdOf K d_function_fits)
  F_word_fits : FnP K "word_fits" "word_fits" s_word_fits (He.ga K "word_fits") (fdOf K d_word_fits)
  F_given_fits : FnP K "given_fits" "given_fits" s_given_fits (He.ga K "given_fits") (fdOf K d_given_fits)
  F_numbered : FnP K "numbered" "numbered" s_numbered (He.ga K "numbered") (fdOf K d_numbered)
  F_check_number : FnP K "check_number" "check_number" s_check_number (He.ga K "check_number") (fdOf K d_check_number)
  F_number_in : FnP K "number_in" "number_in" s_number_in (He.ga K "number_in") (fdOf K d_number_in)
  F_end_of_way : FnP K "end_of_way" "end_of_way" s_end_of_way (He.ga K "end_of_way") (fdOf K d_end_of_way)
  F_reckoned : FnP K "reckoned" "reckoned" s_reckoned (He.ga K "reckoned") (fdOf K d_reckoned)
  F_run : FnP K "run" "run" s_run (He.ga K "run") (fdOf K d_run)
  F_plain_run : FnP K "plain_run" "plain_run" s_plain_run (He.ga K "plain_run") (fdOf K d_plain_run)
  F_check_tree : FnP K "check_tree" "check_tree" s_check_tree (He.ga K "check_tree") (fdOf K d_check_tree)
  F_parts_fit : FnP K "parts_fit" "parts_fit" s_parts_fit (He.ga K "parts_fit") (fdOf K d_parts_fit)
  F_part_fits : FnP K "part_fits" "part_fits" s_part_fits (He.ga K "part_fits") (fdOf K d_part_fits)
  F_rises : FnP K "rises" "rises" s_rises (He.ga K "rises") (fdOf K d_rises)
  F_stands_fit : FnP K "stands_fit" "stands_fit" s_stands_fit (He.ga K "stands_fit") (fdOf K d_stands_fit)
  F_has_end : FnP K "has_end" "has_end" s_has_end (He.ga K "has_end") (fdOf K d_has_end)
  F_parts_below : FnP K "parts_below" "parts_below" s_parts_below (He.ga K "parts_below") (fdOf K d_parts_below)
  F_size_of : FnP K "size_of" "size_of" s_size_of (He.ga K "size_of") (fdOf K d_size_of)
  F_begins : FnP K "begins" "begins" s_begins (He.ga K "begins") (fdOf K d_begins)
  F_firsts_of : FnP K "firsts_of" "firsts_of" s_firsts_of (He.ga K "firsts_of") (fdOf K d_firsts_of)
  F_end_of : FnP K "end_of" "end_of" s_end_of (He.ga K "end_of") (fdOf K d_end_of)
  F_way_of : FnP K "way_of" "way_of" s_way_of (He.ga K "way_of") (fdOf K d_way_of)
  F_check_room : FnP K "check_room" "check_room" s_check_room (He.ga K "check_room") (fdOf K d_check_room)
  F_layouts : FnP K "layouts" "layouts" s_layouts (He.ga K "layouts") (fdOf K d_layouts)
  F_run_in : FnP K "run_in" "run_in" s_run_in (He.ga K "run_in") (fdOf K d_run_in)
  F_room_run : FnP K "room_run" "room_run" s_room_run (He.ga K "room_run") (fdOf K d_room_run)
  F_check_places : FnP K "check_places" "check_places" s_check_places (He.ga K "check_places") (fdOf K d_check_places)
  F_calls_at : FnP K "calls_at" "calls_at" s_calls_at (He.ga K "calls_at") (fdOf K d_calls_at)
  F_law_mix : FnP K "_law_mix" "_law_mix" s_law_mix (He.ga K "_law_mix") (fdOf K d_law_mix)
  F_law_next : FnP K "_law_next" "_law_next" s_law_next (He.ga K "_law_next") (fdOf K d_law_next)
  F_law_alike : FnP K "_law_alike" "_law_alike" s_law_alike (He.ga K "_law_alike") (fdOf K d_law_alike)
  F_law_many : FnP K "_law_many" "_law_many" s_law_many (He.ga K "_law_many") (fdOf K d_law_many)
  F_law_all : FnP K "_law_all" "_law_all" s_law_all (He.ga K "_law_all") (fdOf K d_law_all)
  F_law_ends : FnP K "_law_ends" "_law_ends" s_law_ends (He.ga K "_law_ends") (fdOf K d_law_ends)
  F_law_sum : FnP K "_law_sum" "_law_sum" s_law_sum (He.ga K "_law_sum") (fdOf K d_law_sum)
  F_law_both_good : FnP K "_law_both_good" "_law_both_good" s_law_both_good (He.ga K "_law_both_good") (fdOf K d_law_both_good)
  F_law : FnP K "law" "law" s_law (He.ga K "law") (fdOf K d_law)
  c_Run : Cls K (He.ga K "Run")
  k_Run : Mk K (He.ga K "Run") (He.ma K (He.ga K "Run") "__init__")
  m_Run_begin : Meth K (He.ga K "Run") "begin" (He.ma K (He.ga K "Run") "begin")
  m_Run_worth : Meth K (He.ga K "Run") "worth" (He.ma K (He.ga K "Run") "worth")
  m_Run_say : Meth K (He.ga K "Run") "say" (He.ma K (He.ga K "Run") "say")
  m_Run_call : Meth K (He.ga K "Run") "call" (He.ma K (He.ga K "Run") "call")
  m_Run_enter : Meth K (He.ga K "Run") "enter" (He.ma K (He.ga K "Run") "enter")
  m_Run_come_back : Meth K (He.ga K "Run") "come_back" (He.ma K (He.ga K "Run") "come_back")
  a_Run_bodies : NoAttr K (He.ga K "Run") "bodies"
  a_Run_calls : NoAttr K (He.ga K "Run") "calls"
  a_Run_others : NoAttr K (He.ga K "Run") "others"
  a_Run_row : NoAttr K (He.ga K "Run") "row"
  a_Run_said : NoAttr K (He.ga K "Run") "said"
  a_Run_told : NoAttr K (He.ga K "Run") "told"
  F_Run_init : FnP K "__init__" "Run.__init__" s_Run_init (He.ma K (He.ga K "Run") "__init__") (fdOf K d_Run_init)
  F_Run_begin : FnP K "begin" "Run.begin" s_Run_begin (He.ma K (He.ga K "Run") "begin") (fdOf K d_Run_begin)
  F_Run_worth : FnP K "worth" "Run.worth" s_Run_worth (He.ma K (He.ga K "Run") "worth") (fdOf K d_Run_worth)
  F_Run_say : FnP K "say" "Run.say" s_Run_say (He.ma K (He.ga K "Run") "say") (fdOf K d_Run_say)
  F_Run_call : FnP K "call" "Run.call" s_Run_call (He.ma K (He.ga K "Run") "call") (fdOf K d_Run_call)
  F_Run_enter : FnP K "enter" "Run.enter" s_Run_enter (He.ma K (He.ga K "Run") "enter") (fdOf K d_Run_enter)
  F_Run_come_back : FnP K "come_back" "Run.come_back" s_Run_come_back (He.ma K (He.ga K "Run") "come_back") (fdOf K d_Run_come_back)
  c_Hall : Cls K (He.ga K "Hall")
  k_Hall : Mk K (He.ga K "Hall") (He.ma K (He.ga K "Hall") "__init__")
  m_Hall_look : Meth K (He.ga K "Hall") "look" (He.ma K (He.ga K "Hall") "look")
  m_Hall_there : Meth K (He.ga K "Hall") "there" (He.ma K (He.ga K "Hall") "there")
  m_Hall_cells : Meth K (He.ga K "Hall") "cells" (He.ma K (He.ga K "Hall") "cells")
  m_Hall_brought : Meth K (He.ga K "Hall") "brought" (He.ma K (He.ga K "Hall") "brought")
  m_Hall_has_part : Meth K (He.ga K "Hall") "has_part" (He.ma K (He.ga K "Hall") "has_part")
  m_Hall_bring : Meth K (He.ga K "Hall") "bring" (He.ma K (He.ga K "Hall") "bring")
  a_Hall_layouts : NoAttr K (He.ga K "Hall") "layouts"
  a_Hall_lying : NoAttr K (He.ga K "Hall") "lying"
  a_Hall_moved : NoAttr K (He.ga K "Hall") "moved"
  a_Hall_ways : NoAttr K (He.ga K "Hall") "ways"
  F_Hall_init : FnP K "__init__" "Hall.__init__" s_Hall_init (He.ma K (He.ga K "Hall") "__init__") (fdOf K d_Hall_init)
  F_Hall_look : FnP K "look" "Hall.look" s_Hall_look (He.ma K (He.ga K "Hall") "look") (fdOf K d_Hall_look)
  F_Hall_there : FnP K "there" "Hall.there" s_Hall_there (He.ma K (He.ga K "Hall") "there") (fdOf K d_Hall_there)
  F_Hall_cells : FnP K "cells" "Hall.cells" s_Hall_cells (He.ma K (He.ga K "Hall") "cells") (fdOf K d_Hall_cells)
  F_Hall_brought : FnP K "brought" "Hall.brought" s_Hall_brought (He.ma K (He.ga K "Hall") "brought") (fdOf K d_Hall_brought)
  F_Hall_has_part : FnP K "has_part" "Hall.has_part" s_Hall_has_part (He.ma K (He.ga K "Hall") "has_part") (fdOf K d_Hall_has_part)
  F_Hall_bring : FnP K "bring" "Hall.bring" s_Hall_bring (He.ma K (He.ga K "Hall") "bring") (fdOf K d_Hall_bring)
  c_RoomRun : Cls K (He.ga K "RoomRun")
  k_RoomRun : Mk K (He.ga K "RoomRun") (He.ma K (He.ga K "RoomRun") "__init__")
  m_RoomRun_begin : Meth K (He.ga K "RoomRun") "begin" (He.ma K (He.ga K "RoomRun") "begin")
  m_RoomRun_enter : Meth K (He.ga K "RoomRun") "enter" (He.ma K (He.ga K "RoomRun") "enter")
  m_RoomRun_come_back : Meth K (He.ga K "RoomRun") "come_back" (He.ma K (He.ga K "RoomRun") "come_back")
  m_RoomRun_go_on : Meth K (He.ga K "RoomRun") "go_on" (He.ma K (He.ga K "RoomRun") "go_on")
  m_RoomRun_worth : Meth K (He.ga K "RoomRun") "worth" (He.ma K (He.ga K "RoomRun") "worth")
  m_RoomRun_say : Meth K (He.ga K "RoomRun") "say" (He.ma K (He.ga K "RoomRun") "say")
  m_RoomRun_call : Meth K (He.ga K "RoomRun") "call" (He.ma K (He.ga K "RoomRun") "call")
  a_RoomRun_ahead : NoAttr K (He.ga K "RoomRun") "ahead"
  a_RoomRun_back : NoAttr K (He.ga K "RoomRun") "back"
  a_RoomRun_bodies : NoAttr K (He.ga K "RoomRun") "bodies"
  a_RoomRun_calls : NoAttr K (He.ga K "RoomRun") "calls"
  a_RoomRun_hall : NoAttr K (He.ga K "RoomRun") "hall"
  a_RoomRun_looks : NoAttr K (He.ga K "RoomRun") "looks"
  a_RoomRun_others : NoAttr K (He.ga K "RoomRun") "others"
  a_RoomRun_row : NoAttr K (He.ga K "RoomRun") "row"
  a_RoomRun_said : NoAttr K (He.ga K "RoomRun") "said"
  a_RoomRun_told : NoAttr K (He.ga K "RoomRun") "told"
  F_RoomRun_init : FnP K "__init__" "RoomRun.__init__" s_RoomRun_init (He.ma K (He.ga K "RoomRun") "__init__") (fdOf K d_RoomRun_init)
  e_RoomRun_begin : Ov.fnC K d_RoomRun_begin.at_ = Ov.valC d_RoomRun_begin
  e_RoomRun_enter : Ov.fnC K d_RoomRun_enter.at_ = Ov.valC d_RoomRun_enter
  e_RoomRun_come_back : Ov.fnC K d_RoomRun_come_back.at_ = Ov.valC d_RoomRun_come_back
  F_RoomRun_go_on : FnP K "go_on" "RoomRun.go_on" s_RoomRun_go_on (He.ma K (He.ga K "RoomRun") "go_on") (fdOf K d_RoomRun_go_on)
  x_HallError : PySem.W.excIn K (He.ga K "HallError") He.veBase "ValueError.__new__" = true ∧ PySem.W.keepIn K (.ref (He.ga K "HallError")) = true ∧ PySem.W.subIn K (.ref (He.ga K "HallError")) (.type "BaseException") = some true ∧ PySem.W.typeIn K (.ref (He.ga K "HallError")) = some (.type "type")
  x_BadNumber : PySem.W.excIn K (He.ga K "BadNumber") He.veBase "ValueError.__new__" = true ∧ PySem.W.keepIn K (.ref (He.ga K "BadNumber")) = true ∧ PySem.W.subIn K (.ref (He.ga K "BadNumber")) (.type "BaseException") = some true ∧ PySem.W.typeIn K (.ref (He.ga K "BadNumber")) = some (.type "type")
  x_BadTree : PySem.W.excIn K (He.ga K "BadTree") He.veBase "ValueError.__new__" = true ∧ PySem.W.keepIn K (.ref (He.ga K "BadTree")) = true ∧ PySem.W.subIn K (.ref (He.ga K "BadTree")) (.type "BaseException") = some true ∧ PySem.W.typeIn K (.ref (He.ga K "BadTree")) = some (.type "type")
  x_BadRoom : PySem.W.excIn K (He.ga K "BadRoom") He.veBase "ValueError.__new__" = true ∧ PySem.W.keepIn K (.ref (He.ga K "BadRoom")) = true ∧ PySem.W.subIn K (.ref (He.ga K "BadRoom")) (.type "BaseException") = some true ∧ PySem.W.typeIn K (.ref (He.ga K "BadRoom")) = some (.type "type")
  x_BadFunction : PySem.W.excIn K (He.ga K "BadFunction") He.veBase "ValueError.__new__" = true ∧ PySem.W.keepIn K (.ref (He.ga K "BadFunction")) = true ∧ PySem.W.subIn K (.ref (He.ga K "BadFunction")) (.type "BaseException") = some true ∧ PySem.W.typeIn K (.ref (He.ga K "BadFunction")) = some (.type "type")
  x_BadPlace : PySem.W.excIn K (He.ga K "BadPlace") He.veBase "ValueError.__new__" = true ∧ PySem.W.keepIn K (.ref (He.ga K "BadPlace")) = true ∧ PySem.W.subIn K (.ref (He.ga K "BadPlace")) (.type "BaseException") = some true ∧ PySem.W.typeIn K (.ref (He.ga K "BadPlace")) = some (.type "type")
  e_HallError_HallError : PySem.W.exmOne K (.ref (He.ga K "HallError")) (.ref (He.ga K "HallError")) = some true
  e_BadNumber_BadNumber : PySem.W.exmOne K (.ref (He.ga K "BadNumber")) (.ref (He.ga K "BadNumber")) = some true
  e_BadNumber_HallError : PySem.W.exmOne K (.ref (He.ga K "BadNumber")) (.ref (He.ga K "HallError")) = some true
  e_BadTree_BadTree : PySem.W.exmOne K (.ref (He.ga K "BadTree")) (.ref (He.ga K "BadTree")) = some true
  e_BadTree_HallError : PySem.W.exmOne K (.ref (He.ga K "BadTree")) (.ref (He.ga K "HallError")) = some true
  e_BadRoom_BadRoom : PySem.W.exmOne K (.ref (He.ga K "BadRoom")) (.ref (He.ga K "BadRoom")) = some true
  e_BadRoom_HallError : PySem.W.exmOne K (.ref (He.ga K "BadRoom")) (.ref (He.ga K "HallError")) = some true
  e_BadFunction_BadFunction : PySem.W.exmOne K (.ref (He.ga K "BadFunction")) (.ref (He.ga K "BadFunction")) = some true
  e_BadFunction_HallError : PySem.W.exmOne K (.ref (He.ga K "BadFunction")) (.ref (He.ga K "HallError")) = some true
  e_BadPlace_BadPlace : PySem.W.exmOne K (.ref (He.ga K "BadPlace")) (.ref (He.ga K "BadPlace")) = some true
  e_BadPlace_HallError : PySem.W.exmOne K (.ref (He.ga K "BadPlace")) (.ref (He.ga K "HallError")) = some true
  kd_ARMS : ∃ es n, KDict K w (He.ga K "ARMS") es n
  v_ARMS : He.valsB K (He.ga K "ARMS") kv_ARMS = true
  m_ARMS : (miss_ARMS.all fun x => He.eqO (PySem.W.nsIn K (He.ga K "ARMS") x) (some none)) = true
  kd_GIVEN : ∃ es n, KDict K w (He.ga K "GIVEN") es n
  v_GIVEN : He.valsB K (He.ga K "GIVEN") kv_GIVEN = true
  m_GIVEN : (miss_GIVEN.all fun x => He.eqO (PySem.W.nsIn K (He.ga K "GIVEN") x) (some none)) = true
  sup_RoomRun_begin : Ov.supB K PySem.Challenge.pw_overlayhall_k18_whole_bounds_of_runs.main.file (He.ga K "RoomRun") (He.ma K (He.ga K "RoomRun") "begin") "RoomRun.begin" = true
  spm_RoomRun_begin : Ov.supMB K (He.ga K "RoomRun") (He.ga K "RoomRun") "begin" (He.ma K (He.ga K "Run") "begin") = true
  sup_RoomRun_enter : Ov.supB K PySem.Challenge.pw_overlayhall_k18_whole_bounds_of_runs.main.file (He.ga K "RoomRun") (He.ma K (He.ga K "RoomRun") "enter") "RoomRun.enter" = true
  spm_RoomRun_enter : Ov.supMB K (He.ga K "RoomRun") (He.ga K "RoomRun") "enter" (He.ma K (He.ga K "Run") "enter") = true
  sup_RoomRun_come_back : Ov.supB K PySem.Challenge.pw_overlayhall_k18_whole_bounds_of_runs.main.file (He.ga K "RoomRun") (He.ma K (He.ga K "RoomRun") "come_back") "RoomRun.come_back" = true
  spm_RoomRun_come_back : Ov.supMB K (He.ga K "RoomRun") (He.ga K "RoomRun") "come_back" (He.ma K (He.ga K "Run") "come_back") = true
  inh_RoomRun_worth : (He.ma K (He.ga K "RoomRun") "worth") = (He.ma K (He.ga K "Run") "worth")
  inh_RoomRun_say : (He.ma K (He.ga K "RoomRun") "say") = (He.ma K (He.ga K "Run") "say")
  inh_RoomRun_call : (He.ma K (He.ga K "RoomRun") "call") = (He.ma K (He.ga K "Run") "call")
  unb_RoomRun_init : Ov.unbB K (He.ga K "Run") "__init__" (He.ma K (He.ga K "Run") "__init__") = true
  flt : PySem.FltX.FltTxt K mg (He.ga K "Fault") (He.ma K (He.ga K "Fault") "__init__")
theorem Txt.of {w : World} {K : PySem.W.Frag} {h : Heap} {mg : Str → Option Value} (X : K.In h) (G : h.Ns mainGlobals mg) (c : He.SaysX fa fn ts tf ex w h K) (z : sf.map (fun d => Ov.fnC K d.at_) = sf.map Ov.valC) : Txt w K mg := by
  have e := c.more
  unfold ex at e
  simp only [Bool.and_eq_true] at e
  exact ⟨He.glo_ok X G (c.t.d.fact 0),
    He.glo_ok X G (c.t.d.fact 1),
    He.glo_ok X G (c.t.d.fact 2),
    He.glo_ok X G (c.t.d.fact 3),
    He.glo_ok X G (c.t.d.fact 4),
    He.glo_ok X G (c.t.d.fact 5),
    He.glo_ok X G (c.t.d.fact 6),
    He.glo_ok X G (c.t.d.fact 7),
    He.glo_ok X G (c.t.d.fact 8),
    He.glo_ok X G (c.t.d.fact 9),
    He.glo_ok X G (c.t.d.fact 10),
    He.glo_ok X G (c.t.d.fact 11),
    He.glo_ok X G (c.t.d.fact 12),
    He.glo_ok X G (c.t.d.fact 13),
    He.glo_ok X G (c.t.d.fact 14),
    He.glo_ok X G (c.t.d.fact 15),
    He.glo_ok X G (c.t.d.fact 16),
    He.glo_ok X G (c.t.d.fact 17),
    He.glo_ok X G (c.t.d.fact 18),
    He.glo_ok X G (c.t.d.fact 19),
    He.glo_ok X G (c.t.d.fact 20),
    He.glo_ok X G (c.t.d.fact 21),
    He.glo_ok X G (c.t.d.fact 22),
    He.glo_ok X G (c.t.d.fact 23),
    He.glo_ok X G (c.t.d.fact 24),
    He.glo_ok X G (c.t.d.fact 25),
    He.glo_ok X G (c.t.d.fact 26),
    He.glo_ok X G (c.t.d.fact 27),
    He.glo_ok X G (c.t.d.fact 28),
    He.glo_ok X G (c.t.d.fact 29),
    He.glo_ok X G (c.t.d.fact 30),
    He.glo_ok X G (c.t.d.fact 31),
    He.glo_ok X G (c.t.d.fact 32),
    He.glo_ok X G (c.t.d.fact 33),
    He.glo_ok X G (c.t.d.fact 34),
    He.glo_ok X G (c.t.d.fact 35),
    He.glo_ok X G (c.t.d.fact 36),
    He.glo_ok X G (c.t.d.fact 37),
    He.glo_ok X G (c.t.d.fact 38),
    He.glo_ok X G (c.t.d.fact 39),
    He.glo_ok X G (c.t.d.fact 40),
    He.glo_ok X G (c.t.d.fact 41),
    He.glo_ok X G (c.t.d.fact 42),
    He.glo_ok X G (c.t.d.fact 43),
    He.glo_ok X G (c.t.d.fact 44),
    He.glo_ok X G (c.t.d.fact 45),
    He.glo_ok X G (c.t.d.fact 46),
    He.glo_ok X G (c.t.d.fact 47),
    He.glo_ok X G (c.t.d.fact 48),
    He.glo_ok X G (c.t.d.fact 49),
    He.glo_ok X G (c.t.d.fact 50),
    He.glo_ok X G (c.t.d.fact 51),
    He.glo_ok X G (c.t.d.fact 52),
    He.glo_ok X G (c.t.d.fact 53),
    He.glo_ok X G (c.t.d.fact 54),
    He.glo_ok X G (c.t.d.fact 55),
    He.glo_ok X G (c.t.d.fact 56),
    He.glo_ok X G (c.t.d.fact 57),
    He.glo_ok X G (c.t.d.fact 58),
    He.free_ok X G (c.t.d.fact 59),
    He.free_ok X G (c.t.d.fact 60),
    He.free_ok X G (c.t.d.fact 61),
    He.free_ok X G (c.t.d.fact 62),
    He.free_ok X G (c.t.d.fact 63),
    He.free_ok X G (c.t.d.fact 64),
    He.free_ok X G (c.t.d.fact 65),
    He.free_ok X G (c.t.d.fact 66),
    He.free_ok X G (c.t.d.fact 67),
    He.free_ok X G (c.t.d.fact 68),
    He.free_ok X G (c.t.d.fact 69),
    He.free_ok X G (c.t.d.fact 70),
    He.free_ok X G (c.t.d.fact 71),
    He.free_ok X G (c.t.d.fact 72),
    He.free_ok X G (c.t.d.fact 73),
    He.free_ok X G (c.t.d.fact 74),
    He.free_ok X G (c.t.d.fact 75),
    He.int_ok X G (c.t.d.fact 76),
    He.int_ok X G (c.t.d.fact 77),
    He.int_ok X G (c.t.d.fact 78),
    He.int_ok X G (c.t.d.fact 79),
    He.int_ok X G (c.t.d.fact 80),
    He.int_ok X G (c.t.d.fact 81),
    He.int_ok X G (c.t.d.fact 82),
    He.int_ok X G (c.t.d.fact 83),
    He.int_ok X G (c.t.d.fact 84),
    He.int_ok X G (c.t.d.fact 85),
    (c.t.d.def_ 0 (d := d_between)).elim fun _ F => fdOf_eq F,
    (c.t.d.def_ 1 (d := d_given_of)).elim fun _ F => fdOf_eq F,
    (c.t.d.def_ 2 (d := d_arms_of)).elim fun _ F => fdOf_eq F,
    (c.t.d.def_ 3 (d := d_words_of)).elim fun _ F => fdOf_eq F,
    (c.t.d.def_ 4 (d := d_add_word)).elim fun _ F => fdOf_eq F,
    (c.t.d.def_ 5 (d := d_check_program)).elim fun _ F => fdOf_eq F,
    (c.t.d.def_ 6 (d := d_check_function)).elim fun _ F => fdOf_eq F,
    (c.t.d.def_ 7 (d := d_function_fits)).elim fun _ F => fdOf_eq F,
    (c.t.d.def_ 8 (d := d_word_fits)).elim fun _ F => fdOf_eq F,
    (c.t.d.def_ 9 (d := d_given_fits)).elim fun _ F => fdOf_eq F,
    (c.t.d.def_ 10 (d := d_numbered)).elim fun _ F => fdOf_eq F,
    (c.t.d.def_ 11 (d := d_check_number)).elim fun _ F => fdOf_eq F,
    (c.t.d.def_ 12 (d := d_number_in)).elim fun _ F => fdOf_eq F,
    (c.t.d.def_ 13 (d := d_end_of_way)).elim fun _ F => fdOf_eq F,
    (c.t.d.def_ 14 (d := d_reckoned)).elim fun _ F => fdOf_eq F,
    (c.t.d.def_ 15 (d := d_run)).elim fun _ F => fdOf_eq F,
    (c.t.d.def_ 16 (d := d_plain_run)).elim fun _ F => fdOf_eq F,
    (c.t.d.def_ 17 (d := d_check_tree)).elim fun _ F => fdOf_eq F,
    (c.t.d.def_ 18 (d := d_parts_fit)).elim fun _ F => fdOf_eq F,
    (c.t.d.def_ 19 (d := d_part_fits)).elim fun _ F => fdOf_eq F,
    (c.t.d.def_ 20 (d := d_rises)).elim fun _ F => fdOf_eq F,
    (c.t.d.def_ 21 (d := d_stands_fit)).elim fun _ F => fdOf_eq F,
    (c.t.d.def_ 22 (d := d_has_end)).elim fun _ F => fdOf_eq F,
    (c.t.d.def_ 23 (d := d_parts_below)).elim fun _ F => fdOf_eq F,
    (c.t.d.def_ 24 (d := d_size_of)).elim fun _ F => fdOf_eq F,
    (c.t.d.def_ 25 (d := d_begins)).elim fun _ F => fdOf_eq F,
    (c.t.d.def_ 26 (d := d_firsts_of)).elim fun _ F => fdOf_eq F,
    (c.t.d.def_ 27 (d := d_end_of)).elim fun _ F => fdOf_eq F,
    (c.t.d.def_ 28 (d := d_way_of)).elim fun _ F => fdOf_eq F,
    (c.t.d.def_ 29 (d := d_check_room)).elim fun _ F => fdOf_eq F,
    (c.t.d.def_ 30 (d := d_layouts)).elim fun _ F => fdOf_eq F,
    (c.t.d.def_ 31 (d := d_run_in)).elim fun _ F => fdOf_eq F,
    (c.t.d.def_ 32 (d := d_room_run)).elim fun _ F => fdOf_eq F,
    (c.t.d.def_ 33 (d := d_check_places)).elim fun _ F => fdOf_eq F,
    (c.t.d.def_ 34 (d := d_calls_at)).elim fun _ F => fdOf_eq F,
    (c.t.d.def_ 35 (d := d_law_mix)).elim fun _ F => fdOf_eq F,
    (c.t.d.def_ 36 (d := d_law_next)).elim fun _ F => fdOf_eq F,
    (c.t.d.def_ 37 (d := d_law_alike)).elim fun _ F => fdOf_eq F,
    (c.t.d.def_ 38 (d := d_law_many)).elim fun _ F => fdOf_eq F,
    (c.t.d.def_ 39 (d := d_law_all)).elim fun _ F => fdOf_eq F,
    (c.t.d.def_ 40 (d := d_law_ends)).elim fun _ F => fdOf_eq F,
    (c.t.d.def_ 41 (d := d_law_sum)).elim fun _ F => fdOf_eq F,
    (c.t.d.def_ 42 (d := d_law_both_good)).elim fun _ F => fdOf_eq F,
    (c.t.d.def_ 43 (d := d_law)).elim fun _ F => fdOf_eq F,
    He.cls_ok (c.t.d.fact 86),
    He.mkr_ok (c.t.d.fact 87),
    He.meth_ok (c.t.d.fact 88),
    He.meth_ok (c.t.d.fact 89),
    He.meth_ok (c.t.d.fact 90),
    He.meth_ok (c.t.d.fact 91),
    He.meth_ok (c.t.d.fact 92),
    He.meth_ok (c.t.d.fact 93),
    He.noat_ok (c.t.d.fact 94),
    He.noat_ok (c.t.d.fact 95),
    He.noat_ok (c.t.d.fact 96),
    He.noat_ok (c.t.d.fact 97),
    He.noat_ok (c.t.d.fact 98),
    He.noat_ok (c.t.d.fact 99),
    (c.t.d.def_ 46 (d := d_Run_init)).elim fun _ F => fdOf_eq F,
    (c.t.d.def_ 47 (d := d_Run_begin)).elim fun _ F => fdOf_eq F,
    (c.t.d.def_ 48 (d := d_Run_worth)).elim fun _ F => fdOf_eq F,
    (c.t.d.def_ 49 (d := d_Run_say)).elim fun _ F => fdOf_eq F,
    (c.t.d.def_ 50 (d := d_Run_call)).elim fun _ F => fdOf_eq F,
    (c.t.d.def_ 51 (d := d_Run_enter)).elim fun _ F => fdOf_eq F,
    (c.t.d.def_ 52 (d := d_Run_come_back)).elim fun _ F => fdOf_eq F,
    He.cls_ok (c.t.d.fact 100),
    He.mkr_ok (c.t.d.fact 101),
    He.meth_ok (c.t.d.fact 102),
    He.meth_ok (c.t.d.fact 103),
    He.meth_ok (c.t.d.fact 104),
    He.meth_ok (c.t.d.fact 105),
    He.meth_ok (c.t.d.fact 106),
    He.meth_ok (c.t.d.fact 107),
    He.noat_ok (c.t.d.fact 108),
    He.noat_ok (c.t.d.fact 109),
    He.noat_ok (c.t.d.fact 110),
    He.noat_ok (c.t.d.fact 111),
    (c.t.d.def_ 53 (d := d_Hall_init)).elim fun _ F => fdOf_eq F,
    (c.t.d.def_ 54 (d := d_Hall_look)).elim fun _ F => fdOf_eq F,
    (c.t.d.def_ 55 (d := d_Hall_there)).elim fun _ F => fdOf_eq F,
    (c.t.d.def_ 56 (d := d_Hall_cells)).elim fun _ F => fdOf_eq F,
    (c.t.d.def_ 57 (d := d_Hall_brought)).elim fun _ F => fdOf_eq F,
    (c.t.d.def_ 58 (d := d_Hall_has_part)).elim fun _ F => fdOf_eq F,
    (c.t.d.def_ 59 (d := d_Hall_bring)).elim fun _ F => fdOf_eq F,
    He.cls_ok (c.t.d.fact 112),
    He.mkr_ok (c.t.d.fact 113),
    He.meth_ok (c.t.d.fact 114),
    He.meth_ok (c.t.d.fact 115),
    He.meth_ok (c.t.d.fact 116),
    He.meth_ok (c.t.d.fact 117),
    He.meth_ok (c.t.d.fact 118),
    He.meth_ok (c.t.d.fact 119),
    He.meth_ok (c.t.d.fact 120),
    He.noat_ok (c.t.d.fact 121),
    He.noat_ok (c.t.d.fact 122),
    He.noat_ok (c.t.d.fact 123),
    He.noat_ok (c.t.d.fact 124),
    He.noat_ok (c.t.d.fact 125),
    He.noat_ok (c.t.d.fact 126),
    He.noat_ok (c.t.d.fact 127),
    He.noat_ok (c.t.d.fact 128),
    He.noat_ok (c.t.d.fact 129),
    He.noat_ok (c.t.d.fact 130),
    (c.t.d.def_ 61 (d := d_RoomRun_init)).elim fun _ F => fdOf_eq F,
    Ov.fnC_at z 0,
    Ov.fnC_at z 1,
    Ov.fnC_at z 2,
    (c.t.d.def_ 62 (d := d_RoomRun_go_on)).elim fun _ F => fdOf_eq F,
    He.exc_ok (c.t.d.fact 131),
    He.exc_ok (c.t.d.fact 132),
    He.exc_ok (c.t.d.fact 133),
    He.exc_ok (c.t.d.fact 134),
    He.exc_ok (c.t.d.fact 135),
    He.exc_ok (c.t.d.fact 136),
    He.exm_ok (c.t.d.fact 137),
    He.exm_ok (c.t.d.fact 138),
    He.exm_ok (c.t.d.fact 139),
    He.exm_ok (c.t.d.fact 140),
    He.exm_ok (c.t.d.fact 141),
    He.exm_ok (c.t.d.fact 142),
    He.exm_ok (c.t.d.fact 143),
    He.exm_ok (c.t.d.fact 144),
    He.exm_ok (c.t.d.fact 145),
    He.exm_ok (c.t.d.fact 146),
    He.exm_ok (c.t.d.fact 147),
    c.t.tab 0,
    e.1.1.1.1.1.1.1.1.1.1.1.1.1,
    rfl,
    c.t.tab 1,
    e.1.1.1.1.1.1.1.1.1.1.1.1.2,
    e.1.1.1.1.1.1.1.1.1.1.1.2,
    e.1.1.1.1.1.1.1.1.1.1.2,
    e.1.1.1.1.1.1.1.1.1.2,
    e.1.1.1.1.1.1.1.1.2,
    e.1.1.1.1.1.1.1.2,
    e.1.1.1.1.1.1.2,
    e.1.1.1.1.1.2,
    of_decide_eq_true e.1.1.1.1.2,
    of_decide_eq_true e.1.1.1.2,
    of_decide_eq_true e.1.1.2,
    e.1.2,
    Ov.flt_ok (He.glo_ok X G (c.t.d.fact 21)) (e.2) (by
      obtain ⟨fd, F⟩ := c.t.d.def_ 45 (d := d_Fault_init)
      obtain ⟨oc, od, dV, kV, doc, pm, an, cdv, ct, osl, rfl, lk, cd, hd, hk⟩ := F.ex
      obtain ⟨z1, z2⟩ := Ov.fnNone_ok lk (Ov.fltB_none (e.2))
      change dV = .none at z1
      change kV = .none at z2
      subst z1 z2
      exact ⟨oc, od, doc, pm, an, cdv, ct, osl, _, _, _, _, _, _, lk, cd⟩)⟩
theorem Txt.kp_between {w : World} {K : PySem.W.Frag} {mg : Str → Option Value} (T : Txt w K mg) : PySem.W.keepIn K (.ref (He.ga K "between")) = true := T.F_between.kp
theorem Txt.b_between {w : World} {K : PySem.W.Frag} {mg : Str → Option Value} (T : Txt w K mg) : Binds K (fdOf K d_between) ["value", "low", "high"] [] := T.F_between.bindsN fun _ _ _ _ _ _ us hl => match us, hl with | [_, _, _], _ => rfl
theorem Txt.kp_given_of {w : World} {K : PySem.W.Frag} {mg : Str → Option Value} (T : Txt w K mg) : PySem.W.keepIn K (.ref (He.ga K "given_of")) = true := T.F_given_of.kp
theorem Txt.b_given_of {w : World} {K : PySem.W.Frag} {mg : Str → Option Value} (T : Txt w K mg) : Binds K (fdOf K d_given_of) ["word"] [] := T.F_given_of.bindsN fun _ _ _ _ _ _ us hl => match us, hl with | [_], _ => rfl
theorem Txt.kp_arms_of {w : World} {K : PySem.W.Frag} {mg : Str → Option Value} (T : Txt w K mg) : PySem.W.keepIn K (.ref (He.ga K "arms_of")) = true := T.F_arms_of.kp
theorem Txt.b_arms_of {w : World} {K : PySem.W.Frag} {mg : Str → Option Value} (T : Txt w K mg) : Binds K (fdOf K d_arms_of) ["word"] [] := T.F_arms_of.bindsN fun _ _ _ _ _ _ us hl => match us, hl with | [_], _ => rfl
theorem Txt.kp_words_of {w : World} {K : PySem.W.Frag} {mg : Str → Option Value} (T : Txt w K mg) : PySem.W.keepIn K (.ref (He.ga K "words_of")) = true := T.F_words_of.kp
theorem Txt.b_words_of {w : World} {K : PySem.W.Frag} {mg : Str → Option Value} (T : Txt w K mg) : Binds K (fdOf K d_words_of) ["body"] [] := T.F_words_of.bindsN fun _ _ _ _ _ _ us hl => match us, hl with | [_], _ => rfl
theorem Txt.kp_add_word {w : World} {K : PySem.W.Frag} {mg : Str → Option Value} (T : Txt w K mg) : PySem.W.keepIn K (.ref (He.ga K "add_word")) = true := T.F_add_word.kp
theorem Txt.b_add_word {w : World} {K : PySem.W.Frag} {mg : Str → Option Value} (T : Txt w K mg) : Binds K (fdOf K d_add_word) ["rows", "word"] [] := T.F_add_word.bindsN fun _ _ _ _ _ _ us hl => match us, hl with | [_, _], _ => rfl
theorem Txt.kp_check_program {w : World} {K : PySem.W.Frag} {mg : Str → Option Value} (T : Txt w K mg) : PySem.W.keepIn K (.ref (He.ga K "check_program")) = true := T.F_check_program.kp
theorem Txt.b_check_program {w : World} {K : PySem.W.Frag} {mg : Str → Option Value} (T : Txt w K mg) : Binds K (fdOf K d_check_program) ["program"] [] := T.F_check_program.bindsN fun _ _ _ _ _ _ us hl => match us, hl with | [_], _ => rfl
theorem Txt.kp_check_function {w : World} {K : PySem.W.Frag} {mg : Str → Option Value} (T : Txt w K mg) : PySem.W.keepIn K (.ref (He.ga K "check_function")) = true := T.F_check_function.kp
theorem Txt.b_check_function {w : World} {K : PySem.W.Frag} {mg : Str → Option Value} (T : Txt w K mg) : Binds K (fdOf K d_check_function) ["function", "functions"] [] := T.F_check_function.bindsN fun _ _ _ _ _ _ us hl => match us, hl with | [_, _], _ => rfl
theorem Txt.kp_function_fits {w : World} {K : PySem.W.Frag} {mg : Str → Option Value} (T : Txt w K mg) : PySem.W.keepIn K (.ref (He.ga K "function_fits")) = true := T.F_function_fits.kp
theorem Txt.b_function_fits {w : World} {K : PySem.W.Frag} {mg : Str → Option Value} (T : Txt w K mg) : Binds K (fdOf K d_function_fits) ["function", "functions"] [] := T.F_function_fits.bindsN fun _ _ _ _ _ _ us hl => match us, hl with | [_, _], _ => rfl
theorem Txt.kp_word_fits {w : World} {K : PySem.W.Frag} {mg : Str → Option Value} (T : Txt w K mg) : PySem.W.keepIn K (.ref (He.ga K "word_fits")) = true := T.F_word_fits.kp
theorem Txt.b_word_fits {w : World} {K : PySem.W.Frag} {mg : Str → Option Value} (T : Txt w K mg) : Binds K (fdOf K d_word_fits) ["word", "functions", "around"] [] := T.F_word_fits.bindsN fun _ _ _ _ _ _ us hl => match us, hl with | [_, _, _], _ => rfl
theorem Txt.kp_given_fits {w : World} {K : PySem.W.Frag} {mg : Str → Option Value} (T : Txt w K mg) : PySem.W.keepIn K (.ref (He.ga K "given_fits")) = true := T.F_given_fits.kp
theorem Txt.b_given_fits {w : World} {K : PySem.W.Frag} {mg : Str → Option Value} (T : Txt w K mg) : Binds K (fdOf K d_given_fits) ["kind", "given", "functions"] [] := T.F_given_fits.bindsN fun _ _ _ _ _ _ us hl => match us, hl with | [_, _, _], _ => rfl
theorem Txt.kp_numbered {w : World} {K : PySem.W.Frag} {mg : Str → Option Value} (T : Txt w K mg) : PySem.W.keepIn K (.ref (He.ga K "numbered")) = true := T.F_numbered.kp
theorem Txt.b_numbered {w : World} {K : PySem.W.Frag} {mg : Str → Option Value} (T : Txt w K mg) : Binds K (fdOf K d_numbered) ["program"] [] := T.F_numbered.bindsN fun _ _ _ _ _ _ us hl => match us, hl with | [_], _ => rfl
theorem Txt.kp_check_number {w : World} {K : PySem.W.Frag} {mg : Str → Option Value} (T : Txt w K mg) : PySem.W.keepIn K (.ref (He.ga K "check_number")) = true := T.F_check_number.kp
theorem Txt.b_check_number {w : World} {K : PySem.W.Frag} {mg : Str → Option Value} (T : Txt w K mg) : Binds K (fdOf K d_check_number) ["number"] [] := T.F_check_number.bindsN fun _ _ _ _ _ _ us hl => match us, hl with | [_], _ => rfl
theorem Txt.kp_number_in {w : World} {K : PySem.W.Frag} {mg : Str → Option Value} (T : Txt w K mg) : PySem.W.keepIn K (.ref (He.ga K "number_in")) = true := T.F_number_in.kp
theorem Txt.b_number_in {w : World} {K : PySem.W.Frag} {mg : Str → Option Value} (T : Txt w K mg) : Binds K (fdOf K d_number_in) ["worth"] [] := T.F_number_in.bindsN fun _ _ _ _ _ _ us hl => match us, hl with | [_], _ => rfl
theorem Txt.kp_end_of_way {w : World} {K : PySem.W.Frag} {mg : Str → Option Value} (T : Txt w K mg) : PySem.W.keepIn K (.ref (He.ga K "end_of_way")) = true := T.F_end_of_way.kp
theorem Txt.b_end_of_way {w : World} {K : PySem.W.Frag} {mg : Str → Option Value} (T : Txt w K mg) : Binds K (fdOf K d_end_of_way) ["worth"] [] := T.F_end_of_way.bindsN fun _ _ _ _ _ _ us hl => match us, hl with | [_], _ => rfl
theorem Txt.kp_reckoned {w : World} {K : PySem.W.Frag} {mg : Str → Option Value} (T : Txt w K mg) : PySem.W.keepIn K (.ref (He.ga K "reckoned")) = true := T.F_reckoned.kp
theorem Txt.b_reckoned {w : World} {K : PySem.W.Frag} {mg : Str → Option Value} (T : Txt w K mg) : Binds K (fdOf K d_reckoned) ["name", "left", "right"] [] := T.F_reckoned.bindsN fun _ _ _ _ _ _ us hl => match us, hl with | [_, _, _], _ => rfl
theorem Txt.kp_run {w : World} {K : PySem.W.Frag} {mg : Str → Option Value} (T : Txt w K mg) : PySem.W.keepIn K (.ref (He.ga K "run")) = true := T.F_run.kp
theorem Txt.b_run {w : World} {K : PySem.W.Frag} {mg : Str → Option Value} (T : Txt w K mg) : Binds K (fdOf K d_run) ["program", "number"] [] := T.F_run.bindsN fun _ _ _ _ _ _ us hl => match us, hl with | [_, _], _ => rfl
theorem Txt.kp_plain_run {w : World} {K : PySem.W.Frag} {mg : Str → Option Value} (T : Txt w K mg) : PySem.W.keepIn K (.ref (He.ga K "plain_run")) = true := T.F_plain_run.kp
theorem Txt.b_plain_run {w : World} {K : PySem.W.Frag} {mg : Str → Option Value} (T : Txt w K mg) : Binds K (fdOf K d_plain_run) ["program", "number"] [] := T.F_plain_run.bindsN fun _ _ _ _ _ _ us hl => match us, hl with | [_, _], _ => rfl
theorem Txt.kp_check_tree {w : World} {K : PySem.W.Frag} {mg : Str → Option Value} (T : Txt w K mg) : PySem.W.keepIn K (.ref (He.ga K "check_tree")) = true := T.F_check_tree.kp
theorem Txt.b_check_tree {w : World} {K : PySem.W.Frag} {mg : Str → Option Value} (T : Txt w K mg) : Binds K (fdOf K d_check_tree) ["program", "tree"] [] := T.F_check_tree.bindsN fun _ _ _ _ _ _ us hl => match us, hl with | [_, _], _ => rfl
theorem Txt.kp_parts_fit {w : World} {K : PySem.W.Frag} {mg : Str → Option Value} (T : Txt w K mg) : PySem.W.keepIn K (.ref (He.ga K "parts_fit")) = true := T.F_parts_fit.kp
theorem Txt.b_parts_fit {w : World} {K : PySem.W.Frag} {mg : Str → Option Value} (T : Txt w K mg) : Binds K (fdOf K d_parts_fit) ["parts", "functions"] [] := T.F_parts_fit.bindsN fun _ _ _ _ _ _ us hl => match us, hl with | [_, _], _ => rfl
theorem Txt.kp_part_fits {w : World} {K : PySem.W.Frag} {mg : Str → Option Value} (T : Txt w K mg) : PySem.W.keepIn K (.ref (He.ga K "part_fits")) = true := T.F_part_fits.kp
theorem Txt.b_part_fits {w : World} {K : PySem.W.Frag} {mg : Str → Option Value} (T : Txt w K mg) : Binds K (fdOf K d_part_fits) ["part", "functions"] [] := T.F_part_fits.bindsN fun _ _ _ _ _ _ us hl => match us, hl with | [_, _], _ => rfl
theorem Txt.kp_rises {w : World} {K : PySem.W.Frag} {mg : Str → Option Value} (T : Txt w K mg) : PySem.W.keepIn K (.ref (He.ga K "rises")) = true := T.F_rises.kp
theorem Txt.b_rises {w : World} {K : PySem.W.Frag} {mg : Str → Option Value} (T : Txt w K mg) : Binds K (fdOf K d_rises) ["row"] [] := T.F_rises.bindsN fun _ _ _ _ _ _ us hl => match us, hl with | [_], _ => rfl
theorem Txt.kp_stands_fit {w : World} {K : PySem.W.Frag} {mg : Str → Option Value} (T : Txt w K mg) : PySem.W.keepIn K (.ref (He.ga K "stands_fit")) = true := T.F_stands_fit.kp
theorem Txt.b_stands_fit {w : World} {K : PySem.W.Frag} {mg : Str → Option Value} (T : Txt w K mg) : Binds K (fdOf K d_stands_fit) ["stands", "parts"] [] := T.F_stands_fit.bindsN fun _ _ _ _ _ _ us hl => match us, hl with | [_, _], _ => rfl
theorem Txt.kp_has_end {w : World} {K : PySem.W.Frag} {mg : Str → Option Value} (T : Txt w K mg) : PySem.W.keepIn K (.ref (He.ga K "has_end")) = true := T.F_has_end.kp
theorem Txt.b_has_end {w : World} {K : PySem.W.Frag} {mg : Str → Option Value} (T : Txt w K mg) : Binds K (fdOf K d_has_end) ["stands", "part"] [] := T.F_has_end.bindsN fun _ _ _ _ _ _ us hl => match us, hl with | [_, _], _ => rfl
theorem Txt.kp_parts_below {w : World} {K : PySem.W.Frag} {mg : Str → Option Value} (T : Txt w K mg) : PySem.W.keepIn K (.ref (He.ga K "parts_below")) = true := T.F_parts_below.kp
theorem Txt.b_parts_below {w : World} {K : PySem.W.Frag} {mg : Str → Option Value} (T : Txt w K mg) : Binds K (fdOf K d_parts_below) ["stands", "part"] [] := T.F_parts_below.bindsN fun _ _ _ _ _ _ us hl => match us, hl with | [_, _], _ => rfl
theorem Txt.kp_size_of {w : World} {K : PySem.W.Frag} {mg : Str → Option Value} (T : Txt w K mg) : PySem.W.keepIn K (.ref (He.ga K "size_of")) = true := T.F_size_of.kp
theorem Txt.b_size_of {w : World} {K : PySem.W.Frag} {mg : Str → Option Value} (T : Txt w K mg) : Binds K (fdOf K d_size_of) ["program", "part"] [] := T.F_size_of.bindsN fun _ _ _ _ _ _ us hl => match us, hl with | [_, _], _ => rfl
theorem Txt.kp_begins {w : World} {K : PySem.W.Frag} {mg : Str → Option Value} (T : Txt w K mg) : PySem.W.keepIn K (.ref (He.ga K "begins")) = true := T.F_begins.kp
theorem Txt.b_begins {w : World} {K : PySem.W.Frag} {mg : Str → Option Value} (T : Txt w K mg) : Binds K (fdOf K d_begins) ["program", "tree"] [] := T.F_begins.bindsN fun _ _ _ _ _ _ us hl => match us, hl with | [_, _], _ => rfl
theorem Txt.kp_firsts_of {w : World} {K : PySem.W.Frag} {mg : Str → Option Value} (T : Txt w K mg) : PySem.W.keepIn K (.ref (He.ga K "firsts_of")) = true := T.F_firsts_of.kp
theorem Txt.b_firsts_of {w : World} {K : PySem.W.Frag} {mg : Str → Option Value} (T : Txt w K mg) : Binds K (fdOf K d_firsts_of) ["program", "tree"] [] := T.F_firsts_of.bindsN fun _ _ _ _ _ _ us hl => match us, hl with | [_, _], _ => rfl
theorem Txt.kp_end_of {w : World} {K : PySem.W.Frag} {mg : Str → Option Value} (T : Txt w K mg) : PySem.W.keepIn K (.ref (He.ga K "end_of")) = true := T.F_end_of.kp
theorem Txt.b_end_of {w : World} {K : PySem.W.Frag} {mg : Str → Option Value} (T : Txt w K mg) : Binds K (fdOf K d_end_of) ["program", "tree"] [] := T.F_end_of.bindsN fun _ _ _ _ _ _ us hl => match us, hl with | [_, _], _ => rfl
theorem Txt.kp_way_of {w : World} {K : PySem.W.Frag} {mg : Str → Option Value} (T : Txt w K mg) : PySem.W.keepIn K (.ref (He.ga K "way_of")) = true := T.F_way_of.kp
theorem Txt.b_way_of {w : World} {K : PySem.W.Frag} {mg : Str → Option Value} (T : Txt w K mg) : Binds K (fdOf K d_way_of) ["tree", "function"] [] := T.F_way_of.bindsN fun _ _ _ _ _ _ us hl => match us, hl with | [_, _], _ => rfl
theorem Txt.kp_check_room {w : World} {K : PySem.W.Frag} {mg : Str → Option Value} (T : Txt w K mg) : PySem.W.keepIn K (.ref (He.ga K "check_room")) = true := T.F_check_room.kp
theorem Txt.b_check_room {w : World} {K : PySem.W.Frag} {mg : Str → Option Value} (T : Txt w K mg) : Binds K (fdOf K d_check_room) ["room"] [] := T.F_check_room.bindsN fun _ _ _ _ _ _ us hl => match us, hl with | [_], _ => rfl
theorem Txt.kp_layouts {w : World} {K : PySem.W.Frag} {mg : Str → Option Value} (T : Txt w K mg) : PySem.W.keepIn K (.ref (He.ga K "layouts")) = true := T.F_layouts.kp
theorem Txt.b_layouts {w : World} {K : PySem.W.Frag} {mg : Str → Option Value} (T : Txt w K mg) : Binds K (fdOf K d_layouts) ["program", "tree"] [] := T.F_layouts.bindsN fun _ _ _ _ _ _ us hl => match us, hl with | [_, _], _ => rfl
theorem Txt.kp_run_in {w : World} {K : PySem.W.Frag} {mg : Str → Option Value} (T : Txt w K mg) : PySem.W.keepIn K (.ref (He.ga K "run_in")) = true := T.F_run_in.kp
theorem Txt.b_run_in {w : World} {K : PySem.W.Frag} {mg : Str → Option Value} (T : Txt w K mg) : Binds K (fdOf K d_run_in) ["program", "tree", "room", "number"] [] := T.F_run_in.bindsN fun _ _ _ _ _ _ us hl => match us, hl with | [_, _, _, _], _ => rfl
theorem Txt.kp_room_run {w : World} {K : PySem.W.Frag} {mg : Str → Option Value} (T : Txt w K mg) : PySem.W.keepIn K (.ref (He.ga K "room_run")) = true := T.F_room_run.kp
theorem Txt.b_room_run {w : World} {K : PySem.W.Frag} {mg : Str → Option Value} (T : Txt w K mg) : Binds K (fdOf K d_room_run) ["program", "tree", "room", "ahead", "back", "number"] [] := T.F_room_run.bindsN fun _ _ _ _ _ _ us hl => match us, hl with | [_, _, _, _, _, _], _ => rfl
theorem Txt.kp_check_places {w : World} {K : PySem.W.Frag} {mg : Str → Option Value} (T : Txt w K mg) : PySem.W.keepIn K (.ref (He.ga K "check_places")) = true := T.F_check_places.kp
theorem Txt.b_check_places {w : World} {K : PySem.W.Frag} {mg : Str → Option Value} (T : Txt w K mg) : Binds K (fdOf K d_check_places) ["program", "left_out"] [] := T.F_check_places.bindsN fun _ _ _ _ _ _ us hl => match us, hl with | [_, _], _ => rfl
theorem Txt.kp_calls_at {w : World} {K : PySem.W.Frag} {mg : Str → Option Value} (T : Txt w K mg) : PySem.W.keepIn K (.ref (He.ga K "calls_at")) = true := T.F_calls_at.kp
theorem Txt.b_calls_at {w : World} {K : PySem.W.Frag} {mg : Str → Option Value} (T : Txt w K mg) : Binds K (fdOf K d_calls_at) ["bodies", "place"] [] := T.F_calls_at.bindsN fun _ _ _ _ _ _ us hl => match us, hl with | [_, _], _ => rfl
theorem Txt.kp_law_mix {w : World} {K : PySem.W.Frag} {mg : Str → Option Value} (T : Txt w K mg) : PySem.W.keepIn K (.ref (He.ga K "_law_mix")) = true := T.F_law_mix.kp
theorem Txt.b_law_mix {w : World} {K : PySem.W.Frag} {mg : Str → Option Value} (T : Txt w K mg) : Binds K (fdOf K d_law_mix) ["_law_script", "_law_seed"] [] := T.F_law_mix.bindsN fun _ _ _ _ _ _ us hl => match us, hl with | [_, _], _ => rfl
theorem Txt.kp_law_next {w : World} {K : PySem.W.Frag} {mg : Str → Option Value} (T : Txt w K mg) : PySem.W.keepIn K (.ref (He.ga K "_law_next")) = true := T.F_law_next.kp
theorem Txt.b_law_next {w : World} {K : PySem.W.Frag} {mg : Str → Option Value} (T : Txt w K mg) : Binds K (fdOf K d_law_next) ["_law_h", "_law_many_here"] [] := T.F_law_next.bindsN fun _ _ _ _ _ _ us hl => match us, hl with | [_, _], _ => rfl
theorem Txt.kp_law_alike {w : World} {K : PySem.W.Frag} {mg : Str → Option Value} (T : Txt w K mg) : PySem.W.keepIn K (.ref (He.ga K "_law_alike")) = true := T.F_law_alike.kp
theorem Txt.b_law_alike {w : World} {K : PySem.W.Frag} {mg : Str → Option Value} (T : Txt w K mg) : Binds K (fdOf K d_law_alike) ["_law_found", "_law_due"] [] := T.F_law_alike.bindsN fun _ _ _ _ _ _ us hl => match us, hl with | [_, _], _ => rfl
theorem Txt.kp_law_many {w : World} {K : PySem.W.Frag} {mg : Str → Option Value} (T : Txt w K mg) : PySem.W.keepIn K (.ref (He.ga K "_law_many")) = true := T.F_law_many.kp
theorem Txt.b_law_many {w : World} {K : PySem.W.Frag} {mg : Str → Option Value} (T : Txt w K mg) : Binds K (fdOf K d_law_many) ["_law_leaf", "_law_many_here"] [] := T.F_law_many.bindsN fun _ _ _ _ _ _ us hl => match us, hl with | [_, _], _ => rfl
theorem Txt.kp_law_all {w : World} {K : PySem.W.Frag} {mg : Str → Option Value} (T : Txt w K mg) : PySem.W.keepIn K (.ref (He.ga K "_law_all")) = true := T.F_law_all.kp
theorem Txt.b_law_all {w : World} {K : PySem.W.Frag} {mg : Str → Option Value} (T : Txt w K mg) : Binds K (fdOf K d_law_all) ["_law_program", "_law_number"] [] := T.F_law_all.bindsN fun _ _ _ _ _ _ us hl => match us, hl with | [_, _], _ => rfl
theorem Txt.kp_law_ends {w : World} {K : PySem.W.Frag} {mg : Str → Option Value} (T : Txt w K mg) : PySem.W.keepIn K (.ref (He.ga K "_law_ends")) = true := T.F_law_ends.kp
theorem Txt.b_law_ends {w : World} {K : PySem.W.Frag} {mg : Str → Option Value} (T : Txt w K mg) : Binds K (fdOf K d_law_ends) ["_law_shallow", "_law_down", "_law_last"] [] := T.F_law_ends.bindsN fun _ _ _ _ _ _ us hl => match us, hl with | [_, _, _], _ => rfl
theorem Txt.kp_law_sum {w : World} {K : PySem.W.Frag} {mg : Str → Option Value} (T : Txt w K mg) : PySem.W.keepIn K (.ref (He.ga K "_law_sum")) = true := T.F_law_sum.kp
theorem Txt.b_law_sum {w : World} {K : PySem.W.Frag} {mg : Str → Option Value} (T : Txt w K mg) : Binds K (fdOf K d_law_sum) ["_law_trees"] [] := T.F_law_sum.bindsN fun _ _ _ _ _ _ us hl => match us, hl with | [_], _ => rfl
theorem Txt.kp_law_both_good {w : World} {K : PySem.W.Frag} {mg : Str → Option Value} (T : Txt w K mg) : PySem.W.keepIn K (.ref (He.ga K "_law_both_good")) = true := T.F_law_both_good.kp
theorem Txt.b_law_both_good {w : World} {K : PySem.W.Frag} {mg : Str → Option Value} (T : Txt w K mg) : Binds K (fdOf K d_law_both_good) ["_law_h"] [] := T.F_law_both_good.bindsN fun _ _ _ _ _ _ us hl => match us, hl with | [_], _ => rfl
theorem Txt.kp_law {w : World} {K : PySem.W.Frag} {mg : Str → Option Value} (T : Txt w K mg) : PySem.W.keepIn K (.ref (He.ga K "law")) = true := T.F_law.kp
theorem Txt.b_law {w : World} {K : PySem.W.Frag} {mg : Str → Option Value} (T : Txt w K mg) : Binds K (fdOf K d_law) ["_law_script"] [] := T.F_law.bindsN fun _ _ _ _ _ _ us hl => match us, hl with | [_], _ => rfl
theorem Txt.b_Run_init {w : World} {K : PySem.W.Frag} {mg : Str → Option Value} (T : Txt w K mg) : Binds K (fdOf K d_Run_init) ["self", "program"] [] := T.F_Run_init.bindsN fun _ _ _ _ _ _ us hl => match us, hl with | [_, _], _ => rfl
theorem Txt.b_Run_begin {w : World} {K : PySem.W.Frag} {mg : Str → Option Value} (T : Txt w K mg) : Binds K (fdOf K d_Run_begin) ["self", "number"] [] := T.F_Run_begin.bindsN fun _ _ _ _ _ _ us hl => match us, hl with | [_, _], _ => rfl
theorem Txt.b_Run_worth {w : World} {K : PySem.W.Frag} {mg : Str → Option Value} (T : Txt w K mg) : Binds K (fdOf K d_Run_worth) ["self", "function", "word", "argument"] [] := T.F_Run_worth.bindsN fun _ _ _ _ _ _ us hl => match us, hl with | [_, _, _, _], _ => rfl
theorem Txt.b_Run_say {w : World} {K : PySem.W.Frag} {mg : Str → Option Value} (T : Txt w K mg) : Binds K (fdOf K d_Run_say) ["self", "worth"] [] := T.F_Run_say.bindsN fun _ _ _ _ _ _ us hl => match us, hl with | [_, _], _ => rfl
theorem Txt.b_Run_call {w : World} {K : PySem.W.Frag} {mg : Str → Option Value} (T : Txt w K mg) : Binds K (fdOf K d_Run_call) ["self", "place", "called", "argument"] [] := T.F_Run_call.bindsN fun _ _ _ _ _ _ us hl => match us, hl with | [_, _, _, _], _ => rfl
theorem Txt.b_Run_enter {w : World} {K : PySem.W.Frag} {mg : Str → Option Value} (T : Txt w K mg) : Binds K (fdOf K d_Run_enter) ["self", "place", "called"] [] := T.F_Run_enter.bindsN fun _ _ _ _ _ _ us hl => match us, hl with | [_, _, _], _ => rfl
theorem Txt.b_Run_come_back {w : World} {K : PySem.W.Frag} {mg : Str → Option Value} (T : Txt w K mg) : Binds K (fdOf K d_Run_come_back) ["self", "place"] [] := T.F_Run_come_back.bindsN fun _ _ _ _ _ _ us hl => match us, hl with | [_, _], _ => rfl
theorem Txt.b_Hall_init {w : World} {K : PySem.W.Frag} {mg : Str → Option Value} (T : Txt w K mg) : Binds K (fdOf K d_Hall_init) ["self", "program", "tree", "room"] [] := T.F_Hall_init.bindsN fun _ _ _ _ _ _ us hl => match us, hl with | [_, _, _, _], _ => rfl
theorem Txt.b_Hall_look {w : World} {K : PySem.W.Frag} {mg : Str → Option Value} (T : Txt w K mg) : Binds K (fdOf K d_Hall_look) ["self", "function"] [] := T.F_Hall_look.bindsN fun _ _ _ _ _ _ us hl => match us, hl with | [_, _], _ => rfl
theorem Txt.b_Hall_there {w : World} {K : PySem.W.Frag} {mg : Str → Option Value} (T : Txt w K mg) : Binds K (fdOf K d_Hall_there) ["self", "function"] [] := T.F_Hall_there.bindsN fun _ _ _ _ _ _ us hl => match us, hl with | [_, _], _ => rfl
theorem Txt.b_Hall_cells {w : World} {K : PySem.W.Frag} {mg : Str → Option Value} (T : Txt w K mg) : Binds K (fdOf K d_Hall_cells) ["self"] [] := T.F_Hall_cells.bindsN fun _ _ _ _ _ _ us hl => match us, hl with | [_], _ => rfl
theorem Txt.b_Hall_brought {w : World} {K : PySem.W.Frag} {mg : Str → Option Value} (T : Txt w K mg) : Binds K (fdOf K d_Hall_brought) ["self"] [] := T.F_Hall_brought.bindsN fun _ _ _ _ _ _ us hl => match us, hl with | [_], _ => rfl
theorem Txt.b_Hall_has_part {w : World} {K : PySem.W.Frag} {mg : Str → Option Value} (T : Txt w K mg) : Binds K (fdOf K d_Hall_has_part) ["self", "part"] [] := T.F_Hall_has_part.bindsN fun _ _ _ _ _ _ us hl => match us, hl with | [_, _], _ => rfl
theorem Txt.b_Hall_bring {w : World} {K : PySem.W.Frag} {mg : Str → Option Value} (T : Txt w K mg) : Binds K (fdOf K d_Hall_bring) ["self", "part"] [] := T.F_Hall_bring.bindsN fun _ _ _ _ _ _ us hl => match us, hl with | [_, _], _ => rfl
def lawi : Nat := 78
end K18
/-! ### halls as data -/
namespace Ov
open PySem PySem.Spec PyProof.Rows L2
abbrev Cnt := Nat × Nat
abbrev Lay := List (Nat × Cnt)
def Has (ly : List (Option Cnt)) (l : Lay) : Bool := l.all fun e => decide (ly[e.1]? = some (some e.2))
def brg (ly : List (Option Cnt)) (l : Lay) : List (Option Cnt) := l.foldl (fun ly e => ly.set e.1 (some e.2)) ly
theorem brg_snoc (ly : List (Option Cnt)) (l : Lay) (e : Nat × Cnt) : brg ly (l ++ [e]) = (brg ly l).set e.1 (some e.2) := by
  unfold brg
  rw [List.foldl_append]
  rfl
theorem brg_len : ∀ (l : Lay) (ly : List (Option Cnt)), (brg ly l).length = ly.length
  | [], _ => rfl
  | e :: l, ly => by
    show (brg (ly.set e.1 (some e.2)) l).length = _
    rw [brg_len l, List.length_set]
theorem brg_out : ∀ (l : Lay) (ly : List (Option Cnt)) (c : Nat), (∀ e ∈ l, e.1 ≠ c) → (brg ly l)[c]? = ly[c]?
  | [], _, _, _ => rfl
  | e :: l, ly, c, h => by
    show (brg (ly.set e.1 (some e.2)) l)[c]? = _
    rw [brg_out l _ c fun d hd => h d (List.mem_cons_of_mem _ hd), List.getElem?_set_ne (h e List.mem_cons_self)]
theorem brg_in : ∀ (l : Lay) (ly : List (Option Cnt)) (e : Nat × Cnt), (l.map (·.1)).Nodup → (∀ e ∈ l, e.1 < ly.length) → e ∈ l → (brg ly l)[e.1]? = some (some e.2)
  | [], _, _, _, _, h => nomatch h
  | d :: l, ly, e, nd, lt, h => by
    rw [List.map_cons, List.nodup_cons] at nd
    show (brg (ly.set d.1 (some d.2)) l)[e.1]? = _
    rcases List.mem_cons.mp h with rfl | h
    · rw [brg_out l _ e.1 fun z hz ez => nd.1 (List.mem_map.mpr ⟨z, hz, ez⟩), List.getElem?_set_self (lt e List.mem_cons_self)]
    · exact brg_in l _ e nd.2 (fun z hz => by rw [List.length_set]; exact lt z (List.mem_cons_of_mem _ hz)) h
def Apart (l m : Lay) : Prop := ∀ e ∈ l, ∀ d ∈ m, e.1 ≠ d.1
theorem Apart.symm {l m : Lay} (h : Apart l m) : Apart m l := fun e he d hd z => h d hd e he z.symm
theorem has_iff {ly : List (Option Cnt)} {l : Lay} : Has ly l = true ↔ ∀ e ∈ l, ly[e.1]? = some (some e.2) := by
  unfold Has
  rw [List.all_eq_true]
  exact ⟨fun h e he => of_decide_eq_true (h e he), fun h e he => decide_eq_true (h e he)⟩
theorem has_keep {ly : List (Option Cnt)} {l m : Lay} (a : Apart l m) (h : Has ly l = true) : Has (brg ly m) l = true := by
  rw [has_iff] at h ⊢
  intro e he
  rw [brg_out m ly e.1 fun d hd z => a e he d hd z.symm]
  exact h e he
theorem has_new {ly : List (Option Cnt)} {l : Lay} (nd : (l.map (·.1)).Nodup) (lt : ∀ e ∈ l, e.1 < ly.length) : Has (brg ly l) l = true := has_iff.mpr fun e he => brg_in l ly e nd lt he
def lyr (L : List Lay) (q : Nat) : Lay := L[q]?.getD []
/-- a hall's ways and layouts -/
structure HlOk (wy : List (List Nat)) (L : List Lay) (far : Nat) : Prop where
  nd : ∀ q, ((lyr L q).map (·.1)).Nodup
  lt : ∀ q, ∀ e ∈ lyr L q, e.1 < far
  ln : ∀ q, (lyr L q).length ≤ 64
  cnt : wy.length ≤ 8 ∧ L.length ≤ 8
  wl : ∀ w ∈ wy, w.length ≤ 8 ∧ ∀ q ∈ w, q < L.length
  ap : ∀ w ∈ wy, w.Pairwise fun q r => q ≠ r ∧ Apart (lyr L q) (lyr L r)
def mis (ly : List (Option Cnt)) (L : List Lay) (w : List Nat) : List Nat := w.filter fun q => !Has ly (lyr L q)
def brgs (ly : List (Option Cnt)) (L : List Lay) (ms : List Nat) : List (Option Cnt) := ms.foldl (fun ly q => brg ly (lyr L q)) ly
def siz (L : List Lay) (ms : List Nat) : Nat := (ms.map fun q => (lyr L q).length).sum
def thr (ly : List (Option Cnt)) (L : List Lay) (w : List Nat) : Bool := w.all fun q => Has ly (lyr L q)
theorem brgs_snoc (ly : List (Option Cnt)) (L : List Lay) (ms : List Nat) (q : Nat) : brgs ly L (ms ++ [q]) = brg (brgs ly L ms) (lyr L q) := by
  unfold brgs
  rw [List.foldl_append]
  rfl
theorem siz_snoc (L : List Lay) (ms : List Nat) (q : Nat) : siz L (ms ++ [q]) = siz L ms + (lyr L q).length := by
  unfold siz
  rw [List.map_append, List.sum_append]
  simp
theorem brgs_len (L : List Lay) : ∀ (ms : List Nat) (ly : List (Option Cnt)), (brgs ly L ms).length = ly.length
  | [], _ => rfl
  | q :: ms, ly => by
    show (brgs (brg ly (lyr L q)) L ms).length = _
    rw [brgs_len L ms, brg_len]
theorem brgs_out (L : List Lay) : ∀ (ms : List Nat) (ly : List (Option Cnt)) (c : Nat), (∀ q, ∀ e ∈ lyr L q, e.1 ≠ c) → (brgs ly L ms)[c]? = ly[c]?
  | [], _, _, _ => rfl
  | q :: ms, ly, c, h => by
    show (brgs (brg ly (lyr L q)) L ms)[c]? = _
    rw [brgs_out L ms _ c h, brg_out _ _ _ (h q)]
theorem brgs_keep {L : List Lay} {q : Nat} : ∀ (ms : List Nat) (ly : List (Option Cnt)), (∀ r ∈ ms, Apart (lyr L q) (lyr L r)) → Has ly (lyr L q) = true → Has (brgs ly L ms) (lyr L q) = true
  | [], _, _, h => h
  | r :: ms, ly, a, h => brgs_keep ms _ (fun r hr => a r (List.mem_cons_of_mem _ hr)) (has_keep (a r List.mem_cons_self) h)
theorem brgs_in {wy : List (List Nat)} {L : List Lay} {far : Nat} (ok : HlOk wy L far) {q : Nat} : ∀ (ms : List Nat) (ly : List (Option Cnt)), far ≤ ly.length → (ms.Pairwise fun q r => q ≠ r ∧ Apart (lyr L q) (lyr L r)) → q ∈ ms → Has (brgs ly L ms) (lyr L q) = true
  | [], _, _, _, h => nomatch h
  | r :: ms, ly, lf, pw, h => by
    rw [List.pairwise_cons] at pw
    rcases List.mem_cons.mp h with rfl | h
    · exact brgs_keep ms _ (fun r hr => (pw.1 r hr).2) (has_new (ok.nd _) fun e he => Nat.lt_of_lt_of_le (ok.lt _ e he) lf)
    · exact brgs_in ok ms _ (by rw [brg_len]; exact lf) pw.2 h
theorem pair_ne {R : Nat → Nat → Prop} (sy : ∀ a b, R a b → R b a) {w : List Nat} (pw : w.Pairwise R) {q r : Nat} (hq : q ∈ w) (hr : r ∈ w) (ne : q ≠ r) : R q r := by
  obtain ⟨i, hi⟩ := List.mem_iff_getElem?.mp hq
  obtain ⟨j, hj⟩ := List.mem_iff_getElem?.mp hr
  obtain ⟨li, ei⟩ := List.getElem?_eq_some_iff.mp hi
  obtain ⟨lj, ej⟩ := List.getElem?_eq_some_iff.mp hj
  rcases Nat.lt_trichotomy i j with lt | eq | gt
  · have z := List.pairwise_iff_getElem.mp pw i j li lj lt
    rw [ei, ej] at z
    exact z
  · subst eq
    exact absurd (ei.symm.trans ej) ne
  · have z := List.pairwise_iff_getElem.mp pw j i lj li gt
    rw [ei, ej] at z
    exact sy _ _ z
/-- behind a look all of the way down is there -/
theorem look_has {wy : List (List Nat)} {L : List Lay} {far : Nat} (ok : HlOk wy L far) {w : List Nat} (hw : w ∈ wy) {ly : List (Option Cnt)} (lf : far ≤ ly.length) {q : Nat} (hq : q ∈ w) : Has (brgs ly L (mis ly L w)) (lyr L q) = true := by
  have pw := ok.ap w hw
  by_cases h : Has ly (lyr L q) = true
  · refine brgs_keep _ _ (fun r hr => ?_) h
    unfold mis at hr
    rw [List.mem_filter] at hr
    have ne : q ≠ r := fun z => by
      rw [← z, h] at hr
      cases hr.2
    exact (pair_ne (R := fun q r => q ≠ r ∧ Apart (lyr L q) (lyr L r)) (fun a b z => ⟨z.1.symm, z.2.symm⟩) pw hq hr.1 ne).2
  · refine brgs_in ok _ _ lf (pw.filter _) ?_
    unfold mis
    rw [List.mem_filter]
    refine ⟨hq, ?_⟩
    cases e : Has ly (lyr L q) with
    | true => exact absurd e h
    | false => rfl
theorem mis_nil {ly : List (Option Cnt)} {L : List Lay} {w : List Nat} (h : ∀ q ∈ w, Has ly (lyr L q) = true) : mis ly L w = [] := by
  unfold mis
  rw [List.filter_eq_nil_iff]
  intro q hq z
  rw [h q hq] at z
  cases z
theorem thr_iff {ly : List (Option Cnt)} {L : List Lay} {w : List Nat} : thr ly L w = true ↔ ∀ q ∈ w, Has ly (lyr L q) = true := by
  unfold thr
  exact List.all_eq_true
/-! ### the layouts and ways of a tree -/
def layP (pr : List (Int × W)) (cs : List Int) (p : List Nat) : Lay := p.flatMap fun f => (List.range (fsz pr f).toNat).map fun n => ((cs[f]?.getD 0).toNat + n, (f, n))
theorem layP_snoc {pr : List (Int × W)} {cs : List Int} {p : List Nat} {f : Nat} : layP pr cs (p ++ [f]) = layP pr cs p ++ (List.range (fsz pr f).toNat).map fun n => ((cs[f]?.getD 0).toNat + n, (f, n)) := by
  unfold layP
  rw [List.flatMap_append]
  simp
theorem range_plus (a b : Nat) : List.range (a + b) = List.range a ++ (List.range b).map (a + ·) := by
  induction b with
  | zero => simp
  | succ b ih => rw [← Nat.add_assoc, List.range_succ, ih, List.range_succ, List.map_append, List.append_assoc]; rfl
theorem fsz_pos {pr : List (Int × W)} (ok : PrOk pr) {f : Nat} (h : f < pr.length) : 1 ≤ fsz pr f ∧ fsz pr f ≤ 8 := by
  unfold fsz
  rw [List.getElem?_eq_getElem h]
  have z := ok.f _ (List.getElem_mem h)
  exact ⟨z.1, z.2.1⟩
theorem psz_nn {pr : List (Int × W)} (ok : PrOk pr) : ∀ {p : List Nat}, (∀ x ∈ p, x < pr.length) → (p.length : Int) ≤ psz pr p ∧ psz pr p ≤ 8 * p.length
  | [], _ => ⟨Int.le_refl _, Int.le_refl _⟩
  | f :: p, h => by
    have z := psz_nn ok (p := p) fun x hx => h x (List.mem_cons_of_mem _ hx)
    have y := fsz_pos ok (h f List.mem_cons_self)
    have e : psz pr (f :: p) = fsz pr f + psz pr p := rfl
    rw [e, List.length_cons]
    omega
theorem bgn_nn {pr : List (Int × W)} (ok : PrOk pr) {ps : List (List Nat)} (hp : PInv pr.length ps) {dn : Nat → List Nat} {i : Nat} : 0 ≤ bgn pr ps dn i := by
  unfold bgn
  induction dn i with
  | nil => exact Int.le_refl _
  | cons y l ih =>
    rw [List.map_cons, List.sum_cons]
    have z : 0 ≤ psz pr (ps[y]?.getD []) := by
      cases e : ps[y]? with
      | none => exact Int.le_refl _
      | some p =>
        have := (psz_nn ok (p := p) fun x hx => hp.lt (List.mem_of_getElem? e) hx).1
        show 0 ≤ psz pr p
        omega
    omega
theorem lay_cells {pr : List (Int × W)} (ok : PrOk pr) {ps : List (List Nat)} (hp : PInv pr.length ps) {dn : Nat → List Nat} {cs : List Int} (hc : Cells pr ps dn cs) {i : Nat} {p : List Nat} (e : ps[i]? = some p) :
    ∀ j, j ≤ p.length → (layP pr cs (p.take j)).map (·.1) = (List.range (psz pr (p.take j)).toNat).map fun k => (bgn pr ps dn i).toNat + k
  | 0, _ => rfl
  | j + 1, hj => by
    have ih := lay_cells ok hp hc e j (by omega)
    have ef : p[j]? = some p[j] := List.getElem?_eq_getElem (by omega)
    have hf := hp.lt (List.mem_of_getElem? e) (List.mem_of_getElem? ef)
    have b0 := bgn_nn ok hp (dn := dn) (i := i)
    have p0 := (psz_nn ok (p := p.take j) fun x hx => hp.lt (List.mem_of_getElem? e) (List.mem_of_mem_take hx)).1
    have f0 := fsz_pos ok hf
    rw [List.take_add_one, ef]
    show (layP pr cs (p.take j ++ [p[j]])).map (·.1) = (List.range (psz pr (p.take j ++ [p[j]])).toNat).map _
    rw [layP_snoc, psz_snoc, List.map_append, ih, Int.toNat_add (by omega) (by omega), range_plus, List.map_append, List.map_map, List.map_map]
    congr 1
    refine List.map_congr_left fun n _ => ?_
    show ((cs[p[j]]?.getD 0).toNat + n) = (bgn pr ps dn i).toNat + ((psz pr (p.take j)).toNat + n)
    rw [hc.2 i p j _ e ef]
    show (bgn pr ps dn i + psz pr (p.take j)).toNat + n = _
    rw [Int.toNat_add b0 (by omega)]
    omega
/-- the part of a function -/
def prt (ps : List (List Nat)) (f : Nat) : Nat := ps.findIdx fun p => decide (f ∈ p)
theorem prt_eq {n : Nat} {ps : List (List Nat)} (h : PInv n ps) {f i : Nat} {p : List Nat} (e : ps[i]? = some p) (hf : f ∈ p) : prt ps f = i := by
  have ex : ∃ x ∈ ps, decide (f ∈ x) = true := ⟨p, List.mem_of_getElem? e, decide_eq_true hf⟩
  have lt := List.findIdx_lt_length.mpr ex
  have hm : decide (f ∈ ps[ps.findIdx fun p => decide (f ∈ p)]) = true := List.findIdx_getElem (w := lt)
  obtain ⟨j, hj⟩ := List.mem_iff_getElem?.mp (of_decide_eq_true hm)
  obtain ⟨j', hj'⟩ := List.mem_iff_getElem?.mp hf
  exact (h.uniq (List.getElem?_eq_getElem lt) hj e hj').1
def wayF (ps : List (List Nat)) (dn : Nat → List Nat) (f : Nat) : List Nat := dn (prt ps f) ++ [prt ps f]
def waysF (n : Nat) (ps : List (List Nat)) (dn : Nat → List Nat) : List (List Nat) := (List.range n).map (wayF ps dn)
def laysF (pr : List (Int × W)) (cs : List Int) (ps : List (List Nat)) : List Lay := ps.map (layP pr cs)
theorem Dn.clos {n : Nat} {ps : List (List Nat)} {st : List Int} {dn : Nat → List Nat} (hd : Dn n ps st dn) : ∀ {x : Nat} {l : List Nat}, Down st x l → (∀ q ∈ l, q < ps.length) → ∀ q ∈ l, ∀ r ∈ dn q, r ∈ l := by
  intro x l h
  induction h with
  | base _ => exact fun _ q hq => nomatch hq
  | @step x y l e h2 ih =>
    intro hl q hq r hr
    rcases List.mem_append.mp hq with hq | hq
    · exact List.mem_append_left _ (ih (fun q hq => hl q (List.mem_append_left _ hq)) q hq r hr)
    · obtain rfl := List.mem_singleton.mp hq
      have hy := hl q (List.mem_append_right _ hq)
      rw [(hd.down q hy).uniq h2] at hr
      exact List.mem_append_left _ hr
/-- who lies on a way has its way on it -/
theorem Dn.sub {n : Nat} {ps : List (List Nat)} {st : List Int} {dn : Nat → List Nat} (hd : Dn n ps st dn) {i q : Nat} (hi : i < ps.length) (hq : q ∈ dn i ++ [i]) {r : Nat} (hr : r ∈ dn q ++ [q]) : r ∈ dn i ++ [i] := by
  rcases List.mem_append.mp hr with hr | hr
  · rcases List.mem_append.mp hq with hq | hq
    · exact List.mem_append_left _ (hd.clos (hd.down i hi) (hd.lt i hi) q hq r hr)
    · obtain rfl := List.mem_singleton.mp hq
      exact List.mem_append_left _ hr
  · obtain rfl := List.mem_singleton.mp hr
    exact hq
theorem Dn.order {pr : List (Int × W)} (ok : PrOk pr) {ps : List (List Nat)} (hp : PInv pr.length ps) {st : List Int} {dn : Nat → List Nat} (hd : Dn pr.length ps st dn) : ∀ {x : Nat} {l : List Nat}, Down st x l → x < ps.length → (∀ q ∈ l, q < ps.length) →
    (l ++ [x]).Pairwise fun q r => bgn pr ps dn q + psz pr (ps[q]?.getD []) ≤ bgn pr ps dn r := by
  intro x l h
  induction h with
  | base _ => exact fun _ _ => List.pairwise_singleton _ _
  | @step x y l e h2 ih =>
    intro hx hl
    have hy := hl y (List.mem_append_right _ (List.mem_singleton.mpr rfl))
    have z := ih hy fun q hq => hl q (List.mem_append_left _ hq)
    have ex : bgn pr ps dn x = bgn pr ps dn y + psz pr (ps[y]?.getD []) := by
      have e1 := (hd.down x hx).uniq (.step e h2)
      have e2 := (hd.down y hy).uniq h2
      unfold bgn
      rw [e1, e2, List.map_append, List.sum_append]
      simp
    have y0 : 0 ≤ psz pr (ps[y]?.getD []) := by
      rw [List.getElem?_eq_getElem hy]
      have := (psz_nn ok (p := ps[y]) fun x hx => hp.lt (List.getElem_mem hy) hx).1
      show 0 ≤ psz pr ps[y]
      omega
    rw [List.pairwise_append] at z ⊢
    refine ⟨?_, List.pairwise_singleton _ _, fun q hq r hr => ?_⟩
    · rw [List.pairwise_append]
      exact z
    · obtain rfl := List.mem_singleton.mp hr
      rw [ex]
      rcases List.mem_append.mp hq with hq | hq
      · have := z.2.2 q hq y (List.mem_singleton.mpr rfl)
        omega
      · obtain rfl := List.mem_singleton.mp hq
        exact Int.le_refl _
theorem lyr_lays {pr : List (Int × W)} {cs : List Int} {ps : List (List Nat)} {q : Nat} : lyr (laysF pr cs ps) q = layP pr cs (ps[q]?.getD []) := by
  unfold lyr laysF
  rw [List.getElem?_map]
  cases ps[q]? <;> rfl
theorem lay_pos {pr : List (Int × W)} (ok : PrOk pr) {ps : List (List Nat)} (hp : PInv pr.length ps) {dn : Nat → List Nat} {cs : List Int} (hc : Cells pr ps dn cs) {q : Nat} : (lyr (laysF pr cs ps) q).map (·.1) = (List.range (psz pr (ps[q]?.getD [])).toNat).map fun k => (bgn pr ps dn q).toNat + k := by
  rw [lyr_lays]
  cases e : ps[q]? with
  | none => rfl
  | some p =>
    have z := lay_cells ok hp hc e p.length (Nat.le_refl _)
    rw [List.take_length] at z
    exact z
theorem lay_len {pr : List (Int × W)} (ok : PrOk pr) {ps : List (List Nat)} (hp : PInv pr.length ps) {dn : Nat → List Nat} {cs : List Int} (hc : Cells pr ps dn cs) {q : Nat} : ((lyr (laysF pr cs ps) q).length : Int) = psz pr (ps[q]?.getD []) := by
  have z := congrArg List.length (lay_pos ok hp hc (q := q))
  rw [List.length_map, List.length_map, List.length_range] at z
  have p0 : 0 ≤ psz pr (ps[q]?.getD []) := by
    cases e : ps[q]? with
    | none => exact Int.le_refl _
    | some p =>
      have := (psz_nn ok (p := p) fun x hx => hp.lt (List.mem_of_getElem? e) hx).1
      show 0 ≤ psz pr p
      omega
  omega
theorem hall_ok {pr : List (Int × W)} (ok : PrOk pr) {ps : List (List Nat)} {st : List Int} (ht : TrOk pr.length ps st) {dn : Nat → List Nat} (hd : Dn pr.length ps st dn) {cs : List Int} (hc : Cells pr ps dn cs) {m : Int} (hm : Far pr ps dn m) : HlOk (waysF pr.length ps dn) (laysF pr cs ps) m.toNat := by
  have hp := ht.p
  have pos : ∀ q e, e ∈ lyr (laysF pr cs ps) q → (bgn pr ps dn q).toNat ≤ e.1 ∧ (e.1 : Int) < bgn pr ps dn q + psz pr (ps[q]?.getD []) := fun q e he => by
    have h1 := List.mem_map_of_mem (f := fun x : Nat × Cnt => x.1) he
    rw [lay_pos ok hp hc] at h1
    obtain ⟨k, hk, ek⟩ := List.mem_map.mp h1
    have hk := List.mem_range.mp hk
    have b0 := bgn_nn ok hp (dn := dn) (i := q)
    have ek : (bgn pr ps dn q).toNat + k = e.1 := ek
    omega
  have pne : ∀ q, q < ps.length → 1 ≤ psz pr (ps[q]?.getD []) ∧ psz pr (ps[q]?.getD []) ≤ 64 := fun q hq => by
    rw [List.getElem?_eq_getElem hq]
    have h1 := psz_nn ok (p := ps[q]) fun x hx => hp.lt (List.getElem_mem hq) hx
    have h2 := List.length_pos_iff.mpr (hp.ne _ (List.getElem_mem hq))
    have h3 := hp.plen (List.getElem_mem hq)
    have h4 := ok.l8
    show 1 ≤ psz pr ps[q] ∧ psz pr ps[q] ≤ 64
    omega
  have hw : ∀ w ∈ waysF pr.length ps dn, ∃ i, i < ps.length ∧ w = dn i ++ [i] := fun w hw => by
    obtain ⟨f, hf, rfl⟩ := List.mem_map.mp hw
    obtain ⟨i, p, j, e1, e2⟩ := hp.stands (List.mem_range.mp hf)
    refine ⟨i, (List.getElem?_eq_some_iff.mp e1).1, ?_⟩
    unfold wayF
    rw [prt_eq hp e1 (List.mem_of_getElem? e2)]
  have l8 := ok.l8
  have pc := hp.count
  refine ⟨fun q => ?_, fun q e he => ?_, fun q => ?_, ⟨?_, ?_⟩, fun w h => ?_, fun w h => ?_⟩
  · rw [lay_pos ok hp hc]
    refine List.Pairwise.map _ (fun a b h z => h (by omega)) List.nodup_range
  · have h1 := pos q e he
    have hq : q < ps.length := by
      refine Nat.lt_of_not_le fun z => ?_
      rw [lyr_lays, List.getElem?_eq_none z] at he
      exact nomatch he
    have h2 := hm.2 q ps[q] (List.getElem?_eq_getElem hq)
    rw [List.getElem?_eq_getElem hq] at h1
    have h3 : (e.1 : Int) < bgn pr ps dn q + psz pr ps[q] := h1.2
    omega
  · have h1 := lay_len ok hp hc (q := q)
    by_cases hq : q < ps.length
    · have := pne q hq
      omega
    · rw [lyr_lays, List.getElem?_eq_none (by omega)]
      exact Nat.zero_le _
  · unfold waysF
    rw [List.length_map, List.length_range]
    exact l8
  · unfold laysF
    rw [List.length_map]
    omega
  · obtain ⟨i, hi, rfl⟩ := hw w h
    have h1 := hd.len i hi
    refine ⟨by rw [List.length_append, List.length_singleton]; omega, fun q hq => ?_⟩
    unfold laysF
    rw [List.length_map]
    rcases List.mem_append.mp hq with hq | hq
    · exact hd.lt i hi q hq
    · obtain rfl := List.mem_singleton.mp hq
      exact hi
  · obtain ⟨i, hi, rfl⟩ := hw w h
    refine List.Pairwise.imp_of_mem (fun {q r} hq hr z => ?_) (hd.order ok hp (hd.down i hi) hi (hd.lt i hi))
    have hq' : q < ps.length := by
      rcases List.mem_append.mp hq with hq | hq
      · exact hd.lt i hi q hq
      · obtain rfl := List.mem_singleton.mp hq
        exact hi
    have h1 := pne q hq'
    have b0 := bgn_nn ok hp (dn := dn) (i := q)
    have b1 := bgn_nn ok hp (dn := dn) (i := r)
    refine ⟨fun e => ?_, fun e he d hd' ed => ?_⟩
    · subst e
      omega
    · have h2 := pos q e he
      have h3 := pos r d hd'
      omega
end Ov
/-! ### a hall at a heap -/
namespace Ov
open PySem PySem.Spec PyProof.Rows L2
structure HA where
  a : Addr
  dx : Addr
  wy : Addr
  lo : Addr
  ly : Addr
def hallFs (x : HA) (mv : Int) : List (Str × V) := [("ways", .ref x.wy), ("layouts", .ref x.lo), ("lying", .ref x.ly), ("moved", .int mv)]
def CntAt (H : Hp) (v : V) (c : Cnt) : Prop := ∃ u, v = .ref u ∧ H u = some (.tup [.int (c.1 : Int), .int (c.2 : Int)])
theorem CntAt.keep {H H' : Hp} (k : Keep H H') {v : V} {c : Cnt} : CntAt H v c → CntAt H' v c := fun ⟨u, e, h⟩ => ⟨u, e, k _ _ h⟩
def CellAt (H : Hp) : V → Option Cnt → Prop
  | v, none => v = .non
  | v, some c => CntAt H v c
theorem CellAt.keep {H H' : Hp} (k : Keep H H') : ∀ {v : V} {c : Option Cnt}, CellAt H v c → CellAt H' v c
  | _, none, h => h
  | _, some _, h => CntAt.keep k h
def EntL (H : Hp) (v : V) (e : Nat × Cnt) : Prop := ∃ t u, v = .ref t ∧ H t = some (.tup [.int (e.1 : Int), u]) ∧ CntAt H u e.2
theorem EntL.keep {H H' : Hp} (k : Keep H H') {v : V} {e : Nat × Cnt} : EntL H v e → EntL H' v e := fun ⟨t, u, e1, h, c⟩ => ⟨t, u, e1, k _ _ h, c.keep k⟩
def LayAt (H : Hp) (b : Addr) (l : Lay) : Prop := ∃ vs, H b = some (.lst vs) ∧ Paired (EntL H) vs l
structure HallAt (K : PySem.W.Frag) (H0 H : Hp) (x : HA) (wys : List (List Nat)) (L : List Lay) (lc : List (Option Cnt)) (mv : Int) : Prop where
  ob : H x.a = some (.ins (He.ga K "Hall") x.dx (hallFs x mv))
  wy : ∃ ws : List Addr, H x.wy = some (.lst (ws.map V.ref)) ∧ Paired (fun b w => H b = some (.lst (nV w)) ∧ H0 b = none ∧ b ≠ x.ly) ws wys
  lo : ∃ ls : List Addr, H x.lo = some (.lst (ls.map V.ref)) ∧ Paired (fun b l => LayAt H b l ∧ H0 b = none ∧ b ≠ x.ly) ls L
  ly : ∃ vs, H x.ly = some (.lst vs) ∧ Paired (CellAt H) vs lc
  fa : H0 x.a = none
  fw : H0 x.wy = none ∧ x.wy ≠ x.ly
  fl : H0 x.lo = none ∧ x.lo ≠ x.ly
  fy : H0 x.ly = none
theorem paired_set {α β : Type} {R : α → β → Prop} {x : α} {y : β} : ∀ {l : List α} {m : List β}, Paired R l m → R x y → ∀ k : Nat, Paired R (l.set k x) (m.set k y)
  | _, _, .nil, _, _ => .nil
  | _, _, .cons _ r, h, 0 => .cons h r
  | _, _, .cons h1 r, h, k + 1 => .cons h1 (paired_set r h k)
section
variable {K : PySem.W.Frag} {H0 H H' H1 : Hp} {x : HA} {wys : List (List Nat)} {L : List Lay} {lc : List (Option Cnt)} {mv : Int}
theorem HallAt.keepF (h : HallAt K H0 H x wys L lc mv) (k : ∀ b o, H0 b = none → H b = some o → H' b = some o) (kt : Keep H H') : HallAt K H0 H' x wys L lc mv := by
  obtain ⟨h1, ⟨ws, h2, h3⟩, ⟨ls, h4, h5⟩, ⟨vs, h6, h7⟩, f1, f2, f3, f4⟩ := h
  exact ⟨k _ _ f1 h1, ⟨ws, k _ _ f2.1 h2, L2.Paired.mapP h3 fun b w z => ⟨k _ _ z.2.1 z.1, z.2⟩⟩, ⟨ls, k _ _ f3.1 h4, L2.Paired.mapP h5 fun b l z => by
    obtain ⟨⟨us, z1, z2⟩, z3⟩ := z
    exact ⟨⟨us, k _ _ z3.1 z1, L2.Paired.mapP z2 fun _ _ y => y.keep kt⟩, z3⟩⟩, ⟨vs, k _ _ f4 h6, L2.Paired.mapP h7 fun _ _ y => y.keep kt⟩, f1, f2, f3, f4⟩
theorem HallAt.same (h : HallAt K H0 H x wys L lc mv) (s : Same H H') : HallAt K H0 H' x wys L lc mv := h.keepF (fun b o _ e => s _ _ e) (Keep.same s)
theorem HallAt.but {p c : Addr} (h : HallAt K H0 H x wys L lc mv) (d0 : Dr H0 p c) (d : Dr H p c) (b : But p c H H') : HallAt K H0 H' x wys L lc mv := h.keepF (fun a o n e => b a o (fun z => by
    obtain ⟨m, k, ns, h1, h2, _⟩ := d0
    rw [z, h1] at n
    cases n) (fun z => by
    obtain ⟨m, k, ns, h1, h2, _⟩ := d0
    rw [z, h2] at n
    cases n) e) (Keep.but b d)
/-- all but the hall stays -/
def ButHl (x : HA) (H H' : Hp) : Prop := ∀ b o, b ≠ x.a → b ≠ x.ly → H b = some o → H' b = some o
theorem ButHl.refl : ButHl x H H := fun _ _ _ _ e => e
theorem ButHl.trans (p : ButHl x H H1) (q : ButHl x H1 H') : ButHl x H H' := fun b o n1 n2 e => q b o n1 n2 (p b o n1 n2 e)
theorem ButHl.same (s : Same H H') : ButHl x H H' := fun b o _ _ e => s b o e
theorem ButHl.keep (h : HallAt K H0 H x wys L lc mv) (b : ButHl x H H') : Keep H H' := fun a xs e => by
  obtain ⟨vs, h6, _⟩ := h.ly
  exact b a _ (ne_of e h.ob (by intro z; cases z)) (ne_of e h6 (by intro z; cases z)) e
theorem ButHl.s0 (h : HallAt K H0 H x wys L lc mv) (s : Same H0 H) (b : ButHl x H H') : Same H0 H' := fun a o e => b a o (ne_of_none e h.fa) (ne_of_none e h.fy) (s a o e)
theorem HallAt.setc (h : HallAt K H0 H x wys L lc mv) {vs : List V} (hl : H x.ly = some (.lst vs)) {v : V} {c : Cnt} (hv : CntAt H v c) (k : Nat) : HallAt K H0 (upd H x.ly (.lst (vs.set k v))) x wys L (lc.set k (some c)) mv ∧ ButHl x H (upd H x.ly (.lst (vs.set k v))) := by
  have kt := Keep.updL (ys := vs.set k v) hl
  obtain ⟨h1, ⟨ws, h2, h3⟩, ⟨ls, h4, h5⟩, ⟨us, h6, h7⟩, f1, f2, f3, f4⟩ := h
  obtain rfl : us = vs := by
    have z := h6.symm.trans hl
    cases z
    rfl
  refine ⟨⟨by rw [upd_ne (ne_of h1 hl (by intro z; cases z))]; exact h1, ⟨ws, by rw [upd_ne f2.2]; exact h2, L2.Paired.mapP h3 fun b w z => ⟨by rw [upd_ne z.2.2]; exact z.1, z.2⟩⟩, ⟨ls, by rw [upd_ne f3.2]; exact h4, L2.Paired.mapP h5 fun b l z => ?_⟩, ⟨us.set k v, upd_same, ?_⟩, f1, f2, f3, f4⟩, fun b o _ n e => by rw [upd_ne n]; exact e⟩
  · obtain ⟨⟨us', z1, z2⟩, z3⟩ := z
    exact ⟨⟨us', by rw [upd_ne z3.2]; exact z1, L2.Paired.mapP z2 fun _ _ y => y.keep kt⟩, z3⟩
  · have h8 := L2.Paired.mapP h7 fun _ _ y => CellAt.keep kt y
    exact paired_set h8 (show CellAt _ v (some c) from hv.keep kt) k
theorem hall_mv {m : Int} : putF "moved" (.int m) (hallFs x mv) = hallFs x m := by rfl
theorem HallAt.mvd (h : HallAt K H0 H x wys L lc mv) (m : Int) : HallAt K H0 (upd H x.a (.ins (He.ga K "Hall") x.dx (putF "moved" (.int m) (hallFs x mv)))) x wys L lc m ∧ ButHl x H (upd H x.a (.ins (He.ga K "Hall") x.dx (putF "moved" (.int m) (hallFs x mv)))) := by
  rw [hall_mv]
  obtain ⟨h1, ⟨ws, h2, h3⟩, ⟨ls, h4, h5⟩, ⟨us, h6, h7⟩, f1, f2, f3, f4⟩ := h
  have ne : ∀ {b : Addr} {l : List V}, H b = some (.lst l) → b ≠ x.a := fun e => ne_of e h1 (by intro z; cases z)
  have kt : Keep H (upd H x.a (.ins (He.ga K "Hall") x.dx (hallFs x m))) := fun b xs e => by
    rw [upd_ne (ne_of e h1 (by intro z; cases z))]
    exact e
  exact ⟨⟨upd_same, ⟨ws, by rw [upd_ne (ne h2)]; exact h2, L2.Paired.mapP h3 fun b w z => ⟨by rw [upd_ne (ne z.1)]; exact z.1, z.2⟩⟩, ⟨ls, by rw [upd_ne (ne h4)]; exact h4, L2.Paired.mapP h5 fun b l z => by
    obtain ⟨⟨us', z1, z2⟩, z3⟩ := z
    exact ⟨⟨us', by rw [upd_ne (ne z1)]; exact z1, L2.Paired.mapP z2 fun _ _ y => y.keep kt⟩, z3⟩⟩, ⟨us, by rw [upd_ne (ne h6)]; exact h6, L2.Paired.mapP h7 fun _ _ y => CellAt.keep kt y⟩, f1, f2, f3, f4⟩, fun b o n _ e => by rw [upd_ne n]; exact e⟩
end
/-- all is as it must be: the hall's own heap, its ways and layouts, as many cells -/
structure HallIn (K : PySem.W.Frag) (H0 H : Hp) (x : HA) (wys : List (List Nat)) (L : List Lay) (lc : List (Option Cnt)) (mv : Int) (far : Nat) : Prop where
  at_ : HallAt K H0 H x wys L lc mv
  ok : HlOk wys L far
  le : far ≤ lc.length ∧ lc.length ≤ 64
def spCheckRoom : Sp := fun vs H Q _ => ∃ r : Int, vs = [.int r] ∧ 1 ≤ r ∧ r ≤ 64 ∧ Q .non H
def spLayouts : Sp := fun vs H Q _ => ∃ v t pr ps st dn, vs = [v, t] ∧ preT H v t pr ps st ∧ Dn pr.length ps st dn ∧ ∀ H' p ls cs, Same H H' → H p = none → H' p = some (.lst (ls.map V.ref)) → Cells pr ps dn cs → Paired (fun b l => LayAt H' b l ∧ H b = none) ls (laysF pr cs ps) → Q (.ref p) H'
def spHallInit (K : PySem.W.Frag) : Sp := fun vs H Q _ => ∃ (H0 : Hp) (a dx : Addr) (v t : V) (pr : List (Int × W)) (ps : List (List Nat)) (st : List Int) (dn : Nat → List Nat) (far : Int) (room : Nat), vs = [.ref a, v, t, .int (room : Int)] ∧ H a = some (.ins (He.ga K "Hall") dx []) ∧ H0 a = none ∧ (∀ b, H b = none → H0 b = none) ∧ preT H v t pr ps st ∧ Dn pr.length ps st dn ∧ Far pr ps dn far ∧ far ≤ (room : Int) ∧ room ≤ 64 ∧
  ∀ H' x cs, (∀ b o, b ≠ a → H b = some o → H' b = some o) → x.a = a → x.dx = dx → Cells pr ps dn cs → HallIn K H0 H' x (waysF pr.length ps dn) (laysF pr cs ps) (List.replicate room none) 0 far.toNat → Q .non H'
def spHasPart (K : PySem.W.Frag) : Sp := fun vs H Q _ => ∃ (H0 : Hp) (x : HA) (wys : List (List Nat)) (L : List Lay) (lc : List (Option Cnt)) (mv : Int) (far : Nat) (q : Nat), vs = [.ref x.a, .int (q : Int)] ∧ HallIn K H0 H x wys L lc mv far ∧ q < L.length ∧ ∀ H', Same H H' → Q (.bl (Has lc (lyr L q))) H'
def spBring (K : PySem.W.Frag) : Sp := fun vs H Q _ => ∃ (H0 : Hp) (x : HA) (wys : List (List Nat)) (L : List Lay) (lc : List (Option Cnt)) (mv : Int) (far : Nat) (q : Nat), vs = [.ref x.a, .int (q : Int)] ∧ HallIn K H0 H x wys L lc mv far ∧ q < L.length ∧ ∀ H', ButHl x H H' → HallIn K H0 H' x wys L (brg lc (lyr L q)) (mv + ((lyr L q).length : Nat)) far → Q .non H'
def spLook (K : PySem.W.Frag) : Sp := fun vs H Q _ => ∃ (H0 : Hp) (x : HA) (wys : List (List Nat)) (L : List Lay) (lc : List (Option Cnt)) (mv : Int) (far : Nat) (f : Nat) (w : List Nat), vs = [.ref x.a, .int (f : Int)] ∧ HallIn K H0 H x wys L lc mv far ∧ wys[f]? = some w ∧
  ∀ H' r, ButHl x H H' → H r = none → r ≠ x.ly → H' r = some (.lst (nV (mis lc L w))) → HallIn K H0 H' x wys L (brgs lc L (mis lc L w)) (mv + (siz L (mis lc L w) : Nat)) far → Q (.ref r) H'
def spThere (K : PySem.W.Frag) : Sp := fun vs H Q _ => ∃ (H0 : Hp) (x : HA) (wys : List (List Nat)) (L : List Lay) (lc : List (Option Cnt)) (mv : Int) (far : Nat) (f : Nat) (w : List Nat), vs = [.ref x.a, .int (f : Int)] ∧ HallIn K H0 H x wys L lc mv far ∧ wys[f]? = some w ∧ ∀ H', Same H H' → Q (.bl (thr lc L w)) H'
def spCells (K : PySem.W.Frag) : Sp := fun vs H Q _ => ∃ (H0 : Hp) (x : HA) (wys : List (List Nat)) (L : List Lay) (lc : List (Option Cnt)) (mv : Int) (far : Nat), vs = [.ref x.a] ∧ HallIn K H0 H x wys L lc mv far ∧ ∀ H' r us, Same H H' → H r = none → H' r = some (.lst us) → Paired (CellAt H') us lc → Q (.ref r) H'
def spBrought (K : PySem.W.Frag) : Sp := fun vs H Q _ => ∃ (H0 : Hp) (x : HA) (wys : List (List Nat)) (L : List Lay) (lc : List (Option Cnt)) (mv : Int) (far : Nat), vs = [.ref x.a] ∧ HallIn K H0 H x wys L lc mv far ∧ Q (.int mv) H
theorem cells_none {H : Hp} : ∀ n : Nat, Paired (CellAt H) (List.replicate n V.non) (List.replicate n none)
  | 0 => .nil
  | n + 1 => .cons rfl (cells_none n)
/-- a cell's data -/
def cntD (c : Cnt) : PyData := .tuple [.int (c.1 : Int), .int (c.2 : Int)]
def cellD : Option Cnt → PyData
  | none => .none
  | some c => cntD c
theorem cell_dp {K : PySem.W.Frag} {H : Hp} : ∀ {v : V} {c : Option Cnt}, CellAt H v c → Dp K H v (cellD c)
  | _, none, rfl => .non
  | _, some _, ⟨_, rfl, h⟩ => .tup (SqT.of h) (.cons (.int _) (.cons (.int _) .nil))
theorem cell_shaped : ∀ c : Option Cnt, SeqAt.shaped (cellD c) = true
  | none => by simp [cellD, SeqAt.shaped, PyData.depth, PyData.canLay0]
  | some c => pairShaped _ _
theorem cell_eqv (c : Option Cnt) (d : Cnt) : PyData.eqv (cellD c) (cellD (some d)) = decide (c = some d) := by
  cases c with
  | none => simp [cellD, cntD, PyData.eqv]
  | some c =>
    obtain ⟨a, b⟩ := c
    obtain ⟨a', b'⟩ := d
    have e : ∀ u v : Nat, ((u : Int) == (v : Int)) = decide (u = v) := fun u v => by
      rw [Bool.eq_iff_iff, beq_iff_eq, decide_eq_true_iff]
      omega
    simp [cellD, cntD, PyData.eqv, PyData.eqvAll, e]
end Ov
/-! ### what a law needs of halls -/
namespace Ov
open PySem PySem.Spec PyProof.Rows L2
theorem pig : ∀ (n : Nat) (l : List Nat), l.Nodup → (∀ x ∈ l, x < n) → l.length ≤ n
  | 0, l, _, h => by
    cases l with
    | nil => exact Nat.le_refl _
    | cons x l => exact absurd (h x List.mem_cons_self) (Nat.not_lt_zero _)
  | n + 1, l, nd, h => by
    have z := pig n (l.erase n) (nd.erase n) fun x hx => by
      have h1 := (List.Nodup.mem_erase_iff nd).mp hx
      have h2 := h x h1.2
      have h3 := h1.1
      omega
    rw [List.length_erase] at z
    split at z <;> omega
theorem psz_app (pr : List (Int × W)) (p q : List Nat) : psz pr (p ++ q) = psz pr p + psz pr q := by
  unfold psz
  rw [List.map_append, List.sum_append]
theorem psz_flat (pr : List (Int × W)) (g : Nat → List Nat) : ∀ w : List Nat, psz pr (w.flatMap g) = (w.map fun q => psz pr (g q)).sum
  | [] => rfl
  | q :: w => by rw [List.flatMap_cons, psz_app, psz_flat pr g w, List.map_cons, List.sum_cons]
theorem far_le {pr : List (Int × W)} (ok : PrOk pr) {ps : List (List Nat)} {st : List Int} (ht : TrOk pr.length ps st) {dn : Nat → List Nat} (hd : Dn pr.length ps st dn) {m : Int} (hm : Far pr ps dn m) : 1 ≤ m ∧ m ≤ 64 := by
  have hp := ht.p
  obtain ⟨i, p, e, rfl⟩ := hm.1
  have hi := (List.getElem?_eq_some_iff.mp e).1
  have pne : ∀ q, q < ps.length → 1 ≤ psz pr (ps[q]?.getD []) := fun q hq => by
    rw [List.getElem?_eq_getElem hq]
    have h1 := psz_nn ok (p := ps[q]) fun x hx => hp.lt (List.getElem_mem hq) hx
    have h2 := List.length_pos_iff.mpr (hp.ne _ (List.getElem_mem hq))
    show 1 ≤ psz pr ps[q]
    omega
  have b0 := bgn_nn ok hp (dn := dn) (i := i)
  have lt : ∀ q ∈ dn i ++ [i], q < ps.length := fun q hq => by
    rcases List.mem_append.mp hq with hq | hq
    · exact hd.lt i hi q hq
    · rw [List.mem_singleton.mp hq]
      exact hi
  have e1 : bgn pr ps dn i + psz pr p = psz pr ((dn i ++ [i]).flatMap fun q => ps[q]?.getD []) := by
    rw [psz_flat, bgn_psz, e]
    rfl
  have z := pne i hi
  rw [e] at z
  have z : 1 ≤ psz pr p := z
  refine ⟨by omega, ?_⟩
  rw [e1]
  have mem : ∀ x ∈ (dn i ++ [i]).flatMap (fun q => ps[q]?.getD []), x < pr.length := fun x hx => by
    obtain ⟨q, hq, hx⟩ := List.mem_flatMap.mp hx
    rw [List.getElem?_eq_getElem (lt q hq)] at hx
    exact hp.lt (List.getElem_mem (lt q hq)) hx
  have nd : ((dn i ++ [i]).flatMap fun q => ps[q]?.getD []).Nodup := by
    unfold List.Nodup
    rw [List.pairwise_flatMap]
    refine ⟨fun q hq => ?_, ?_⟩
    · rw [List.getElem?_eq_getElem (lt q hq)]
      exact List.Pairwise.imp (fun z => by omega) (hp.rise _ (List.getElem_mem (lt q hq)))
    · refine List.Pairwise.imp_of_mem (fun {q r} hq hr z => ?_) (hd.order ok hp (hd.down i hi) hi (hd.lt i hi))
      intro x hx y hy exy
      subst exy
      rw [List.getElem?_eq_getElem (lt q hq)] at hx
      rw [List.getElem?_eq_getElem (lt r hr)] at hy
      obtain ⟨j, hj⟩ := List.mem_iff_getElem?.mp hx
      obtain ⟨k, hk⟩ := List.mem_iff_getElem?.mp hy
      have eq := (hp.uniq (List.getElem?_eq_getElem (lt q hq)) hj (List.getElem?_eq_getElem (lt r hr)) hk).1
      subst eq
      have := pne q (lt q hq)
      omega
  have h1 := pig pr.length _ nd mem
  have h2 := (psz_nn ok mem).2
  have := ok.l8
  omega
theorem siz_eq {pr : List (Int × W)} (ok : PrOk pr) {ps : List (List Nat)} (hp : PInv pr.length ps) {dn : Nat → List Nat} {cs : List Int} (hc : Cells pr ps dn cs) : ∀ ms : List Nat, ((siz (laysF pr cs ps) ms : Nat) : Int) = (ms.map fun q => psz pr (ps[q]?.getD [])).sum
  | [] => rfl
  | q :: ms => by
    have z := lay_len ok hp hc (q := q)
    have y := siz_eq ok hp hc ms
    have e : siz (laysF pr cs ps) (q :: ms) = (lyr (laysF pr cs ps) q).length + siz (laysF pr cs ps) ms := rfl
    rw [e, List.map_cons, List.sum_cons, Int.natCast_add, z, y]
theorem atI_last (l : List Nat) (x : Nat) : atI (nV (l ++ [x])) (-1) = some (.int (x : Int)) := by
  have e : (nV (l ++ [x])).length = l.length + 1 := by rw [nV_len, List.length_append]; rfl
  have z : ixN (l.length + 1) (-1) = some l.length := by
    unfold ixN
    rw [if_neg (by omega), if_pos (by omega)]
    congr 1
    omega
  unfold atI
  rw [e, z, nV_app]
  show (nV l ++ [V.int (x : Int)])[l.length]? = _
  rw [List.getElem?_append_right (by rw [nV_len]; exact Nat.le_refl _), nV_len, Nat.sub_self]
  rfl
/-- all but the drawer and the hall stays -/
def ButLw (x : HA) (h c : Addr) (H H' : Hp) : Prop := ∀ b o, b ≠ h → b ≠ c → b ≠ x.a → b ≠ x.ly → H b = some o → H' b = some o
section
variable {K : PySem.W.Frag} {H0 H H' H1 : Hp} {x : HA} {wys : List (List Nat)} {L : List Lay} {lc : List (Option Cnt)} {mv : Int} {far : Nat} {h c : Addr}
theorem ButLw.refl : ButLw x h c H H := fun _ _ _ _ _ _ e => e
theorem ButLw.same (p : ButLw x h c H H1) (s : Same H1 H') : ButLw x h c H H' := fun b o n1 n2 n3 n4 e => s _ _ (p b o n1 n2 n3 n4 e)
theorem ButLw.but (p : ButLw x h c H H1) (s : But h c H1 H') : ButLw x h c H H' := fun b o n1 n2 n3 n4 e => s _ _ n1 n2 (p b o n1 n2 n3 n4 e)
theorem ButLw.hall (p : ButLw x h c H H1) (s : ButHl x H1 H') : ButLw x h c H H' := fun b o n1 n2 n3 n4 e => s _ _ n3 n4 (p b o n1 n2 n3 n4 e)
theorem HallIn.same (i : HallIn K H0 H x wys L lc mv far) (s : Same H H') : HallIn K H0 H' x wys L lc mv far := ⟨i.at_.same s, i.ok, i.le⟩
theorem HallIn.but (i : HallIn K H0 H x wys L lc mv far) (d0 : Dr H0 h c) (d : Dr H h c) (b : But h c H H') : HallIn K H0 H' x wys L lc mv far := ⟨i.at_.but d0 d b, i.ok, i.le⟩
theorem Dr.ne0 (d0 : Dr H0 h c) (i : HallIn K H0 H x wys L lc mv far) : h ≠ x.a ∧ h ≠ x.ly ∧ c ≠ x.a ∧ c ≠ x.ly := by
  obtain ⟨m, k, ns, h1, h2, _⟩ := d0
  exact ⟨ne_of_none h1 i.at_.fa, ne_of_none h1 i.at_.fy, ne_of_none h2 i.at_.fa, ne_of_none h2 i.at_.fy⟩
theorem Dr.hall (d : Dr H h c) (d0 : Dr H0 h c) (i : HallIn K H0 H x wys L lc mv far) (b : ButHl x H H') : Dr H' h c := by
  obtain ⟨n1, n2, n3, n4⟩ := Dr.ne0 d0 i
  obtain ⟨m, k, ns, h1, h2, h3⟩ := d
  exact ⟨m, k, ns, b _ _ n1 n2 h1, b _ _ n3 n4 h2, h3⟩
theorem ButLw.keep (p : ButLw x h c H H') (d : Dr H h c) (i : HallIn K H0 H x wys L lc mv far) : Keep H H' := fun a xs e => by
  obtain ⟨m, k, ns, h1, h2, _⟩ := d
  obtain ⟨vs, h6, _⟩ := i.at_.ly
  exact p a _ (ne_of e h1 (by intro z; cases z)) (ne_of e h2 (by intro z; cases z)) (ne_of e i.at_.ob (by intro z; cases z)) (ne_of e h6 (by intro z; cases z)) e
end
end Ov
/-! ### comprehensions that errors leave: the words of the model -/
namespace Ov
open PySem PySem.Spec PyProof.Rows L2
/-- what is asked of a comprehension's end, by its own environment -/
def cPost (M : Model) (A : Around) (E : Value → Shared → Prop) (use : Option (Value → Sem Unit)) (Q : Value → Shared → Prop) (acc : Value) (cenv : Env) : Result → Shared → Prop := fun r s' =>
  match r with
  | .ok _ => compPost M A E use Q acc cenv.locals r s'
  | .error x => ∃ m, s'.heap.Ns cenv.locals m ∧ ∀ (h' : Heap) (m' : Str → Option Value), h'.Ns cenv.locals m' → Heap.SameBut cenv.locals s'.heap h' →
      wpAny M A (PySem.passOn "comprehension.variables-let-go" x cenv) (fun (_ : Value) _ => False) E { s' with heap := h' }
theorem comp_exc {M : Model} {A : Around} {E : Value → Shared → Prop} {s : Shared} {env : Env} {e : Expr} {scope : Scope} {pos : Pos} {newAcc first : Sem Value} {g : Comprehension} {gs : List Comprehension} {cl : List (Str × Addr)} {use : Option (Value → Sem Unit)} {Q : Value → Shared → Prop}
    (hc : clausesOf e = g :: gs) (hf : ∀ x, foldedSetIterable g.iter env x = pure x) (hcl : closureFor scope env = pure cl) (hk : scope.kind = .function)
    (hl : ∀ x ∈ scope.names, x.2 = .local → List.lookup x.1 scope.names = some .local)
    (h : wpAny M A first (fun x s₁ => wpAny M A (pyIter x) (fun it s₂ => wpAny M A newAcc (fun acc s₃ => wpAny M A (newFunctionEnv scope env.globals cl [] env.qual none .none (some env)) (fun cenv s₄ =>
      codeAny M A (.compStart e 0 it acc { scope := relabel scope env, locals := cenv.locals, globals := cenv.globals, cells := cenv.cells, qual := cenv.qual, func := cenv.func, code := cenv.code, frame := cenv.frame, builtins := cenv.builtins })
        (cPost M A E use Q acc { scope := relabel scope env, locals := cenv.locals, globals := cenv.globals, cells := cenv.cells, qual := cenv.qual, func := cenv.func, code := cenv.code, frame := cenv.frame, builtins := cenv.builtins }) s₄) E s₃) E s₂) E s₁) E s) :
    wpAny M A (comprehension e scope env pos newAcc false first use) Q E s := by
  unfold comprehension
  refine wpAny_bind (wpAny_mono h (fun x s1 h => ?_) fun _ _ z => z)
  refine wpAny_bind (wpAny_standAt ?_)
  rw [hc]
  refine wpAny_bind (wpAny_of_eq (hf x) ?_)
  refine wpAny_bind (wpAny_holding ?_)
  refine wpAny_mono h (fun it s2 h => ?_) fun _ _ z => z
  refine wpAny_standIf ?_
  refine wpAny_bind (wpAny_mono h (fun acc s3 h => ?_) fun _ _ z => z)
  refine wpAny_bind (wpAny_of_eq hcl ?_)
  refine wpAny_bind (wpAny_mono h (fun cenv s4 h => ?_) fun _ _ z => z)
  refine wpAny_holding ?_
  refine wpAny_bind (wpAny_attempt (wpAny_holding (wpAny_run (codeAny_mono h fun r s5 hr => ?_) (by decide))))
  have hkk : ({ scope := relabel scope env, locals := cenv.locals, globals := cenv.globals, cells := cenv.cells, qual := cenv.qual, func := cenv.func, code := cenv.code, frame := cenv.frame, builtins := cenv.builtins } : Env).scope.kind = .function := hk
  have hloc : ∀ x ∈ scope.names, x.2 = .local → ({ scope := relabel scope env, locals := cenv.locals, globals := cenv.globals, cells := cenv.cells, qual := cenv.qual, func := cenv.func, code := cenv.code, frame := cenv.frame, builtins := cenv.builtins } : Env).kindOf x.1 = some .local := fun x hx e => lookup_relabel_local (hl x hx e)
  cases r with
  | error x =>
    obtain ⟨m, hm, hr⟩ := hr
    refine wpAny_bind (wpAny_holding (wpAny_comp_letGo hkk _ s5 m ?_ hm fun h' m' hm' sb => ?_))
    · exact fun x hx e => hloc x (List.mem_filter.mp (List.mem_reverse.mp hx)).1 e
    · exact wpAny_mono (hr h' m' hm' sb) (fun _ _ z => z.elim) fun _ _ z => z
  | ok a =>
    cases use with
    | none =>
      obtain ⟨m, hm, hr⟩ := hr
      refine wpAny_bind (wpAny_holding (wpAny_comp_letGo hkk _ s5 m ?_ hm fun h' m' hm' sb => wpAny_pure (hr h' sb)))
      exact fun x hx e => hloc x (List.mem_filter.mp (List.mem_reverse.mp hx)).1 e
    | some u =>
      refine wpAny_bind (wpAny_rule (wpAny_bind (wpAny_holding (wpAny_mono hr (fun _ s6 ⟨m, hm, hr⟩ => ?_) fun _ _ z => z))))
      refine wpAny_bind (wpAny_comp_letGo hkk _ s6 m ?_ hm fun h' m' hm' sb => wpAny_pure (hr h' sb))
      intro x hx e
      refine hloc x ?_ e
      rcases List.mem_append.mp hx with hx | hx
      · exact (List.mem_filter.mp (List.mem_reverse.mp (List.mem_of_mem_drop hx))).1
      · exact (List.mem_filter.mp (List.mem_reverse.mp (List.mem_of_mem_take hx))).1

theorem noteFrame_eq {e : Value} {env cenv : Env} (h : cenv.frame = env.frame) : noteFrame e cenv = noteFrame e env := by
  unfold noteFrame PySem.frameOf
  rw [h]
theorem passOn_eq {α : Type} {w : String} {e : Value} {env cenv : Env} (h : cenv.frame = env.frame) : (PySem.passOn w e cenv : Sem α) = PySem.passOn w e env := by
  unfold PySem.passOn
  rw [h]
theorem ff_base {h h2 B B' : Heap} : ∀ {l : List Env}, h.FunFrames B l → (∀ b, B.get? b = none → ∀ o, h.get? b = some o → B'.get? b = none ∧ h2.get? b = some o) → h2.FunFrames B' l
  | [], _, _ => True.intro
  | _ :: _, ⟨k, ⟨L, o, e1, e2, e3, e4⟩, r⟩, f => ⟨k, ⟨L, o, e1, (f L e2 o e3).1, (f L e2 o e3).2, e4⟩, ff_base r f⟩
/-- an error that leaves a comprehension's step is noted by the frame, the variables let go, passed on -/
theorem lc_raise {X : Cx} {W : WX} (tk : Takes X W) (hs : X.stack = X.env :: X.outer) (hf : X.env.frame = some X.env.locals) {pins : List (Addr × Obj)} {σ0 : L2.St} {H3 : Hp} {s3 : Shared} (I3 : Inv X pins σ0 H3 s3) {fp : List Addr} (hfp : ∀ b ∈ fp, FpOk X pins H3 b ∧ b < s3.heap.objs.size)
    {scope : Scope} {cl : List (Str × Addr)} {C : Addr} (hC : s3.heap.objs.size ≤ C) {E : XK} (hW : ∀ cls d H, E cls d H → W cls d σ0 H) {use : Option (Value → Sem Unit)} {Q : Value → Shared → Prop} {acc : Value}
    {pinsB : List (Addr × Obj)} {σ : L2.St} {H : Hp} {s : Shared} (Ib : Inv (X.blk s3 H3 scope (compEnvC scope cl C X.env) fp) pinsB σ H s) {e : Value} {s' : Shared} (c : CX X.prog X.w X.stack H s E e s') :
    notedBy (model X.prog X.w) X.A (compEnvC scope cl C X.env) (fun x s'' => cPost (model X.prog X.w) X.A X.xe use Q acc (compEnvC scope cl C X.env) (.error x) s'') e s' := by
  obtain ⟨a, B, H', cls, d, rfl, fl, hok, ub, na, os, ag, hE⟩ := c
  have HC : H C = none := Ib.free
  have nC : ¬ C ∈ frs X.stack := fun z => by
    obtain ⟨_, o, ho, _⟩ := Heap.FunFrames.mem Ib.ok.funs z
    exact absurd (Heap.lt_size ho) (Nat.not_lt.mpr hC)
  obtain ⟨m, ⟨o, es, ep, ho, hd, hsk, hfi⟩, _⟩ := Ib.loc
  have eB : B.get? C = some o := ub.keep C o ho HC nC
  have fr : ∀ {b}, b ∈ frs X.stack → B.get? b = none ∧ ∃ o, s'.heap.get? b = some o ∧ ∀ vs, o.data ≠ .fields vs := fun hb => Heap.FunFrames.mem fl.2.2.1 hb
  have fHC : H' C = none := ub.free C o ho HC
  unfold notedBy
  rw [noteFrame_eq (env := X.env) (cenv := compEnvC scope cl C X.env) rfl]
  have fl' := fl
  rw [hs] at fl'
  refine HandSPX.looks_onZ Zc.steady (by rw [I3.ok.frames, hs]) hf fl' fun h1 held up1 => ?_
  refine ⟨m, ⟨o, es, ep, held.1 C o eB, hd, hsk, hfi⟩, fun h2 m' hm' sb => ?_⟩
  rw [passOn_eq (env := X.env) (cenv := compEnvC scope cl C X.env) rfl]
  obtain ⟨st1, nb1, ff1, oe, vs, T, oT, ts, ha, hz, hvs, h1T, nT, neT, hT, hts, h3T⟩ := held
  have naC : a ≠ C := fun z => by
    rw [z, eB] at nb1
    cases nb1
  have nTC : T ≠ C := fun z => by
    rw [z, eB] at nT
    cases nT
  obtain ⟨B', b1, b2⟩ := L2.restrict B fun b => decide (b ≠ C)
  have bn : ∀ {b}, b ≠ C → B'.get? b = B.get? b := fun n => b1 _ (decide_eq_true n)
  have bC : B'.get? C = none := b2 _ (decide_eq_false fun z => z rfl)
  have bS : ∀ {b o}, B'.get? b = some o → b ≠ C ∧ B.get? b = some o := fun {b o} h => by
    by_cases n : b = C
    · rw [n, bC] at h
      cases h
    · exact ⟨n, by rw [← bn n]; exact h⟩
  have held2 : HandSPX.HeldZ B' (X.env :: X.outer) a (Zc cls d) X.env.locals h2 := by
    refine ⟨fun b o' h => ?_, by rw [bn naC]; exact nb1, ?_, oe, vs, T, oT, ts, by rw [sb.2 a naC]; exact ha, hz, hvs, h1T, by rw [bn nTC]; exact nT, neT, by rw [sb.2 T nTC]; exact hT, hts, h3T⟩
    · obtain ⟨n, h⟩ := bS h
      rw [sb.2 b n]
      exact st1 b o' h
    · refine ff_base ff1 fun b hb o' ho' => ?_
      have n : b ≠ C := fun z => by
        rw [z, eB] at hb
        cases hb
      exact ⟨by rw [bn n]; exact hb, by rw [sb.2 b n]; exact ho'⟩
  unfold PySem.passOn
  refine wpAny_bind (wpAny_field (o := oe) (vs := vs) (x := .ref T) (by show h2.get? a = _; rw [sb.2 a naC]; exact ha) hvs h1T ?_)
  have hne : (Value.ref T == Value.none) = false := rfl
  rw [hf]
  simp only [hne, Bool.false_eq_true, if_false]
  refine wpAny_bind (HandSPX.setFlight_onZ (s := { s' with heap := h2 }) held2 fun h3 held3 up3 => ?_)
  refine wpAny_throw ?_
  refine tk _ _ ?_
  have d1 : ∀ {b o}, b ≠ C → s'.heap.get? b = some o → (∀ vs, o.data ≠ .fields vs) → ∃ sl, h3.get? b = some { cls := o.cls, dict := o.dict, data := o.data, slots := sl } := fun {b o} n h1' nf => by
    obtain ⟨sl, e1⟩ := up1 b o h1' nf
    have e2 : h2.get? b = _ := (sb.2 b n).trans e1
    obtain ⟨sl2, e3⟩ := up3 b _ e2 nf
    exact ⟨sl2, e3⟩
  -- the heap as it is told
  obtain ⟨G, g1, g2⟩ := L2.restrict s'.heap fun b => (B.get? b).isSome || decide (b ∈ frs X.stack)
  have gB : ∀ b o, B.get? b = some o → G.get? b = some o := fun b o e => by
    rw [g1 b (by rw [e]; rfl)]
    exact fl.1 b o e
  have gF : ∀ b, b ∈ frs X.stack → G.get? b = s'.heap.get? b := fun b hb => g1 b (by rw [decide_eq_true hb, Bool.or_true])
  have bk := Ib.base
  have un : Un (frs X.stack) fp H3 H' s3.heap G := by
    refine ⟨fun b o e n h1 h2 => ?_, fun b o e n h1 h2 => ?_, fun b o e n h1 => ?_, fun b o e h1 => ?_, fun b xs e => ub.tups b xs (bk.tups b xs e), fun b o u e => ub.frzs b o u (bk.frzs b o u e), fun b ps e => ?_⟩
    · exact gB b o (ub.keep b o (bk.keep b o e n h1 h2) (bk.free b o e n h2) h1)
    · obtain ⟨sl, e1⟩ := bk.slot b o e n h1 h2
      obtain ⟨sl2, e2⟩ := ub.slot b _ e1 h1
      exact ⟨sl2, by rw [gF b h1]; exact e2⟩
    · obtain ⟨o', e'⟩ := bk.there b o e h1
      exact ub.free b o' e' (bk.free b o e n h1)
    · obtain ⟨o', e'⟩ := bk.there b o e h1
      by_cases hb : b ∈ frs X.stack
      · obtain ⟨sl, e2⟩ := ub.slot b o' e' hb
        exact ⟨_, by rw [gF b hb]; exact e2⟩
      · obtain ⟨o2, e2⟩ := ub.there b o' e' hb
        exact ⟨o2, gB b o2 e2⟩
    · obtain ⟨m1, q1⟩ := bk.tbls b ps e
      obtain ⟨m2, q2⟩ := ub.tbls b _ q1
      exact ⟨m1 ++ m2, by rw [← Array.append_assoc]; exact q2⟩
  have I4 : Inv X pins σ0 H' { heap := G, gens := s'.gens, drawn := s'.drawn, toks := s'.toks, os := s.os } := I3.call' Ib.os un (HOk.kept hok gB) ag fun b hb => by
    obtain ⟨_, q2, _, q4, q5, q6⟩ := (hfp b hb).1
    exact ⟨q4, q2, q5, q6⟩
  obtain ⟨_, q2, _, q4, q5, q6⟩ := I3.fpOk hC fHC
  obtain ⟨G2, k1, k2⟩ := L2.restrict G fun b => decide (b ≠ C)
  have kn : ∀ {b}, b ≠ C → G2.get? b = G.get? b := fun n => k1 _ (decide_eq_true n)
  have I5 := I4.turned (h' := G2) (t' := s'.toks) (it := C) (fun b o n e => by rw [kn n]; exact e) fHC q2 q4 q5 q6
  have og : ∀ {b o}, G2.get? b = some o → b ≠ C ∧ s'.heap.get? b = some o ∧ (¬ b ∈ frs X.stack → B'.get? b = some o) := fun {b o} e => by
    by_cases n : b = C
    · rw [n, k2 _ (decide_eq_false fun z => z rfl)] at e
      cases e
    · rw [kn n] at e
      cases q : (B.get? b).isSome || decide (b ∈ frs X.stack) with
      | false =>
        rw [g2 b q] at e
        cases e
      | true =>
        rw [g1 b q] at e
        refine ⟨n, e, fun nb => ?_⟩
        rw [decide_eq_false nb, Bool.or_false] at q
        obtain ⟨o', e'⟩ := Option.isSome_iff_exists.mp q
        have := (fl.1 b o' e').symm.trans e
        cases this
        rw [bn n]
        exact e'
  exact ⟨a, B', _, pins, σ0, H', cls, d, rfl, I5, fun b o e hb => (og e).2.2 hb, fun b o e nf => d1 (og e).1 (og e).2.1 nf, .inr (.inr (by rw [hs]; exact held3)), na, os, ag, hW cls d H' hE⟩
end Ov
/-! ### the rule for a comprehension that errors leave -/
namespace Ov
open PySem PySem.Spec PyProof.Rows L2
/-- the block of a comprehension, with its own way out -/
@[reducible] def blkX (X : Cx) (s : Shared) (H : Hp) (scope : Scope) (ce : Env) (fp : List Addr) (xe : Value → Shared → Prop) : Cx := { X.blk s H scope ce fp with xe := xe }
theorem inv_to {X : Cx} {s0 : Shared} {H0 : Hp} {scope : Scope} {ce : Env} {fp : List Addr} {xe : Value → Shared → Prop} {pins : List (Addr × Obj)} {σ : L2.St} {H : Hp} {s : Shared} (I : Inv (X.blk s0 H0 scope ce fp) pins σ H s) : Inv (blkX X s0 H0 scope ce fp xe) pins σ H s :=
  ⟨⟨I.ok.mod, I.ok.kind, I.ok.glob, I.ok.blt, I.ok.above, I.ok.inj, I.ok.has, I.ok.cab, I.ok.hd, I.ok.frames, I.ok.stk, I.ok.exf, I.ok.bs, I.ok.bsz, I.ok.noex, I.ok.exfs, I.ok.funs, I.ok.frf⟩, I.os, I.bare, I.base, I.loc, I.cell, I.free, I.freeC, I.pin, I.hok, I.len⟩
theorem inv_of {X : Cx} {s0 : Shared} {H0 : Hp} {scope : Scope} {ce : Env} {fp : List Addr} {xe : Value → Shared → Prop} {pins : List (Addr × Obj)} {σ : L2.St} {H : Hp} {s : Shared} (I : Inv (blkX X s0 H0 scope ce fp xe) pins σ H s) : Inv (X.blk s0 H0 scope ce fp) pins σ H s :=
  ⟨⟨I.ok.mod, I.ok.kind, I.ok.glob, I.ok.blt, I.ok.above, I.ok.inj, I.ok.has, I.ok.cab, I.ok.hd, I.ok.frames, I.ok.stk, I.ok.exf, I.ok.bs, I.ok.bsz, I.ok.noex, I.ok.exfs, I.ok.funs, I.ok.frf⟩, I.os, I.bare, I.base, I.loc, I.cell, I.free, I.freeC, I.pin, I.hok, I.len⟩
theorem lcX_loop {X : Cx} {W : WX} {E : XK} (tk : Takes X W) (hW : ∀ cls d σ H, E cls d H → W cls d σ H) (hs : X.stack = X.env :: X.outer) (hf : X.env.frame = some X.env.locals) {pins : List (Addr × Obj)} {s3 : Shared} {σ : L2.St} {H3 : Hp} {Q : VK} {elt tg iter : Expr} {scope : Scope} {own : List (Str × Nat)} {pos : Pos}
    {g : TG} {te : TE} {use : Option (Value → Sem Unit)} {Qf : Value → Shared → Prop} (hc : X.calm = true) (hN : X.N.Nodup) (I3 : Inv X pins σ H3 s3) (ok : BlkOk X.N X.env.scope scope own)
    (hg : ∀ s H C cl fp, PG (X.blk s H scope (compEnvC scope cl C X.env) fp) tg g)
    (he : ∀ s H C cl fp xe, Passes (L2.CX X.prog X.w) (blkX X s H scope (compEnvC scope cl C X.env) fp xe) E → PE (blkX X s H scope (compEnvC scope cl C X.env) fp xe) elt te)
    {it D : Addr} {fp : List Addr} {tn : Nat → Heap → Prop} {J : L2.It} (T : Turn X.prog X.w X.K tg J fp it tn) (f3 : ∀ b ∈ fp, FpOk X pins H3 b ∧ b < s3.heap.objs.size) (st3 : tn 0 s3.heap) {W0 : Nat → Nat → Hp → Prop} {m0 : Nat} (w0 : W0 0 m0 H3)
    (turn : ∀ i m H, W0 i m H → (J.stop i H ∧ Q (.ref D) H) ∨ (J.go i H ∧ ∃ Nx : Hp → Prop, (∀ H', Nx H' → ∃ m', m' < m ∧ W0 (i + 1) m' H') ∧ ∀ x H', J.yld i H x H' → g x (wipe σ (own.map (·.2))) H' fun σ2 H2 => wipe σ2 (own.map (·.2)) = wipe σ (own.map (·.2)) ∧ tYes σ2 H2 fun b H3 =>
      if b = true then te σ2 H3 fun y H4 => ∃ acc, H4 D = some (.lst acc) ∧ acc.length < sizeLine ∧ Nx (upd H4 D (.lst (acc ++ [y]))) else Nx H3))
    (hq : ∀ D C s' m H', Inv X pins σ H' s' → Q (.ref D) H' → s'.heap.Ns C m → FpOk X pins H' C → compPost (model X.prog X.w) X.A X.xe use Qf (.ref D) C (.ok .next) s') :
    codeAny (model X.prog X.w) X.A (.compStart (.ListComp elt [⟨tg, iter, [], 0⟩] scope pos) 0 (.ref it) (.ref D) (compEnvC scope (cellsFrom (s3.heap.objs.size + 1) scope.names (cloFrom X.env.cells scope.names [])) s3.heap.objs.size X.env))
      (cPost (model X.prog X.w) X.A X.xe use Qf (.ref D) (compEnvC scope (cellsFrom (s3.heap.objs.size + 1) scope.names (cloFrom X.env.cells scope.names [])) s3.heap.objs.size X.env))
      { heap := pushCells (s3.heap.push { cls := .type "dict", data := .dict #[] }) scope.names, gens := s3.gens, drawn := s3.drawn, toks := s3.toks, os := s3.os } := by
  have I4 := block_start I3 ok hN f3
  have st4 := T.keep 0 s3.heap (pushCells (s3.heap.push { cls := .type "dict", data := .dict #[] }) scope.names) st3 fun b _ o e => pushCells_keeps _ _ b o (Heap.get?_push_of_some _ e)
  generalize cellsFrom (s3.heap.objs.size + 1) scope.names (cloFrom X.env.cells scope.names []) = cl at I4 ⊢
  have fpb : ∀ {H' : Hp}, (∀ b ∈ fp, H' b = none) → ∀ b ∈ fp, FpOk (X.blk s3 H3 scope (compEnvC scope cl s3.heap.objs.size X.env) fp) [] H' b := fun nf b hb => by
    have z := I4.ok.exf b hb
    exact ⟨nf b hb, z.1, I4.ok.exfs b hb, .inl hb, z.2, fun p hp => nomatch hp⟩
  refine (fun L => codeAny_compStart_list L (T.self X.A 0 _ _ _ st4 L)) ?_
  refine compLoop_any (fun n sN => ∃ i H, W0 i n H ∧ Inv (X.blk s3 H3 scope (compEnvC scope cl s3.heap.objs.size X.env) fp) [] (wipe σ (own.map (·.2))) H sN ∧ tn i sN.heap ∧ ∀ b ∈ fp, H b = none) ?_ m0 ⟨0, H3, w0, I4, st4, fun b hb => (f3 b hb).1.1⟩
  rintro n sN ⟨i, Hn, wn, In, tni, nfp⟩
  rcases turn i n Hn wn with ⟨hstop, hQ⟩ | ⟨hgo, Nx, hNx, hturn⟩
  · refine thn (T.done (X.blk s3 H3 scope (compEnvC scope cl s3.heap.objs.size X.env) fp) rfl rfl rfl hc i [] sN _ Hn _ In (fpb nfp) tni hstop) fun r s1 z => ?_
    obtain ⟨rfl, I1⟩ := z
    obtain ⟨m, hm, _⟩ := I1.loc
    have IX : Inv X pins σ Hn s1 := I3.call' I1.os I1.base I1.hok I1.bare fun b hb => by
      obtain ⟨_, q2, _, q4, q5, q6⟩ := (f3 b hb).1
      exact ⟨q4, q2, q5, q6⟩
    exact hq D _ s1 m Hn IX hQ hm (I3.fpOk (Nat.le_refl _) I1.free)
  · refine thn (T.item (X.blk s3 H3 scope (compEnvC scope cl s3.heap.objs.size X.env) fp) rfl rfl rfl hc i [] sN _ Hn _ In (fpb nfp) tni hgo) fun r s1 z => ?_
    obtain ⟨u, rfl, z⟩ := z
    refine thn z fun _ s2 z => ?_
    obtain ⟨x, H', I2, rx, hy, tn2, nf2⟩ := z
    have Ip := I2.pinned (fpb nf2) fun b hb => T.obj (i + 1) s2.heap tn2 b hb
    refine thnF ((hg s3 H3 s3.heap.objs.size cl fp).run _ s2 _ H' x u _ Ip rx (hturn x H' hy)) fun _ s4 z => ?_
    obtain ⟨σ4, H4, I5, hw, hy2⟩ := z
    refine wpAny_pure ?_
    refine thn ((he s3 H3 s3.heap.objs.size cl fp _ fun pinsB σB HB sB e s' IB c => lc_raise tk hs hf I3 f3 (Nat.le_refl _) (fun cls d H h => hW cls d σ H h) (inv_of IB) c).run _ s4 σ4 H4 _ (inv_to I5) hy2) fun v s5 z => ?_
    obtain ⟨y, H5, I6, ry, acc, eD, hacc, hn⟩ := z
    refine app_ok (X := X.blk s3 H3 scope (compEnvC scope cl s3.heap.objs.size X.env) fp) (inv_of I6) eD hacc ry fun s6 I7 => ?_
    obtain ⟨m', lt, hw'⟩ := hNx _ hn
    have hp : ∀ b ∈ fp, ∀ o, s2.heap.get? b = some o → s6.heap.get? b = some o ∧ (upd H5 D (.lst (acc ++ [y]))) b = none := fun b hb o e => by
      have z := I7.pin (b, o) (List.mem_append_right _ (List.mem_append_right _ (mem_pinsAt hb e)))
      exact ⟨z.1, z.2.1⟩
    refine ⟨m', lt, i + 1, _, hw', (I7.unpinned (pins := []) (pl := pinsAt fp s2.heap)).weak (by rw [wipe_length, I7.len, ← I3.len]) fun j v e => ?_, T.keep (i + 1) s2.heap s6.heap tn2 fun b hb o e => (hp b hb o e).1, fun b hb => ?_⟩
    · rw [← hw] at e
      exact (wipe_some e).1
    · obtain ⟨o, e, _⟩ := T.obj (i + 1) s2.heap tn2 b hb
      exact (hp b hb o e).2
theorem lcX_core {X : Cx} {W : WX} {E : XK} (tk : Takes X W) (hW : ∀ cls d σ H, E cls d H → W cls d σ H) (hs : X.stack = X.env :: X.outer) (hf : X.env.frame = some X.env.locals) {pins : List (Addr × Obj)} {s : Shared} {σ : L2.St} {H : Hp} {Q : VK} {elt tg iter : Expr} {scope : Scope} {own : List (Str × Nat)} {pos pos' : Pos}
    {wi : TI} {g : TG} {te : TE} {use : Option (Value → Sem Unit)} {Qf : Value → Shared → Prop} (hc : X.calm = true) (hN : X.N.Nodup) (I : Inv X pins σ H s) (hi : PI X tg iter wi) (ok : BlkOk X.N X.env.scope scope own)
    (hg : ∀ s H C cl fp, PG (X.blk s H scope (compEnvC scope cl C X.env) fp) tg g)
    (he : ∀ s H C cl fp xe, Passes (L2.CX X.prog X.w) (blkX X s H scope (compEnvC scope cl C X.env) fp xe) E → PE (blkX X s H scope (compEnvC scope cl C X.env) fp xe) elt te)
    (hfold : ∀ x, foldedSetIterable iter X.env x = pure x) (h : tLc wi g tYes te (own.map (·.2)) σ H Q)
    (hq : ∀ D C s' m H', Inv X pins σ H' s' → Q (.ref D) H' → s'.heap.Ns C m → FpOk X pins H' C → compPost (model X.prog X.w) X.A X.xe use Qf (.ref D) C (.ok .next) s') :
    wpAny (model X.prog X.w) X.A (comprehension (.ListComp elt [⟨tg, iter, [], 0⟩] scope pos) scope X.env pos' (newList []) false (eval iter X.env) use) Qf X.xe s := by
  refine comp_exc (g := ⟨tg, iter, [], 0⟩) (gs := []) rfl hfold (closure_ok fun y hy e => I.ok.has y.1 (ok.free y hy e)) ok.kind (fun x hx e => by
    have z := ok.uniq x hx
    rw [e] at z
    exact z) ?_
  refine thn (hi.run pins s σ H _ I h) fun xv s1 hx => thn hx fun itv s2 h2 => ?_
  obtain ⟨it, fp, tn, J, H2, rfl, I2, T, st2, f2, q⟩ := h2
  unfold newList
  refine wpAny_newObj_type (newEnv_comp ?_)
  have hDn := HOk.fresh I2.hok (Nat.le_refl s2.heap.objs.size)
  obtain ⟨W0, ⟨m0, w0⟩, turn⟩ := q s2.heap.objs.size hDn
  have I3 : Inv X pins σ (upd H2 s2.heap.objs.size (.lst [])) { heap := s2.heap.push { cls := .type "list", dict := none, data := .seq (List.toArray []) }, gens := s2.gens, drawn := s2.drawn, toks := s2.toks, os := s2.os } :=
    I2.laid (fun b o e => Heap.get?_push_of_some _ e) (Nat.le_refl _) ⟨Nat.zero_le _, [], 0, .nil, Heap.get?_push_size _ rfl⟩
  have f3 : ∀ b ∈ fp, FpOk X pins (upd H2 s2.heap.objs.size (.lst [])) b ∧ b < (s2.heap.push { cls := .type "list", dict := none, data := .seq (List.toArray []) }).objs.size := fun b hb => by
    obtain ⟨o, e, _⟩ := T.obj 0 s2.heap st2 b hb
    have lt := Heap.lt_size e
    obtain ⟨z1, z2⟩ := f2 b hb
    refine ⟨⟨?_, z2⟩, ?_⟩
    · rw [upd_ne (Nat.ne_of_lt lt)]
      exact z1
    · rw [Heap.size_push]
      exact Nat.lt_succ_of_lt lt
  have st3 := T.keep 0 s2.heap (s2.heap.push { cls := .type "list", dict := none, data := .seq (List.toArray []) }) st2 fun b _ o e => Heap.get?_push_of_some _ e
  have L := lcX_loop (use := use) (Qf := Qf) (elt := elt) (iter := iter) (pos := pos) tk hW hs hf hc hN I3 ok hg he T f3 st3 w0 turn hq
  exact L
/-- y = [e for x in xs], where e may raise -/
theorem ps_setLcX {X : Cx} {W : WX} {E : XK} {i : Nat} {y : Str} {py : Pos} {elt tg iter : Expr} {scope : Scope} {own : List (Str × Nat)} {pos spos : Pos} {wi : TI} {g : TG} {te : TE} (tk : Takes X W) (hW : ∀ cls d σ H, E cls d H → W cls d σ H) (hs : X.stack = X.env :: X.outer) (hf : X.env.frame = some X.env.locals)
    (hc : X.calm = true) (hN : X.N.Nodup) (hy : X.N[i]? = some y) (hyl : List.lookup y X.env.scope.names = some .local) (hsw : swapsWith (.ListComp elt [⟨tg, iter, [], 0⟩] scope pos) (some (.Name y py)) spos.line X.env = pure true) (hi : PI X tg iter wi) (ok : BlkOk X.N X.env.scope scope own)
    (hg : ∀ s H C cl fp, PG (X.blk s H scope (compEnvC scope cl C X.env) fp) tg g)
    (he : ∀ s H C cl fp xe, Passes (L2.CX X.prog X.w) (blkX X s H scope (compEnvC scope cl C X.env) fp xe) E → PE (blkX X s H scope (compEnvC scope cl C X.env) fp xe) elt te)
    (hfold : ∀ x, foldedSetIterable iter X.env x = pure x := by intro _; rfl) :
    PS X (.Assign [.Name y py] (.ListComp elt [⟨tg, iter, [], 0⟩] scope pos) spos) (tAsg (tLc wi g tYes te (own.map (·.2))) (gName i)) := by
  refine ⟨fun pins s σ H D I h => ?_⟩
  rw [exec_Assign_Name_used y py _ spos hsw]
  refine wpAny_bind (wpAny_standAt (wpAny_bind ?_))
  refine wpAny_bind (thn (lcX_core tk hW hs hf hc hN I hi ok hg he hfold h fun L C s' m H' I' q hn f => ?_) fun x s' hq => wpAny_pure (wpAny_pure hq))
  refine wpAny_assign_Name (store_ok2 (v := .ref L) I' hN hy (Or.inl hyl) (show RelV (.ref L) (Value.ref L) from rfl) (fun s2 I2 x => ?_) (Or.inr hyl))
  obtain ⟨a, sb, ha⟩ := x
  obtain ⟨f0, f1, f2, f3, f4, f5⟩ := f
  have haC : C ≠ a := by
    rcases ha with rfl | z
    · exact f1
    · exact fun e => f4 y a z e.symm
  exact ⟨m, hn.sameBut sb haC, fun h3 sb3 => ⟨σ.set i (some (.ref L)), H', I2.turned (fun b o hb e => (sb3.2 b hb).trans e) f0 f1 f3 f4 f5, q⟩⟩
end Ov
/-! ### a method's call within a try -/
namespace Ov
open PySem PySem.Spec PyProof.Rows L2
theorem ps_fldK {X : Cx} {K : PySem.W.Frag} {o value : Expr} {f : Str} {pos pos' : Pos} {ta tv : TE} (hK : X.K = K) (ho : PE X o ta) (hv : PE X value tv) (hs : swapsWith value (some (o.Attribute f pos')) pos.line X.env = pure false) : PS X (.Assign [o.Attribute f pos'] value pos) (sFld K ta tv f) := by
  subst hK
  exact ps_fld ho hv hs
theorem pe_methAt {X : Cx} {CX : CXT} {k : Nat} {f C : Addr} {fd : FuncData} {ps : List Str} {sp : Sp} {E : L2.St → XK} {m : Str} {pos apos : Pos} {e o : Expr} {es : List Expr} {ta : TE} {t : TA} {pl : Sem Bool} (he : PE X o ta) (c : Cls X.K C) (hm : Meth X.K C m f) (F : FnOk X.prog X.w X.K X.mg X.base CX k f fd ps sp) (hr : Room k X.A)
    (hb : Binds X.K fd ps []) (hx : ∀ σ, PassesAt CX X σ (E σ)) (ha : L2.PA X (e :: es) t) (hst : starEach (e :: es) X.env = (false, eval e X.env) :: starEach es X.env := by rfl) (hpl : ((backTo pos (starEach es X.env)).any fun x => x.1) = false := by rfl)
    (ht : eval ((o.Attribute m apos).Call (e :: es) [] pos) X.env = (do
      let ov ← eval o X.env
      standAt apos.atName
      let (f, first) ← holding [ov] (getMethod ov m pl)
      callWith pos f first (backTo pos (starEach (e :: es) X.env)) (backToKw pos (keywordEach [] X.env))) := by rfl) :
    PE X ((o.Attribute m apos).Call (e :: es) [] pos) (fun σ H Q => tMeth C m sp [] (E σ) ta t σ H Q) := by
  refine ⟨fun pins s σ H Q I h => W.methodCall_KW (thn (he.run pins s σ H _ I h) fun u s1 x => ?_) ht⟩
  obtain ⟨x1, H1, I1, rx, a, dx, fs, rfl, ea, l, q⟩ := x
  obtain rfl : u = Value.ref a := rx
  refine getmeth_ok I1 ea c hm l (W.callWith_K I.ok.mod.kin hm.kp (thn (ha.run pos pins s1 σ H1 _ I1 q) fun us s2 x => ?_) hst hpl)
  obtain ⟨vs, H2, I2, r, q2⟩ := x
  exact ⟨Inv.kIn I2, run_fnS F hr hb (hx σ) I2 (.cons (show RelV (.ref a) (Value.ref a) from rfl) r) (by simpa using q2)⟩
end Ov
/-! ### the program's runs -/
namespace Ov
open PySem PySem.Spec PyProof.Rows L2
/-- u is the i-th word, and what is within it -/
def SubAt (rows : List (Op × Int × List Nat)) (i : Nat) (u : W) : Prop := ∃ pre post, rows = pre ++ u.rows i ++ post ∧ pre.length = i
theorem SubAt.all (w : W) : SubAt (w.rows 0) 0 w := ⟨[], [], by simp, rfl⟩
theorem SubAt.row {rows : List (Op × Int × List Nat)} {i : Nat} {o : Op} {g : Int} {as : List W} (h : SubAt rows i (.mk o g as)) : rows[i]? = some (o, g, starts (i + 1) as) := by
  obtain ⟨pre, post, rfl, rfl⟩ := h
  rw [List.append_assoc, List.getElem?_append_right (Nat.le_refl _), Nat.sub_self, W.rows_mk]
  rfl
theorem rowss_get : ∀ (ws : List W) (b j : Nat) (a : W), ws[j]? = some a → (starts b ws)[j]? = some (b + W.sizes (ws.take j)) ∧ ∃ pre post, W.rowss b ws = pre ++ a.rows (b + W.sizes (ws.take j)) ++ post ∧ pre.length = W.sizes (ws.take j)
  | [], _, _, _, h => by simp at h
  | x :: r, b, 0, a, h => by
    obtain rfl : x = a := Option.some.inj h
    refine ⟨by rw [List.take_zero, W.sizes]; rfl, [], W.rowss (b + x.size) r, ?_, by rw [List.take_zero, W.sizes]; rfl⟩
    rw [List.take_zero, W.sizes, W.rowss]
    rfl
  | x :: r, b, j + 1, a, h => by
    obtain ⟨h1, pre, post, h2, h3⟩ := rowss_get r (b + x.size) j a h
    rw [List.take_succ_cons, W.sizes, ← Nat.add_assoc]
    refine ⟨h1, x.rows b ++ pre, post, ?_, by rw [List.length_append, W.rows_len, h3]⟩
    rw [W.rowss, h2]
    simp
theorem SubAt.arm {rows : List (Op × Int × List Nat)} {i : Nat} {o : Op} {g : Int} {as : List W} (h : SubAt rows i (.mk o g as)) {j : Nat} {a : W} (ha : as[j]? = some a) : ∃ k, (starts (i + 1) as)[j]? = some k ∧ SubAt rows k a := by
  obtain ⟨pre, post, rfl, rfl⟩ := h
  obtain ⟨h1, p2, q2, h2, h3⟩ := rowss_get as (pre.length + 1) j a ha
  refine ⟨_, h1, pre ++ [(o, g, starts (pre.length + 1) as)] ++ p2, q2 ++ post, ?_, by simp [h3]; omega⟩
  rw [W.rows_mk, h2]
  simp
/-- an answer of the program: what it comes to, or a fault -/
def AnsP (K : PySem.W.Frag) (x : PA) (pr : List (Int × W)) (told : V) (oth : Int) (H : Hp) (Q : VK) (E : XK) (r : Res) : Prop := match r with
  | .ok b s => ∀ H' y, ButP x H H' → RunAt K H' x pr told s oth → PV H' y b → Q y H'
  | .bad f s => ∀ H' d oth', ButP x H H' → RunAt K H' x pr told s oth' → H' d = some (.xd [("word", .str f.name)]) → E (.ref (He.ga K "Fault")) (some d) H'
theorem ButP.refl {x : PA} {H : Hp} : ButP x H H := fun _ _ _ _ _ e => e
theorem ButP.trans {x : PA} {H H1 H2 : Hp} (p : ButP x H H1) (q : ButP x H1 H2) : ButP x H H2 := fun b o n1 n2 n3 e => q b o n1 n2 n3 (p b o n1 n2 n3 e)
theorem ButP.same {x : PA} {H H' : Hp} (s : Same H H') : ButP x H H' := fun b o _ _ _ e => s b o e
theorem RunAt.keep {K : PySem.W.Frag} {H H' : Hp} {x : PA} {pr : List (Int × W)} {told : V} {s : RS} {oth : Int} (h : RunAt K H x pr told s oth) (b : ButP x H H') : Keep H H' := fun a xs e => b a _ (ne_of e h.ob (by intro z; cases z)) (ne_of e h.sa (by intro z; cases z)) (ne_of e h.ro (by intro z; cases z)) e
theorem AnsP.but {K : PySem.W.Frag} {x : PA} {pr : List (Int × W)} {told : V} {oth : Int} {H H1 : Hp} {Q : VK} {E : XK} (b : ButP x H H1) : ∀ {r : Res}, AnsP K x pr told oth H Q E r → AnsP K x pr told oth H1 Q E r
  | .ok _ _, h => fun H' y b' => h H' y (b.trans b')
  | .bad _ _, h => fun H' d oth' b' => h H' d oth' (b.trans b')
theorem RunAt.same {K : PySem.W.Frag} {H H' : Hp} {x : PA} {pr : List (Int × W)} {told : V} {s : RS} {oth : Int} (h : RunAt K H x pr told s oth) (e : Same H H') : RunAt K H' x pr told s oth := by
  obtain ⟨h1, ⟨bs, h2, h3, h4⟩, h5, h6, n⟩ := h
  exact ⟨e _ _ h1, ⟨bs, e _ _ h2, L2.Paired.mapP h3 fun _ _ z => z.same e, h4⟩, e _ _ h5, e _ _ h6, n⟩
/-- a fault that is told here -/
theorem AnsP.out {K : PySem.W.Frag} {x : PA} {pr : List (Int × W)} {told : V} {oth oth' : Int} {H H1 : Hp} {Q : VK} {E : XK} {f : Flt} {s : RS} (h : AnsP K x pr told oth H Q E (.bad f s)) (b : ButP x H H1) (r : RunAt K H1 x pr told s oth') : Out K H1 E f.name := fun H' d s' _ e => h H' d oth' (b.trans (ButP.same s')) (r.same s') e
/-- the object's two numbers are written -/
theorem runFs_calls {x : PA} {told : V} {c d : Int} {oth : Int} : putF "calls" (.int d) (runFs x told c oth) = runFs x told d oth := by rfl
theorem runFs_others {x : PA} {told : V} {c : Int} {o1 o2 : Int} : putF "others" (.int o2) (runFs x told c o1) = runFs x told c o2 := by rfl
theorem runFs_told {x : PA} {t1 t2 : V} {c : Int} {o : Int} : putF "told" t2 (runFs x t1 c o) = runFs x t2 c o := by rfl
theorem RunAt.wr {K : PySem.W.Frag} {H : Hp} {x : PA} {pr : List (Int × W)} {told told' : V} {s : RS} {oth oth' : Int} {c : Nat} (h : RunAt K H x pr told s oth) : RunAt K (upd H x.a (.ins (He.ga K "Run") x.dx (runFs x told' (c : Int) oth'))) x pr told' { s with calls := c } oth' ∧ ButP x H (upd H x.a (.ins (He.ga K "Run") x.dx (runFs x told' (c : Int) oth'))) := by
  obtain ⟨h1, ⟨bs, h2, h3, h4⟩, h5, h6, n⟩ := h
  have ne : ∀ {b : Addr} {l : List V}, H b = some (.lst l) → b ≠ x.a := fun e => ne_of e h1 (by intro z; cases z)
  have kt : Keep H (upd H x.a (.ins (He.ga K "Run") x.dx (runFs x told' (c : Int) oth'))) := fun b xs e => by
    rw [upd_ne (ne_of e h1 (by intro z; cases z))]
    exact e
  refine ⟨⟨upd_same, ⟨bs, by rw [upd_ne (ne h2)]; exact h2, L2.Paired.mapP h3 fun b f z => ?_, h4⟩, by rw [upd_ne (ne h5)]; exact h5, by rw [upd_ne (ne h6)]; exact h6, n⟩, fun b o n1 _ _ e => by rw [upd_ne n1]; exact e⟩
  obtain ⟨ys, z1, z2⟩ := z
  exact ⟨ys, by rw [upd_ne (ne z1)]; exact z1, L2.Paired.mapP z2 fun _ _ y => y.keep kt⟩
def spEnter (K : PySem.W.Frag) : Sp := fun vs H Q _ => ∃ (x : PA) (pr : List (Int × W)) (told v : V) (s : RS) (oth : Int) (f : Nat), vs = [.ref x.a, v, .int (f : Int)] ∧ RunAt K H x pr told s oth ∧ s.row.length ≤ most ∧ ∀ H', ButP x H H' → RunAt K H' x pr told { s with row := s.row ++ [f] } oth → Q .non H'
def spBack (K : PySem.W.Frag) : Sp := fun vs H Q _ => ∃ (x : PA) (pr : List (Int × W)) (told : V) (s : RS) (oth : Int) (p : Addr) (f w : Nat), vs = [.ref x.a, .ref p] ∧ H p = some (.tup [.int (f : Int), .int (w : Int)]) ∧ RunAt K H x pr told s oth ∧ s.row.length ≤ most ∧ ∀ H', ButP x H H' → RunAt K H' x pr told { s with row := s.row ++ [f] } oth → Q .non H'
def spCallP (K : PySem.W.Frag) (pr : List (Int × W)) (n : Nat) : Sp := fun vs H Q E => ∃ (x : PA) (told v : V) (s : RS) (oth : Int) (p : Addr) (c wi f : Nat) (a : Wt), vs = [.ref x.a, .ref p, .int (f : Int), v] ∧ H p = some (.tup [.int (c : Int), .int (wi : Int)]) ∧ RunAt K H x pr told s oth ∧ PrOk pr ∧ c < pr.length ∧ f < pr.length ∧ PV H v a ∧ WtOk pr.length a ∧ s.phi ≤ most ∧ oth + (n : Int) = 12 ∧ AnsP K x pr told oth H Q E (evC pr n c f a s)
def spWorth (K : PySem.W.Frag) (pr : List (Int × W)) (n d : Nat) : Sp := fun vs H Q E => ∃ (x : PA) (told v : V) (s : RS) (oth : Int) (f wi : Nat) (p : Int × W) (u : W) (a : Wt), vs = [.ref x.a, .int (f : Int), .int (wi : Int), v] ∧ RunAt K H x pr told s oth ∧ PrOk pr ∧ pr[f]? = some p ∧ SubAt (p.2.rows 0) wi u ∧ WOk pr.length d u ∧ PV H v a ∧ WtOk pr.length a ∧ s.phi + u.size ≤ most ∧ oth + (n : Int) = 12 ∧ AnsP K x pr told oth H Q E (evB (evC pr n f) a d u s)
end Ov
namespace Ov
open PySem PySem.Spec PyProof.Rows L2
theorem RunAt.fresh {K : PySem.W.Frag} {H0 H : Hp} {x : PA} {pr : List (Int × W)} {told told0 : V} {s s0 : RS} {oth oth0 : Int} {D : Addr} {us us' : List V} (h0 : RunAt K H0 x pr told0 s0 oth0) (hD : H0 D = none) (b : ButP x H0 H) (h : RunAt K H x pr told s oth) (e : H D = some (.lst us)) : RunAt K (upd H D (.lst us')) x pr told s oth := by
  have kt := Keep.updL (ys := us') e
  obtain ⟨bs0, g2, g3, g4⟩ := h0.bo
  obtain ⟨h1, ⟨bs, h2, h3, h4⟩, h5, h6, n1, n2, n3⟩ := h
  have ne : ∀ {b : Addr} {o : HO}, H0 b = some o → b ≠ D := fun e => ne_of_none e hD
  have nbo : x.bo ≠ x.a := ne_of g2 h0.ob (by intro z; cases z)
  have e2 := b _ _ nbo n1 n2 g2
  have eq : bs = bs0 := by
    have z := h2.symm.trans e2
    have z2 : bs.map V.ref = bs0.map V.ref := by
      injection z with z
      injection z
    exact List.map_inj_right (fun _ _ q => by injection q) |>.mp z2
  subst eq
  refine ⟨by rw [upd_ne (ne h0.ob)]; exact h1, ⟨bs, by rw [upd_ne (ne g2)]; exact h2, PairedMem.map h3 fun b f hb z => ?_, h4⟩, by rw [upd_ne (ne h0.sa)]; exact h5, by rw [upd_ne (ne h0.ro)]; exact h6, n1, n2, n3⟩
  obtain ⟨f0, ys0, z0, _⟩ := PairedMem.left g3 b hb
  obtain ⟨ys, z1, z2⟩ := z
  exact ⟨ys, by rw [upd_ne (ne z0)]; exact z1, L2.Paired.mapP z2 fun _ _ y => y.keep kt⟩
theorem ButP.updn {x : PA} {H H' : Hp} {D : Addr} {o : HO} (b : ButP x H H') (hD : H D = none) : ButP x H (upd H' D o) := fun c u n1 n2 n3 e => by
  rw [upd_ne (ne_of_none e hD)]
  exact b c u n1 n2 n3 e
theorem drop_get {α : Type} {l : List α} {i : Nat} {a : α} (h : l[i]? = some a) : l.drop i = a :: l.drop (i + 1) := by
  obtain ⟨lt, e⟩ := List.getElem?_eq_some_iff.mp h
  rw [List.drop_eq_getElem_cons lt, e]
theorem paired_two {α β : Type} {R : α → β → Prop} {us : List α} {vs : List β} (h : Paired R us vs) (l : vs.length = 2) : ∃ x y u v, us = [x, y] ∧ vs = [u, v] ∧ R x u ∧ R y v := by
  obtain ⟨x, y, a, b, h1, h2, h3, h4⟩ := two_of h l
  exact ⟨x, y, a, b, h1, h2, h3, h4⟩
end Ov
namespace Ov
open PySem PySem.Spec PyProof.Rows L2
def spBegin (K : PySem.W.Frag) : Sp := fun vs H Q _ => ∃ (x : PA) (pr : List (Int × W)) (z : Int), vs = [.ref x.a, .int z] ∧ RunAt K H x pr .non ⟨[], 0, [], [], []⟩ 0 ∧ PrOk pr ∧ 0 ≤ z ∧ z < 1000 ∧
  ∀ H' t oth, ButP x H H' → RunAt K H' x pr (.ref t) (evR pr z).st oth → H' t = some (.tup [.str (endD (evR pr z)).1, (endD (evR pr z)).2]) → Q .non H'
end Ov
namespace Ov
open PySem PySem.Spec PyProof.Rows L2
def spCheckNumber : Sp := fun vs H Q _ => ∃ z : Int, vs = [.int z] ∧ 0 ≤ z ∧ z < 1000 ∧ Q .non H
def spPlainRun (K : PySem.W.Frag) : Sp := fun vs H Q _ => ∃ (v : V) (pr : List (Int × W)) (z : Int), vs = [v, .int z] ∧ PrAt H v pr ∧ PrOk pr ∧ 0 ≤ z ∧ z < 1000 ∧
  ∀ H' x t oth, Same H H' → H x.sa = none → H x.ro = none → RunAt K H' x pr (.ref t) (evR pr z).st oth → H' t = some (.tup [.str (endD (evR pr z)).1, (endD (evR pr z)).2]) → Q (.ref x.a) H'
def spRunTold : Sp := fun vs H Q _ => ∃ (v : V) (pr : List (Int × W)) (z : Int), vs = [v, .int z] ∧ PrAt H v pr ∧ PrOk pr ∧ 0 ≤ z ∧ z < 1000 ∧
  ∀ H' r t sa, Same H H' → H sa = none → H' r = some (.tup [.ref t, .ref sa]) → H' t = some (.tup [.str (endD (evR pr z)).1, (endD (evR pr z)).2]) → H' sa = some (.lst ((evR pr z).st.said.map V.int)) → Q (.ref r) H'
def spTraced : Sp := fun vs H Q _ => ∃ (v : V) (pr : List (Int × W)) (z : Int), vs = [v, .int z] ∧ PrAt H v pr ∧ PrOk pr ∧ 0 ≤ z ∧ z < 1000 ∧
  ∀ H' ro, Same H H' → H ro = none → H' ro = some (.lst (nV (evR pr z).st.row)) → Q (.ref ro) H'
/-! ### refused -/
def NoNum (z : Int) : Prop := (z < 0 ∨ 1000 ≤ z) ∧ z.natAbs < 10 ^ 9
def OutN (K : PySem.W.Frag) (H : Hp) (E : XK) : Prop := ∀ H', Same H H' → E (.ref (He.ga K "BadNumber")) none H'
theorem OutN.same {K : PySem.W.Frag} {H H1 : Hp} {E : XK} (h : OutN K H E) (s : Same H H1) : OutN K H1 E := fun H' s' => h H' (s.trans s')
def spCheckNumberX (K : PySem.W.Frag) : Sp := fun vs H _ E => ∃ z : Int, vs = [.int z] ∧ NoNum z ∧ OutN K H E
def spRunX (K : PySem.W.Frag) : Sp := fun vs H _ E => ∃ (v : V) (pr : List (Int × W)) (z : Int), vs = [v, .int z] ∧ PrAt H v pr ∧ PrOk pr ∧ NoNum z ∧ OutN K H E
theorem NoNum.log {z : Int} (h : NoNum z) : z.natAbs.log2 < 1920 := by
  have h2 := h.2
  by_cases h0 : z.natAbs = 0
  · rw [h0]
    decide
  exact (Nat.log2_lt h0).mpr (Nat.lt_trans h2 (by decide))
theorem NoNum.len {z : Int} (h : NoNum z) : (PySem.Str.ofString (toString z)).length ≤ 10 := by
  have e := PySem.int_text_length_le10 (k := 9) (by decide) h.2
  rw [PySem.ofString_length]
  omega
end Ov
/-! ### a lambda with one parameter that has a default, handed to a def -/
namespace Ov
open PySem PySem.Spec PyProof.Rows L2 LamX
/-- the scope of such a lambda: its parameter a, what it reads of the def around -/
structure LamSD (sc scope : Scope) (a : Str) : Prop where
  kind : scope.kind = .function
  co : scope.isCoroutine = false
  gen : scope.isGenerator = false
  own : ∀ y ∈ scope.names, y.2 ≠ .cell ∧ (y.2 = .local → y.1 = a)
  par : List.lookup a scope.names = some .local
  free : ∀ y ∈ scope.names, y.2 = .free → List.lookup y.1 sc.names = some .cell ∨ List.lookup y.1 sc.names = some .free
theorem lam_startD {X : Cx} {pins : List (Addr × Obj)} {σ : L2.St} {H HZ : Hp} {s s1 : Shared} {A : Around} {outer : List Env} {E : XK} {scope : Scope} {f c' : Addr} {h₁ : Heap} {tk : Nat} {a : Str} {u : Value} (I : Inv X pins σ H s) (L : LamSD X.env.scope scope a) (hna : ∀ (i : Nat) (x : Str), X.N[i]? = some x → x ≠ a)
    (e0 : Env0 X.prog X.w X.K X.mg X.base A outer s1 HZ) (hd : A.handled = none) (un : Un (frs X.stack) [] H HZ s.heap s1.heap) (hns : h₁.Ns s1.heap.objs.size fun y => List.lookup y [(a, u)].reverse) (kp : ∀ b o, s1.heap.get? b = some o → h₁.get? b = some o) :
    Inv (lamCx X A outer s1 HZ E scope f c') [] σ HZ { heap := h₁, gens := s1.gens, drawn := s1.drawn, toks := tk, os := s1.os } := by
  have hfr : ∀ {y : Str}, (y, NameKind.free) ∈ scope.names → ∃ c, List.lookup y X.env.cells = some c := fun {y} h => I.ok.has y (L.free (y, .free) h rfl)
  have cm : ∀ {y : Str} {c : Addr}, List.lookup y (cloFrom X.env.cells scope.names []) = some c → List.lookup y X.env.cells = some c := fun {y c} e => by
    rcases cloFrom_mem (mem_of_lookup e) with hm | ⟨h1, h2⟩
    · exact nomatch hm
    · obtain ⟨c1, hc⟩ := hfr h1
      rw [hc] at h2
      rw [hc, h2]
      rfl
  have look : ∀ {y : Str}, List.lookup y scope.names = some .free → ∃ c, List.lookup y (cloFrom X.env.cells scope.names []) = some c := fun hl => mem_lookup (cloFrom_has (mem_of_lookup hl))
  have cellK : ∀ {c : Addr} {v : Option Value}, H c = none → s.heap.IsCell c v → h₁.IsCell c v := fun {c v} n ⟨o, ho, hd⟩ => by
    obtain ⟨sl, q⟩ := un.any ho n (fun z => nomatch z)
    exact ⟨_, kp c _ q, hd⟩
  have noA : ∀ b : Addr, ¬ b ∈ ([] : List Addr) := fun b z => nomatch z
  refine ⟨⟨e0.mod, L.kind, rfl, rfl, Nat.le_refl _, fun y z c e1 e2 => I.ok.inj y z c (cm e1) (cm e2), fun y hy => ?_, (fun _ _ z => nomatch z), fun _ => hd, Around.frames_deeper e0.frames, .inr ⟨rfl, rfl⟩, fun b z => absurd z (noA b), e0.bs, e0.bsz, fun b _ _ => noA b, fun b z => absurd z (noA b), e0.funs, e0.frf⟩, rfl, e0.bare, Un.kept kp, ⟨_, hns, fun i y v e1 e2 e3 => ?_⟩, fun y c e => ?_, HOk.fresh e0.hok (Nat.le_refl _), fun y c e => ?_, fun p hp => ?_, HOk.kept e0.hok kp, I.len⟩
  · rcases hy with hy | hy
    · exact absurd rfl (L.own (y, .cell) (mem_of_lookup hy)).1
    · exact look hy
  · rcases e3 with k | k | k
    · exact absurd ((L.own (y, .local) (mem_of_lookup k)).2 rfl) (hna i y e1)
    · exact absurd rfl (L.own (y, .cell) (mem_of_lookup k)).1
    · obtain ⟨m, hn, hl⟩ := I.loc
      have hvis : Vis X.env.scope y := (L.free (y, .free) (mem_of_lookup k) rfl).elim (fun z => .inr (.inl z)) fun z => .inr (.inr z)
      obtain ⟨w', r, q⟩ := hl i y v e1 e2 hvis
      obtain ⟨c2, h2⟩ := look k
      refine ⟨w', r, .inr ⟨.inr k, c2, h2, ?_⟩⟩
      rcases q with ⟨k', _⟩ | ⟨_, c3, e', z⟩
      · have k' : List.lookup y X.env.scope.names = some .local := k'
        rcases L.free (y, .free) (mem_of_lookup k) rfl with k2 | k2 <;>
        · rw [k'] at k2
          cases k2
      · rw [cm h2] at e'
        cases e'
        exact cellK (I.freeC y _ (cm h2)) z
  · obtain ⟨v, hv⟩ := I.cell y c (cm e)
    exact ⟨v, cellK (I.freeC y c (cm e)) hv⟩
  · obtain ⟨v, o, ho, _⟩ := I.cell y c (cm e)
    exact un.free c o ho (I.freeC y c (cm e)) (noA c)
  · exact nomatch hp
/-- the lambda's object -/
@[reducible] def lamO (X : Cx) (params : Arguments) (body : Expr) (scope : Scope) (t : Addr) (doc pm : Value) (c' : Addr) (ctv : Value) : Obj := W.kdv_obj "<lambda>" (X.env.qual ++ "<lambda>") params (.expr body) scope (cloFrom X.env.cells scope.names []) (.ref t) doc pm c' ctv
theorem lam_tailD {X : Cx} {pins : List (Addr × Obj)} {σ : L2.St} {H : Hp} {s : Shared} {T : List (Addr × Str)} {c P t : Addr} {params : Arguments} {body : Expr} {scope : Scope} {pos : Pos} {E Q : Value → Shared → Prop} (I : Inv X pins σ H s) (TB : TabB X.base X.mg c P) (hcode : X.env.code = .ref c) (hm : (P, X.env.qual ++ Str.ofString "<lambda>") ∈ T)
    (hu : ∀ p ∈ T, p.1 = P → p.2 = X.env.qual ++ Str.ofString "<lambda>") (hT : Tabs T H) (hfree : ∀ y ∈ scope.names, y.2 = .free → ∃ c, List.lookup y.1 X.env.cells = some c)
    (h : ∀ f c' doc pm ctv H1 s', Inv X pins σ H1 s' → ExtN H H1 → Tabs T H1 → s'.heap.get? f = some (lamO X params body scope t doc pm c' ctv) → H1 f = none → ¬ f ∈ frs X.stack → H1 c' = some (CodeO c' (X.env.qual ++ Str.ofString "<lambda>")) → Q (.ref f) s') :
    wpAny (model X.prog X.w) X.A (makeTail "<lambda>" (X.env.qual ++ "<lambda>") params (.expr body) scope X.env (.ref t) .none none pos pos.line) Q E s := by
  obtain ⟨ps, hP, ht, ha⟩ := hT _ hm
  have bP := Heap.BuiltinsAt.keeps TB.bm I.bk
  have hP' : s.heap.get? P = some (W.tabObj ps) := I.hok P (.tbl ps) hP
  have nofr : ∀ f, s.heap.objs.size ≤ f → ¬ f ∈ frs X.stack := fun f hf z => by
    rcases List.mem_cons.mp (I.stkSub f z) with e | e
    · have h1 := I.lt
      rw [← e] at h1
      exact Nat.lt_irrefl f (Nat.lt_of_lt_of_le h1 hf)
    · exact I.nofs hf e
  cases hc : codeAmong pos ps.toList with
  | none =>
    refine W.kdv_makeTail (closure_ok hfree) I.ok.glob (I.mod.glob.keeps I.bk) hcode (TB.code.keeps I.bk) hP' ht hc TB.gP bP fun c' ctv doc h' tk hx hge hlt hrec htb => ?_
    obtain ⟨c2, oc, vs, t2, e2, hoc, hd, hv⟩ := hrec
    cases e2
    have hsz := Nat.le_trans hge (Nat.le_of_lt hlt)
    have nC := HOk.fresh I.hok hge
    have I1 := inv_table (more := #[rawInt ↑pos.line, rawInt ↑pos.col, Value.ref c']) (q := X.env.qual ++ Str.ofString "<lambda>") (t' := tk) (h' := h'.push (lamO X params body scope t doc ((X.mg (Str.ofString "__name__")).getD .none) c' ctv)) I hP (fun b o hb e => Heap.get?_push_of_some _ (hx b o hb e)) (Heap.get?_push_of_some _ htb) hge ⟨oc, vs, t2, Heap.get?_push_of_some _ hoc, hd, hv⟩
    have hE : ExtN H (upd (upd H P (.tbl (ps ++ #[rawInt ↑pos.line, rawInt ↑pos.col, Value.ref c']))) c' (CodeO c' (X.env.qual ++ Str.ofString "<lambda>"))) := fun b o e n => by
      rw [upd_ne (ne_of_none e nC), upd_ne (fun z => n ps (by
        rw [z] at e
        exact Option.some.inj (e.symm.trans hP)))]
      exact e
    have n2 : P ≠ c' := ne_of_none hP nC
    refine h h'.objs.size c' doc _ ctv _ _ I1 hE (fun p hp => ?_) (Heap.get?_push_size h' rfl) ?_ (nofr _ hsz) upd_same
    · by_cases hb : p.1 = P
      · rw [hu p hp hb, hb]
        refine ⟨ps ++ #[rawInt ↑pos.line, rawInt ↑pos.col, Value.ref c'], by rw [upd_ne n2]; exact upd_same, by rw [Array.toList_append]; exact TriplesOk_snoc _ _ _ _ ht, fun p' cv hcv => ?_⟩
        rw [Array.toList_append] at hcv
        rcases among_app ps.toList ht hcv with z | z
        · obtain ⟨c0, e1, e2⟩ := ha p' cv z
          exact ⟨c0, e1, hE c0 _ e2 codeO_ne⟩
        · exact ⟨c', z, upd_same⟩
      · obtain ⟨ps', a1, a2, a3⟩ := hT p hp
        refine ⟨ps', by rw [upd_ne (ne_of_none a1 nC), upd_ne hb]; exact a1, a2, fun p' cv hcv => ?_⟩
        obtain ⟨c0, e1, e2⟩ := a3 p' cv hcv
        exact ⟨c0, e1, hE c0 _ e2 codeO_ne⟩
    · rw [upd_ne (Nat.ne_of_gt hlt), upd_ne (Nat.ne_of_gt (Nat.lt_of_lt_of_le (Heap.lt_size hP') hsz))]
      exact HOk.fresh I.hok hsz
  | some cv =>
    obtain ⟨c', e, hco⟩ := ha pos cv hc
    subst e
    refine W.kdv_makeTailHit (closure_ok hfree) I.ok.glob (I.mod.glob.keeps I.bk) hcode (TB.code.keeps I.bk) hP' ht hc bP fun ctv doc h' tk hx hsz => ?_
    have I1 := I.kept (t' := tk) (h' := h'.push (lamO X params body scope t doc ((X.mg (Str.ofString "__name__")).getD .none) c' ctv)) fun b o e => Heap.get?_push_of_some _ (hx b o e)
    exact h h'.objs.size c' doc _ ctv H _ I1 (ExtN.refl H) hT (Heap.get?_push_size h' rfl) (HOk.fresh I.hok hsz) (nofr _ hsz) hco
theorem lam_makeD {X : Cx} {pins : List (Addr × Obj)} {σ : L2.St} {H : Hp} {s : Shared} {T : List (Addr × Str)} {c P : Addr} {params : Arguments} {body : Expr} {scope : Scope} {pos : Pos} {Q : Value → Shared → Prop} {j : Nat} {p1 : Pos} {n : Int} (I : Inv X pins σ H s) (TB : TabB X.base X.mg c P) (hcode : X.env.code = .ref c) (hm : (P, X.env.qual ++ Str.ofString "<lambda>") ∈ T)
    (hu : ∀ p ∈ T, p.1 = P → p.2 = X.env.qual ++ Str.ofString "<lambda>") (hT : Tabs T H) (hdf : params.defaults = [.Constant (.int n) j p1]) (hkd : params.kw_defaults = []) (hfree : ∀ y ∈ scope.names, y.2 = .free → ∃ c, List.lookup y.1 X.env.cells = some c)
    (h : ∀ f c' t doc pm ctv H1 s', Inv X pins σ H1 s' → ExtN H H1 → Tabs T H1 → H1 t = some (.tup [.int n]) → s'.heap.get? f = some (lamO X params body scope t doc pm c' ctv) → H1 f = none → ¬ f ∈ frs X.stack → H1 c' = some (CodeO c' (X.env.qual ++ Str.ofString "<lambda>")) → Q (.ref f) s') :
    wpAny (model X.prog X.w) X.A (eval (.Lambda params body scope pos) X.env) Q X.xe s := by
  refine W.kdv_lam (by rw [hdf]; rfl) hkd ?_
  rw [hdf]
  refine W.kdv_all1 (thn ((pe_int (X := X) (i := n) (j := j) (pos := p1)).run pins s σ H (fun v H1 => v = .int n ∧ H1 = H) I ⟨rfl, rfl⟩) fun u s1 z => ?_)
  obtain ⟨v, H1, I1, ru, rfl, rfl⟩ := z
  refine W.kdv_all0 ?_
  rw [makeFunction_eq]
  simp only [List.zip_nil_right, List.filterMap_nil, List.isEmpty_nil, if_true, List.isEmpty_cons]
  rw [if_neg (by decide)]
  refine wpAny_bind (wpAny_newTextTuple ?_)
  simp only [pure_bind]
  have nT := HOk.fresh I1.hok (Nat.le_refl s1.heap.objs.size)
  have I2 : Inv X pins σ (upd H1 s1.heap.objs.size (.tup [.int n])) { heap := s1.heap.push { cls := .type "tuple", data := .seq [u].toArray }, gens := s1.gens, drawn := s1.drawn, toks := s1.toks, os := s1.os } :=
    I1.laid (fun b o e => Heap.get?_push_of_some _ e) (Nat.le_refl _) ⟨(by show 1 ≤ sizeLine; decide), [u], .cons ru .nil, _, Heap.get?_push_size _ rfl, rfl, 0, rfl⟩
  have ext : ∀ b o, H1 b = some o → (upd H1 s1.heap.objs.size (.tup [.int n])) b = some o := fun b o e => by
    rw [upd_ne (ne_of_none e nT)]
    exact e
  exact lam_tailD I2 TB hcode hm hu (hT.ext ext) hfree fun f c' doc pm ctv H3 s' I3 x3 t3 hf nf fr hc => h f c' s1.heap.objs.size doc pm ctv H3 s' I3 ((ExtN.of ext).trans x3) t3 (x3 _ _ upd_same (fun ps z => by cases z)) hf nf fr hc
theorem pe_actD {X : Cx} {pins : List (Addr × Obj)} {σ : L2.St} {H : Hp} {s : Shared} {CXg : CXT} {Eg : XK} {Ng : List Str} {qg : Str} {sg : Scope} {g f c' t : Addr} {cdg pm ctv doc : Value} {params : Arguments} {body : Expr} {scope : Scope} {k i : Nat} {a b : Str} {pn : List (Addr × Obj)} {xe : Value → Shared → Prop} {Wx : WX} {E : XK} {tb : TE} {p1 p2 : Pos} {n : Int}
    (I : Inv X pins σ H s) (L : LamSD X.env.scope scope b) (hna : ∀ (i : Nat) (x : Str), X.N[i]? = some x → x ≠ b) (hf : s.heap.get? f = some (lamO X params body scope t doc pm c' ctv)) (hfn : H f = none) (hfr : ¬ f ∈ frs X.stack) (ht : H t = some (.tup [.int n]))
    (hbind : ∀ u, ∃ kk, bindArgs (W.kdv_fn "<lambda>" (X.env.qual ++ "<lambda>") params (.expr body) scope (cloFrom X.env.cells scope.names []) (.ref t) doc pm (.ref c') ctv) { } = seqItems? (.ref t) >>= kk ∧ kk (some #[u]) = pure [(b, u)])
    (tk : Takes ((cxOf CXg X.prog X.w X.K X.mg X.base Ng qg sg g cdg X.A X.stack s H Eg).tr pn xe) Wx) (hW : ∀ cls d σ' H', E cls d H' → Wx cls d σ' H') (hr : Room (k + 1) (X.A.deeper (PyProof.Rows.envOfC qg sg s.heap.objs.size g cdg)))
    (hbody : ∀ A outer s H, Room k (A.deeper (lamEnv X scope s.heap.objs.size f c')) → PE (lamCx X A outer s H E scope f c') body tb) (hN : Ng[i]? = some a) (hv : Vis sg a) (hd : (a == Str.ofString "__debug__") = false := by rfl) (hcd : (a == Str.ofString "__classdict__") = false := by rfl) :
    PE ((cxOf CXg X.prog X.w X.K X.mg X.base Ng qg sg g cdg X.A X.stack s H Eg).tr pn xe) ((Expr.Name a p1).Call [] [] p2) fun σZ HZ Q => σZ[i]? = some (some (.ref f)) ∧ HZ c' = some (CodeO c' (X.env.qual ++ Str.ofString "<lambda>")) ∧ tb σ HZ Q := by
  refine ⟨fun pinsZ sZ σZ HZ Q IZ h => ?_⟩
  obtain ⟨hs, hc, htb⟩ := h
  refine wpAny_Call_Name_kw (thn ((pe_var hN hv hd hcd).run pinsZ sZ σZ HZ (fun v H1 => v = .ref f ∧ H1 = HZ) IZ ⟨_, hs, rfl, rfl⟩) fun u s1 x => ?_)
  obtain ⟨v, H1, I1, r1, rfl, rfl⟩ := x
  obtain rfl : u = Value.ref f := r1
  have of1 := I1.base.keep f _ hf hfn hfr (fun z => nomatch z)
  refine PySem.W.callWith_F0 ⟨_, _, _, _, of1⟩ ?_
  have un := I1.base
  obtain ⟨⟨oc, vs, tt, hoc, hdc, hvc⟩, _, _⟩ := I1.hok c' _ hc
  have htz := un.tups t _ ht
  obtain ⟨_, its, rits, ot, hot, hot2, nt, hot3⟩ := I1.hok t _ htz
  obtain ⟨w1, rfl, rw1⟩ : ∃ w1, its = [w1] ∧ RelV (.int n) w1 := by
    cases rits with
    | cons r q =>
      cases q
      exact ⟨_, rfl, r⟩
  obtain ⟨kk, e1, e2⟩ := hbind w1
  have rc : codeAny (model X.prog X.w) (X.A.deeper (PyProof.Rows.envOfC qg sg s.heap.objs.size g cdg)) (Code.call (.ref f) { }) (CR (L2.CX X.prog X.w) (PyProof.Rows.envOfC qg sg s.heap.objs.size g cdg :: X.stack) X.prog X.w H1 s1 Q E) s1 := by
    refine PySem.W.kla_callFunE hr.depth of1 rfl L.co L.gen rfl ⟨c', oc, vs, tt, rfl, hoc, hdc, hvc⟩ ?_
    rw [e1]
    refine wpAny_bind (wpAny_seqItems hot hot3 ?_)
    show wpAny _ _ (kk (some #[w1])) _ _ _
    rw [e2]
    refine wpAny_pure (wpAny_newFunctionEnv (fun y hy => (L.own y hy).1) (fun y hy => ?_) (fun h₁ hns hsb => ⟨Heap.NoLimit.fresh I1.nolimit _ hsb, ?_⟩) L.kind)
    · rw [List.mem_singleton.mp hy]
      exact L.par
    · have kp : ∀ b o, s1.heap.get? b = some o → h₁.get? b = some o := fun b o e => hsb.extBut b o (Nat.ne_of_lt (Heap.lt_size e)) (Heap.get?_push_of_some _ e)
      have J := lam_startD (A := X.A.deeper (PyProof.Rows.envOfC qg sg s.heap.objs.size g cdg)) (outer := PyProof.Rows.envOfC qg sg s.heap.objs.size g cdg :: X.stack) (E := E) (f := f) (c' := c') (tk := s1.toks + [(b, w1)].length) I L hna I1.env0 hr.hd un hns kp
      refine PySem.W.kla_codeExpr (wpAny_mono ((hbody _ _ s1 H1 (hr.deeper (lamEnv X scope s1.heap.objs.size f c'))).run [] _ σ H1 Q J htb) (fun v s' hq => ?_) fun e s' hq => hq)
      obtain ⟨w', H', J', rv, q⟩ := hq
      exact ⟨w', H', J'.os, J'.bare, J'.base, J'.hok, rv, q⟩
  refine wpAny_call (codeAny_mono rc fun r s' hq => ?_)
  cases r with
  | error e => exact passes_call tk hW pinsZ σZ H1 s1 e s' I1 hq
  | ok fl =>
    cases fl with
    | ret u => exact I1.after hq
    | next => exact hq.elim
    | brk => exact hq.elim
    | cont => exact hq.elim
theorem pe_lamcallD {X : Cx} {T : List (Addr × Str)} {TT : (XK → Hp → VK → Prop) → Hp → VK → Prop} {x a b : Str} {g c P : Addr} {k : Nat} {pg : Arguments} {bg : List Stmt} {sg : Scope} {dV kV doc pm cdv ct oc : Value} {an od : Option Addr} {osl : Array (Option Value)} {Ng : List Str} {params : Arguments} {body : Expr} {scope : Scope} {t : XK → TE} {p lpos pos : Pos} {j : Nat} {p1 : Pos} {n : Int}
    (hg : Gl X x) (hm : X.mg x = some (.ref g)) (hk : PySem.W.keepIn X.K (.ref g) = true) (lk : List.lookup g X.K = some { cls := oc, dict := od, data := .func (PySem.W.fnOf x x pg bg sg dV kV doc pm an cdv ct), slots := osl }) (hcg : PySem.W.codeIn X.K cdv x = true) (hb : Binds X.K (PySem.W.fnOf x x pg bg sg dV kV doc pm an cdv ct) [a] []) (Sg : FnScope Ng [a] sg) (hNg : Ng[0]? = some a) (hva : Vis sg a)
    (hG : GivesTo X Ng x sg g cdv bg a (X.env.qual ++ Str.ofString "<lambda>") TT) (TB : TabB X.base X.mg c P) (hcode : X.env.code = .ref c) (hmT : (P, X.env.qual ++ Str.ofString "<lambda>") ∈ T) (hu : ∀ p ∈ T, p.1 = P → p.2 = X.env.qual ++ Str.ofString "<lambda>") (hr : Room (k + 2) X.A) (L : LamSD X.env.scope scope b) (hna : ∀ (i : Nat) (x : Str), X.N[i]? = some x → x ≠ b)
    (hdf : params.defaults = [.Constant (.int n) j p1]) (hkd : params.kw_defaults = []) (hbind : ∀ q cl t doc pm c' ctv u, ∃ kk, bindArgs (PySem.W.kdv_fn "<lambda>" q params (.expr body) scope cl (.ref t) doc pm (.ref c') ctv) { } = seqItems? (.ref t) >>= kk ∧ kk (some #[u]) = pure [(b, u)])
    (hbody : ∀ A outer s H E f c', Room k (A.deeper (lamEnv X scope s.heap.objs.size f c')) → PE (lamCx X A outer s H E scope f c') body (t E)) (hdb : (x == Str.ofString "__debug__") = false := by rfl) (hd : (a == Str.ofString "__debug__") = false := by rfl) (hcd : (a == Str.ofString "__classdict__") = false := by rfl) :
    PE X ((Expr.Name x p).Call [.Lambda params body scope lpos] [] pos) (tLam T TT t) := by
  refine ⟨fun pins s σ H Q I h => ?_⟩
  obtain ⟨hT, h⟩ := h
  refine wpAny_Call_Name_kw (ld_glob I hg hm (PySem.W.callWith_K I.ok.mod.kin hk (Calls.spliced_cons (lam_makeD I TB hcode hmT hu hT hdf hkd (fun y hy e => I.ok.has y.1 (L.free y hy e)) fun f c' tt doc' pm' ctv H1 s' I1 eN T1 ht1 hf hfn hfr hco => Calls.spliced_nil ⟨I1.kIn, ?_⟩)) rfl rfl) hdb)
  have rc := run_ofS lk hcg Sg hr I1.env0 (hb s' [Value.ref f] I1.kIn rfl) (vs := [.ref f]) (.cons (show RelV (.ref f) (Value.ref f) from rfl) .nil) rfl (CX := C8.CX0) (Q := Q) (E := C8.E0) fun hr' => by
    obtain ⟨t', ht', hq'⟩ := hG f c' s' H1 Q (fun E H' Q' => t E σ H' Q') (fun Wx pn xe E p1 p2 tk hW => pe_actD I1 L hna hf hfn hfr ht1 (hbind _ _ _ _ _ _ _) tk hW hr' (fun A outer s H hr2 => hbody A outer s H E f c' hr2) hNg hva hd hcd) hco (h H1 eN T1)
    exact ⟨t', PSs.nox ht', hq'⟩
  refine wpAny_call (codeAny_mono rc fun r s2 hq => ?_)
  cases r with
  | error e => exact hq.elim
  | ok fl =>
    cases fl with
    | ret u => exact I1.after hq
    | next => exact hq.elim
    | brk => exact hq.elim
    | cont => exact hq.elim
end Ov
namespace Ov
open PySem PySem.Spec PyProof.Rows L2
/-! ### list.count of flat items; isinstance of whatever error was caught -/
section
variable {X : Cx}
theorem count_eqU {x : V} : ∀ {xs : List V} {us : List Value}, Vals xs us → xs.all flatV = true → us.countP (eqU x) = xs.countP fun y => eqV y x
  | _, _, .nil, _ => rfl
  | y :: xs, u :: us, .cons r t, f => by
    rw [List.all_cons, Bool.and_eq_true] at f
    rw [List.countP_cons, List.countP_cons, eqU_of r f.1, count_eqU t f.2]
def rCntV (K : PySem.W.Frag) : V → List V → Hp → VK → Prop := fun x xs H Q => ∃ (p : Addr) (ys : List V) (y : V), x = .ref p ∧ xs = [y] ∧ SqL K H p ys ∧ flatV y = true ∧ ys.all flatV = true ∧ Q (.int (ys.countP (fun z => eqV z y) : Nat)) H
theorem mt_count : MtR X "list.count" (rCntV X.K) := by
  intro pins s σ H x xs v us Q I rx rxs h
  obtain ⟨p, ys, y, rfl, rfl, hs, fy, fys, q⟩ := h
  cases rx
  obtain ⟨u, rfl, ru⟩ := rxs.one
  obtain ⟨its, rv, ⟨⟨cls, dd, data, sl⟩, n, ho, hc, hdn, hd⟩, hlen⟩ := I.list hs
  simp only at hc hd
  subst hc hd
  refine call_meets PySem.F.slot_list_count ⟨_, ho, rfl⟩ PySem.F.entry_list_count (PySem.F.args_list_count_2 _ _)
    (SeqAt.list_countAt p its.toArray n dd sl u (eqU y)) ⟨ho, fun z hz => mem_eqAt ru fy rv fys z (by simpa using hz), ?_⟩
  have ec : its.toArray.toList.countP (eqU y) = ys.countP fun z => eqV z y := count_eqU rv fys
  refine ⟨.int (ys.countP (fun z => eqV z y) : Nat), H, I.tok _, ⟨s.toks, ?_⟩, q⟩
  show Value.int ((its.toArray.toList.countP (eqU y) : Nat) : Int) s.toks = Value.int ((ys.countP (fun z => eqV z y) : Nat) : Int) s.toks
  rw [ec]
theorem pe_never {e : Expr} : PE X e (fun _ _ _ => False) := ⟨fun _ _ _ _ _ _ h => h.elim⟩
def rIsC (K : PySem.W.Frag) (D a : Addr) (cls : Value) (d : Option Addr) : List V → Hp → VK → Prop := fun xs H Q => cls = .ref D ∧ d = none ∧ rIsE K D a xs H Q
theorem call_isC {a D : Addr} {oe : Obj} {cls : Value} {d : Option Addr} {pn : List (Addr × Obj)} (C : ExcC X.K D) (hz : Zc cls d oe) (hf : ∃ vs, oe.data = .fields vs) : CallR (X.suite a ((a, oe) :: pn)) (.builtin "isinstance") (rIsC X.K D a cls d) := by
  intro pins s σ H xs us Q I r h
  obtain ⟨rfl, rfl, h⟩ := h
  exact call_isE C hz hf pins s σ H xs us Q I r h
theorem takes_len {W W' : WX} (t : Takes X W) (h : ∀ c d (σ : L2.St) H, σ.length = X.N.length → W' c d σ H → W c d σ H) : Takes X W' := fun u s' ⟨a, B, sI, pins, σ, H, cls, d, e, I, nb, up, sky, na, os, ag, w⟩ =>
  t u s' ⟨a, B, sI, pins, σ, H, cls, d, e, I, nb, up, sky, na, os, ag, h _ _ _ _ I.len w⟩
end
/-- the wish of `_law_kind` for an error of the class C, ret being what it tells -/
def TKind (K : PySem.W.Frag) (ret : Str) : (XK → Hp → VK → Prop) → Hp → VK → Prop := fun tl H Q =>
  tl (fun cls d H' => cls = .ref (He.ga K ret) ∧ d = none ∧ ∀ H'', Same H' H'' → Q (.str ret) H'') H fun _ H' => Q (.str "") H'
end Ov
namespace Ov
open PySem PySem.Spec PyProof.Rows L2 LamX
/-! ### tables of code are kept -/
theorem tabs_keep {T : List (Addr × Str)} {H H' : Hp} (t : Tabs T H) (k : ∀ b o, H b = some o → ((∃ ps, o = .tbl ps) ∨ ∃ c q, o = CodeO c q) → H' b = some o) : Tabs T H' := fun p hp => by
  obtain ⟨ps, h1, h2, h3⟩ := t p hp
  refine ⟨ps, k _ _ h1 (.inl ⟨ps, rfl⟩), h2, fun pos cv hc => ?_⟩
  obtain ⟨c, e1, e2⟩ := h3 pos cv hc
  exact ⟨c, e1, k _ _ e2 (.inr ⟨_, _, rfl⟩)⟩
theorem not_lst {xs : List V} {o : HO} (z : (∃ ps, o = .tbl ps) ∨ ∃ c q, o = CodeO c q) (e : o = .lst xs) : False := by
  subst e
  rcases z with ⟨ps, z⟩ | ⟨c, q, z⟩
  · cases z
  · unfold CodeO at z
    cases z
theorem tabs_same {T : List (Addr × Str)} {H H' : Hp} (t : Tabs T H) (s : Same H H') : Tabs T H' := tabs_keep t fun b o e _ => s b o e
theorem tabs_but {T : List (Addr × Str)} {H H' : Hp} {h c : Addr} (t : Tabs T H) (b : But h c H H') (d : Dr H h c) : Tabs T H' := tabs_keep t fun a o e z => by
  obtain ⟨m, k, xs, g1, g2, _⟩ := d
  refine b a o (fun q => ?_) (fun q => ?_) e
  · subst q
    exact not_lst z (Option.some.inj (e.symm.trans g1))
  · subst q
    exact not_lst z (Option.some.inj (e.symm.trans g2))
theorem dr_extN {H H' : Hp} {h c : Addr} (d : Dr H h c) (x : ExtN H H') : Dr H' h c := by
  obtain ⟨m, k, xs, g1, g2, l⟩ := d
  exact ⟨m, k, xs, x _ _ g1 (fun _ z => by cases z), x _ _ g2 (fun _ z => by cases z), l⟩
theorem keep_extN {H H' : Hp} (x : ExtN H H') : Keep H H' := fun a xs e => x _ _ e (fun _ z => by cases z)
def lamSDB (sc scope : Scope) (a : Str) : Bool :=
  decide (scope.kind = .function) && !scope.isCoroutine && !scope.isGenerator && (scope.names.all fun y => !decide (y.2 = .cell) && (!decide (y.2 = .local) || decide (y.1 = a)) && (!decide (y.2 = .free) || decide (sc.names.lookup y.1 = some .cell) || decide (sc.names.lookup y.1 = some .free))) && decide (scope.names.lookup a = some .local)
theorem lamSD_by {sc scope : Scope} {a : Str} (h : lamSDB sc scope a = true) : LamSD sc scope a := by
  unfold lamSDB at h
  simp only [Bool.and_eq_true, Bool.or_eq_true, Bool.not_eq_true', decide_eq_true_eq, decide_eq_false_iff_not, List.all_eq_true] at h
  obtain ⟨⟨⟨⟨h1, h2⟩, h3⟩, h4⟩, h5⟩ := h
  refine ⟨h1, h2, h3, fun y hy => ⟨(h4 y hy).1.1, fun e => ?_⟩, h5, fun y hy e => ?_⟩
  · rcases (h4 y hy).1.2 with z | z
    · exact absurd e z
    · exact z
  · rcases (h4 y hy).2 with (z | z) | z
    · exact absurd e z
    · exact .inl z
    · exact .inr z
theorem hna_by {N : List Str} {b : Str} (h : (N.all fun x => !decide (x = b)) = true) : ∀ (i : Nat) (x : Str), N[i]? = some x → x ≠ b := fun i x e => by
  have z := List.all_eq_true.mp h x (List.mem_of_getElem? e)
  simpa using z
/-! ### how long a run's lists are -/
theorem evR_phi {pr : List (Int × W)} (hok : PrOk pr) {z : Int} (h0 : 0 ≤ z) (h1 : z < 1000) : (evR pr z).st.said.length ≤ 9000 ∧ (evR pr z).st.row.length ≤ 9000 := by
  obtain ⟨p0, hp0⟩ : ∃ p, pr[0]? = some p := ⟨_, List.getElem?_eq_getElem hok.l1⟩
  have hbd := hok.f p0 (List.mem_of_getElem? hp0)
  have gd := evB_good (n := pr.length) (call := evC pr 12 0) (a := .num z) (fun f' u' s' h1 h2 => evC_good hok 12 0 f' u' s' h1 h2) ⟨h0, h1⟩ 7 p0.2 ⟨[], 0, [0], [(0, .num z)], []⟩ hbd.2.2.1
  have hph : (⟨[], 0, [0], [(0, .num z)], []⟩ : RS).phi + p0.2.size ≤ 9000 := by
    have := hbd.2.2.2
    show 0 + 1 + 1 + 0 + 44 * (200 - 0) + p0.2.size ≤ 9000
    omega
  unfold evR
  rw [hp0]
  show ((evB (evC pr 12 0) (.num z) 7 p0.2 ⟨[], 0, [0], [(0, .num z)], []⟩).bind fun v s => .ok v { s with told := s.told ++ [(0, v)] }).st.said.length ≤ 9000 ∧ ((evB (evC pr 12 0) (.num z) 7 p0.2 ⟨[], 0, [0], [(0, .num z)], []⟩).bind fun v s => .ok v { s with told := s.told ++ [(0, v)] }).st.row.length ≤ 9000
  generalize evB (evC pr 12 0) (.num z) 7 p0.2 _ = rs at gd ⊢
  cases rs with
  | bad e s2 =>
    have hs2 : s2.phi ≤ 9000 := Nat.le_trans gd hph
    unfold RS.phi at hs2
    exact ⟨show s2.said.length ≤ 9000 by omega, show s2.row.length ≤ 9000 by omega⟩
  | ok v s2 =>
    have hs2 : s2.phi ≤ 9000 := Nat.le_trans gd.2 hph
    unfold RS.phi at hs2
    exact ⟨show s2.said.length ≤ 9000 by omega, show s2.row.length ≤ 9000 by omega⟩
theorem endD_flat : ∀ r : Res, [V.str (endD r).1, (endD r).2].all flatV = true
  | .ok (.num _) _ => rfl
  | .ok (.way _) _ => rfl
  | .bad _ _ => rfl
theorem nV_flat (l : List Nat) : (nV l).all flatV = true := by
  unfold nV
  rw [List.all_map, List.all_eq_true]
  intro x _
  rfl
def spLawRunU : Sp := fun vs H Q E => ∃ pr, spLawRun pr vs H Q E
def spLawT (K : PySem.W.Frag) (T : List (Addr × Str)) : Sp := fun vs H Q _ => ∃ (a : Addr) (ns : List Int), vs = [.ref a] ∧ SqL K H a (ns.map V.int) ∧ ns.length ≤ 63 ∧ Tabs T H ∧ ∀ H', Q (.bl true) H'
end Ov
/-! ### what halls refuse -/
namespace Ov
open PySem PySem.Spec PyProof.Rows L2
def OutC (K : PySem.W.Frag) (n : Str) (H : Hp) (E : XK) : Prop := ∀ H', Same H H' → E (.ref (He.ga K n)) none H'
theorem OutC.same {K : PySem.W.Frag} {n : Str} {H H1 : Hp} {E : XK} (h : OutC K n H E) (s : Same H H1) : OutC K n H1 E := fun H' s' => h H' (s.trans s')
def Small9 (z : Int) : Prop := z.natAbs < 10 ^ 9
theorem Small9.log {z : Int} (h2 : Small9 z) : z.natAbs.log2 < 1920 := by
  unfold Small9 at h2
  by_cases h0 : z.natAbs = 0
  · rw [h0]
    decide
  exact (Nat.log2_lt h0).mpr (Nat.lt_trans h2 (by decide))
theorem Small9.len {z : Int} (h : Small9 z) : (PySem.Str.ofString (toString z)).length ≤ 10 := by
  have e := PySem.int_text_length_le10 (k := 9) (by decide) h
  rw [PySem.ofString_length]
  omega
def spCheckRoomX (K : PySem.W.Frag) : Sp := fun vs H _ E => ∃ z : Int, vs = [.int z] ∧ (z < 1 ∨ 64 < z) ∧ Small9 z ∧ OutC K "BadRoom" H E
def spCheckFunctionX (K : PySem.W.Frag) : Sp := fun vs H _ E => ∃ (f : Int) (n : Nat), vs = [.int f, .int (n : Int)] ∧ (f < 0 ∨ (n : Int) ≤ f) ∧ Small9 f ∧ OutC K "BadFunction" H E
def spHallX (K : PySem.W.Frag) : Sp := fun vs H _ E => ∃ (H0 : Hp) (x : HA) (wys : List (List Nat)) (L : List Lay) (lc : List (Option Cnt)) (mv : Int) (far : Nat) (f : Int), vs = [.ref x.a, .int f] ∧ HallIn K H0 H x wys L lc mv far ∧ (f < 0 ∨ (wys.length : Int) ≤ f) ∧ Small9 f ∧ OutC K "BadFunction" H E
def spCheckRoomB (K : PySem.W.Frag) : Sp := fun vs H Q E => ∃ z : Int, vs = [.int z] ∧ Small9 z ∧ (1 ≤ z → z ≤ 64 → Q .non H) ∧ (z < 1 ∨ 64 < z → OutC K "BadRoom" H E)
def spHallInitX (K : PySem.W.Frag) : Sp := fun vs H _ E => ∃ (a : V) (v t : V) (pr : List (Int × W)) (ps : List (List Nat)) (st : List Int) (dn : Nat → List Nat) (far z : Int), vs = [a, v, t, .int z] ∧ preT H v t pr ps st ∧ Dn pr.length ps st dn ∧ Far pr ps dn far ∧ (z < far ∨ 64 < z) ∧ Small9 z ∧ OutC K "BadRoom" H E
end Ov
/-! ### the law's own hall (k05, k14): a dict of the program, the tree, what is laid, the cells, how many were brought -/
namespace Ov
open PySem PySem.Spec PyProof.Rows L2
def hsK (pv tv : V) (fl ca : Addr) (n : Int) : List (Key × V) := [(.inr "program", pv), (.inr "tree", tv), (.inr "laid", .ref fl), (.inr "cells", .ref ca), (.inr "many", .int n)]
theorem hsK_many {pv tv : V} {fl ca : Addr} {n m : Int} : putK (hsK pv tv fl ca n) (.inr "many") (.int m) = hsK pv tv fl ca m := by rfl
/-- the law's hall at a heap; H0 tells what isn't its own -/
structure HsIn (H0 H : Hp) (a fl ca : Addr) (pv tv : V) (pr : List (Int × W)) (ps : List (List Nat)) (dn : Nat → List Nat) (us : List V) (n : Int) : Prop where
  d : H a = some (.dK (hsK pv tv fl ca n))
  laid : ∃ vs, H fl = some (.lst vs) ∧ Fill pr.length ps (fun i j x => ∃ t dl, x = .ref t ∧ H t = some (.tup [.int (bgn pr ps dn i + psz pr ((ps[i]?.getD []).take j)), .ref dl]) ∧ H dl = some (.lst (nV (dn i ++ [i]))) ∧ H0 dl = none ∧ dl ≠ ca) ps.length 0 vs
  cs : H ca = some (.lst us)
  fa : H0 a = none
  ff : H0 fl = none ∧ fl ≠ ca
  fc : H0 ca = none
section
variable {H0 H H' : Hp} {a fl ca : Addr} {pv tv : V} {pr : List (Int × W)} {ps : List (List Nat)} {dn : Nat → List Nat} {us : List V} {n : Int}
theorem HsIn.keepN (h : HsIn H0 H a fl ca pv tv pr ps dn us n) (k : ∀ b o, H0 b = none → H b = some o → (∀ ps, o ≠ .tbl ps) → H' b = some o) (kt : Keep H H') : HsIn H0 H' a fl ca pv tv pr ps dn us n := by
  obtain ⟨h1, ⟨vs, h2, h3⟩, h4, f1, f2, f3⟩ := h
  exact ⟨k _ _ f1 h1 (fun _ z => by cases z), ⟨vs, k _ _ f2.1 h2 (fun _ z => by cases z), Fill.mono h3 fun i j x ⟨t, dl, e1, e2, e3, e4, e5⟩ => ⟨t, dl, e1, kt _ _ e2, k _ _ e4 e3 (fun _ z => by cases z), e4, e5⟩⟩, k _ _ f3 h4 (fun _ z => by cases z), f1, f2, f3⟩
theorem HsIn.same (h : HsIn H0 H a fl ca pv tv pr ps dn us n) (s : Same H H') : HsIn H0 H' a fl ca pv tv pr ps dn us n := h.keepN (fun b o _ e _ => s _ _ e) (Keep.same s)
/-- what stays of it when another's two places change -/
theorem HsIn.but {p q : Addr} (h : HsIn H0 H a fl ca pv tv pr ps dn us n) (hp : H0 p ≠ none) (hq : H0 q ≠ none) (b : But p q H H') (kt : Keep H H') : HsIn H0 H' a fl ca pv tv pr ps dn us n := h.keepN (fun c o n e _ => b c o (fun z => hp (by rw [← z]; exact n)) (fun z => hq (by rw [← z]; exact n)) e) kt
theorem HsIn.mark {p : Addr} {o : HO} (h : HsIn H0 H a fl ca pv tv pr ps dn us n) (hp : H p = none) : HsIn (upd H0 p o) H a fl ca pv tv pr ps dn us n := by
  obtain ⟨h1, ⟨vs, h2, h3⟩, h4, f1, f2, f3⟩ := h
  have ne : ∀ {b : Addr} {u : HO}, H b = some u → (upd H0 p o) b = H0 b := fun e => upd_ne (ne_of_none e hp)
  exact ⟨h1, ⟨vs, h2, Fill.mono h3 fun i j x ⟨t, dl, e1, e2, e3, e4, e5⟩ => ⟨t, dl, e1, e2, e3, by rw [ne e3]; exact e4, e5⟩⟩, h4, by rw [ne h1]; exact f1, ⟨by rw [ne h2]; exact f2.1, f2.2⟩, by rw [ne h4]; exact f3⟩
theorem upd_none {p b : Addr} {o : HO} (h : (upd H0 p o) b = none) : H0 b = none := by
  by_cases e : b = p
  · rw [e, upd_same] at h
    cases h
  · rw [upd_ne e] at h
    exact h
theorem HsIn.unmark {p : Addr} {o : HO} (h : HsIn (upd H0 p o) H a fl ca pv tv pr ps dn us n) : HsIn H0 H a fl ca pv tv pr ps dn us n := by
  obtain ⟨h1, ⟨vs, h2, h3⟩, h4, f1, f2, f3⟩ := h
  exact ⟨h1, ⟨vs, h2, Fill.mono h3 fun i j x ⟨t, dl, e1, e2, e3, e4, e5⟩ => ⟨t, dl, e1, e2, e3, upd_none e4, e5⟩⟩, h4, upd_none f1, ⟨upd_none f2.1, f2.2⟩, upd_none f3⟩
theorem HsIn.ne (h : HsIn H0 H a fl ca pv tv pr ps dn us n) : a ≠ ca := ne_of h.d h.cs (by intro z; cases z)
/-- the cells are written -/
theorem HsIn.setc (h : HsIn H0 H a fl ca pv tv pr ps dn us n) (ws : List V) : HsIn H0 (upd H ca (.lst ws)) a fl ca pv tv pr ps dn ws n ∧ But a ca H (upd H ca (.lst ws)) := by
  obtain ⟨h1, ⟨vs, h2, h3⟩, h4, f1, f2, f3⟩ := h
  have kt := Keep.updL (ys := ws) h4
  exact ⟨⟨by rw [upd_ne (ne_of h1 h4 (by intro z; cases z))]; exact h1, ⟨vs, by rw [upd_ne f2.2]; exact h2, Fill.mono h3 fun i j x ⟨t, dl, e1, e2, e3, e4, e5⟩ => ⟨t, dl, e1, kt _ _ e2, by rw [upd_ne e5]; exact e3, e4, e5⟩⟩, upd_same, f1, f2, f3⟩, fun b o _ n2 e => by rw [upd_ne n2]; exact e⟩
/-- how many were brought is written -/
theorem HsIn.setm (h : HsIn H0 H a fl ca pv tv pr ps dn us n) (m : Int) : HsIn H0 (upd H a (.dK (hsK pv tv fl ca m))) a fl ca pv tv pr ps dn us m ∧ But a ca H (upd H a (.dK (hsK pv tv fl ca m))) := by
  obtain ⟨h1, ⟨vs, h2, h3⟩, h4, f1, f2, f3⟩ := h
  have kt := Keep.updD (o := .dK (hsK pv tv fl ca m)) h1
  have ne : ∀ {b : Addr} {l : List V}, H b = some (.lst l) → b ≠ a := fun e => ne_of e h1 (by intro z; cases z)
  exact ⟨⟨upd_same, ⟨vs, by rw [upd_ne (ne h2)]; exact h2, Fill.mono h3 fun i j x ⟨t, dl, e1, e2, e3, e4, e5⟩ => ⟨t, dl, e1, kt _ _ e2, by rw [upd_ne (ne e3)]; exact e3, e4, e5⟩⟩, by rw [upd_ne (ne h4)]; exact h4, f1, f2, f3⟩, fun b o n1 _ e => by rw [upd_ne n1]; exact e⟩
theorem HsIn.keep (h : HsIn H0 H a fl ca pv tv pr ps dn us n) (b : But a ca H H') : Keep H H' := fun c xs e => b c _ (ne_of e h.d (by intro z; cases z)) (ne_of e h.cs (by intro z; cases z)) e
/-- the entry of a function -/
theorem HsIn.entry (h : HsIn H0 H a fl ca pv tv pr ps dn us n) {i j f : Nat} {p : List Nat} (e1 : ps[i]? = some p) (e2 : p[j]? = some f) : ∃ vs t dl, H fl = some (.lst vs) ∧ vs[f]? = some (.ref t) ∧ H t = some (.tup [.int (bgn pr ps dn i + psz pr (p.take j)), .ref dl]) ∧ H dl = some (.lst (nV (dn i ++ [i]))) ∧ H0 dl = none ∧ dl ≠ ca := by
  obtain ⟨vs, h2, h3⟩ := h.laid
  obtain ⟨x, hx, t, dl, rfl, z1, z2, z3, z4⟩ := h3.all.2 i p j f e1 e2
  rw [e1] at z1
  exact ⟨vs, t, dl, h2, hx, z1, z2, z3, z4⟩
end
def spLawHall : Sp := fun vs H Q _ => ∃ v t pr ps st dn, ∃ R : Nat, vs = [v, t, .int (R : Int)] ∧ preT H v t pr ps st ∧ Dn pr.length ps st dn ∧ R ≤ 64 ∧
  ∀ H' a fl ca, Same H H' → HsIn H H' a fl ca v t pr ps dn (List.replicate R .non) 0 → Q (.ref a) H'
/-! ### looks cell by cell -/
theorem has_brg {ly : List (Option Cnt)} {l m : Lay} (a : Apart l m) : Has (brg ly m) l = Has ly l := by
  unfold Has
  rw [Bool.eq_iff_iff, List.all_eq_true, List.all_eq_true]
  have e : ∀ d ∈ l, (brg ly m)[d.1]? = ly[d.1]? := fun d hd => brg_out m ly d.1 fun c hc z => a d hd c hc z.symm
  exact ⟨fun h d hd => by rw [← e d hd]; exact h d hd, fun h d hd => by rw [e d hd]; exact h d hd⟩
theorem has_brgs {L : List Lay} {q : Nat} : ∀ (ms : List Nat) (ly : List (Option Cnt)), (∀ r ∈ ms, Apart (lyr L q) (lyr L r)) → Has (brgs ly L ms) (lyr L q) = Has ly (lyr L q)
  | [], _, _ => rfl
  | r :: ms, ly, a => by
    show Has (brgs (brg ly (lyr L r)) L ms) (lyr L q) = _
    rw [has_brgs ms _ fun r hr => a r (List.mem_cons_of_mem _ hr), has_brg (a r List.mem_cons_self)]
theorem mis_take {ly : List (Option Cnt)} {L : List Lay} {w : List Nat} {i q : Nat} (hq : w[i]? = some q) : mis ly L (w.take (i + 1)) = mis ly L (w.take i) ++ (if Has ly (lyr L q) = true then [] else [q]) := by
  unfold mis
  rw [List.take_add_one, hq, List.filter_append]
  congr 1
  cases e : Has ly (lyr L q) <;> simp [e]
theorem mis_apart {w : List Nat} {L : List Lay} (pw : w.Pairwise fun q r => q ≠ r ∧ Apart (lyr L q) (lyr L r)) {ly : List (Option Cnt)} {i q : Nat} (hq : w[i]? = some q) : ∀ r ∈ mis ly L (w.take i), Apart (lyr L q) (lyr L r) := fun r hr => by
  have hm := (List.mem_filter.mp hr).1
  obtain ⟨j, hj⟩ := List.mem_iff_getElem?.mp hm
  have hjl := (List.getElem?_eq_some_iff.mp hj).1
  rw [List.length_take] at hjl
  rw [List.getElem?_take_of_lt (by omega)] at hj
  obtain ⟨li, ei⟩ := List.getElem?_eq_some_iff.mp hq
  obtain ⟨lj, ej⟩ := List.getElem?_eq_some_iff.mp hj
  have z := List.pairwise_iff_getElem.mp pw j i lj li (by omega)
  rw [ei, ej] at z
  exact z.2.symm
/-- what of a layout doesn't lie there -/
def gone (ly : List (Option Cnt)) (l : Lay) : List Int := (l.filter fun e => !decide (ly[e.1]? = some (some e.2))).map fun e => (e.1 : Int)
theorem gone_nil {ly : List (Option Cnt)} {l : Lay} : (gone ly l).isEmpty = Has ly l := by
  unfold gone
  rw [Bool.eq_iff_iff, List.isEmpty_iff, List.map_eq_nil_iff, List.filter_eq_nil_iff, has_iff]
  constructor
  · intro h e he
    have z := h e he
    simpa using z
  · intro h e he
    rw [h e he]
    simp
theorem gone_snoc {ly : List (Option Cnt)} {l : Lay} {e : Nat × Cnt} : gone ly (l ++ [e]) = gone ly l ++ (if ly[e.1]? = some (some e.2) then [] else [(e.1 : Int)]) := by
  unfold gone
  rw [List.filter_append, List.map_append]
  congr 1
  by_cases z : ly[e.1]? = some (some e.2)
  · rw [if_pos z]; simp [z]
  · rw [if_neg z]; simp [z]
theorem gone_len (ly : List (Option Cnt)) (l : Lay) : (gone ly l).length ≤ l.length := by
  unfold gone
  rw [List.length_map]
  exact List.length_filter_le _ _
theorem has_app {ly : List (Option Cnt)} {l m : Lay} : Has ly (l ++ m) = (Has ly l && Has ly m) := List.all_append
/-- the cells of one function -/
def layF (first : Nat) (f n : Nat) : Lay := (List.range n).map fun k => (first + k, (f, k))
theorem has_layF {ly : List (Option Cnt)} {a f n : Nat} : Has ly (layF a f n) = decide ((ly.drop a).take n = (List.range n).map fun k => some (f, k)) := by
  rw [Bool.eq_iff_iff, has_iff, decide_eq_true_iff]
  have hg : ∀ k, k < n → ((ly.drop a).take n)[k]? = ly[a + k]? := fun k hk => by
    rw [List.getElem?_take_of_lt hk, List.getElem?_drop]
  constructor
  · intro h
    have hl : ∀ k, k < n → ly[a + k]? = some (some (f, k)) := fun k hk => h (a + k, (f, k)) (List.mem_map.mpr ⟨k, List.mem_range.mpr hk, rfl⟩)
    refine List.ext_getElem? fun k => ?_
    by_cases hk : k < n
    · rw [hg k hk, hl k hk, List.getElem?_map, List.getElem?_range hk]
      rfl
    · rw [List.getElem?_eq_none (by rw [List.length_take]; omega), List.getElem?_eq_none (by rw [List.length_map, List.length_range]; omega)]
  · intro h e he
    obtain ⟨k, hk, rfl⟩ := List.mem_map.mp he
    have hk := List.mem_range.mp hk
    rw [← hg k hk, h, List.getElem?_map, List.getElem?_range hk]
    rfl
theorem layP_layF {pr : List (Int × W)} {cs : List Int} {p : List Nat} {f : Nat} : layP pr cs (p ++ [f]) = layP pr cs p ++ layF (cs[f]?.getD 0).toNat f (fsz pr f).toNat := layP_snoc
/-- cells as data -/
theorem cells_dp {K : PySem.W.Frag} {H : Hp} : ∀ {us : List V} {lc : List (Option Cnt)}, Paired (CellAt H) us lc → DpAll K H us (lc.map cellD)
  | _, _, .nil => .nil
  | _, _, .cons h r => .cons (cell_dp h) (cells_dp r)
theorem cells_depth : ∀ lc : List (Option Cnt), PyData.depthAll (lc.map cellD) ≤ 1
  | [] => by simp [PyData.depthAll]
  | none :: r => by
    have := cells_depth r
    simp [PyData.depthAll, cellD, PyData.depth]; omega
  | some c :: r => by
    have := cells_depth r
    simp [PyData.depthAll, cellD, cntD, PyData.depth]; omega
theorem cells_lay : ∀ lc : List (Option Cnt), PyData.canLayAll0 (lc.map cellD) = true
  | [] => by simp [PyData.canLayAll0]
  | none :: r => by simp [PyData.canLayAll0, cellD, PyData.canLay0, cells_lay r]
  | some c :: r => by simp [PyData.canLayAll0, cellD, cntD, PyData.canLay0, cells_lay r]
theorem cells_shaped (lc : List (Option Cnt)) : SeqAt.shaped (.list (lc.map cellD)) = true := by
  show (PyData.canLay0 (.list (lc.map cellD)) && decide (PyData.depth (.list (lc.map cellD)) ≤ 64)) = true
  rw [Bool.and_eq_true]
  refine ⟨by simp only [PyData.canLay0]; exact cells_lay lc, decide_eq_true ?_⟩
  have := cells_depth lc
  simp only [PyData.depth]
  omega
theorem cells_eqvAll : ∀ (lc : List (Option Cnt)) (ds : List Cnt), PyData.eqvAll (lc.map cellD) ((ds.map some).map cellD) = decide (lc = ds.map some)
  | [], [] => by simp [PyData.eqvAll]
  | [], _ :: _ => by simp [PyData.eqvAll]
  | _ :: _, [] => by simp [PyData.eqvAll]
  | c :: lc, d :: ds => by
    have h := cells_eqvAll lc ds
    have h1 := cell_eqv c d
    show (PyData.eqv (cellD c) (cellD (some d)) && PyData.eqvAll (lc.map cellD) ((ds.map some).map cellD)) = _
    rw [h, h1, Bool.eq_iff_iff, Bool.and_eq_true, decide_eq_true_iff, decide_eq_true_iff, decide_eq_true_iff, List.map_cons, List.cons.injEq]
theorem cells_eqv (lc : List (Option Cnt)) (ds : List Cnt) : PyData.eqv (.list (lc.map cellD)) (.list ((ds.map some).map cellD)) = decide (lc = ds.map some) := by
  have h := cells_eqvAll lc ds
  simp only [PyData.eqv]
  exact h
theorem paired_drop {α β : Type} {R : α → β → Prop} : ∀ {l : List α} {m : List β}, Paired R l m → ∀ k, Paired R (l.drop k) (m.drop k)
  | _, _, h, 0 => h
  | _, _, .nil, _ + 1 => .nil
  | _, _, .cons _ r, k + 1 => paired_drop r k
theorem paired_take {α β : Type} {R : α → β → Prop} : ∀ {l : List α} {m : List β}, Paired R l m → ∀ k, Paired R (l.take k) (m.take k)
  | _, _, _, 0 => by rw [List.take_zero, List.take_zero]; exact .nil
  | _, _, .nil, _ + 1 => .nil
  | _, _, .cons h r, k + 1 => .cons h (paired_take r k)
theorem cut_mid (xs : List V) (a n : Nat) (h : a + n ≤ xs.length) : cutV xs (some (a : Int)) (some ((a : Int) + (n : Int))) = (xs.drop a).take n := by
  unfold cutV
  rw [show (a : Int) + (n : Int) = ((a + n : Nat) : Int) by omega, HT.sIx_nat, HT.sIx_nat, Nat.min_eq_left (by omega), Nat.min_eq_left (by omega), show a + n - a = n by omega]
/-- the law's look; x: the hall's places, lc what lies in its cells -/
structure LawIn (H0 H : Hp) (a fl ca : Addr) (pv tv : V) (pr : List (Int × W)) (ps : List (List Nat)) (st : List Int) (dn : Nat → List Nat) (cs : List Int) (lc : List (Option Cnt)) (n : Int) (far : Nat) : Prop where
  hs : ∃ us, HsIn H0 H a fl ca pv tv pr ps dn us n ∧ Paired (CellAt H) us lc
  pre : preT H pv tv pr ps st
  dw : Dn pr.length ps st dn
  cells : Cells pr ps dn cs
  ok : HlOk (waysF pr.length ps dn) (laysF pr cs ps) far
  le : far ≤ lc.length ∧ lc.length ≤ 64
section
variable {H0 H H' : Hp} {a fl ca : Addr} {pv tv : V} {pr : List (Int × W)} {ps : List (List Nat)} {st : List Int} {dn : Nat → List Nat} {cs : List Int} {lc : List (Option Cnt)} {n : Int} {far : Nat}
theorem LawIn.keepN (h : LawIn H0 H a fl ca pv tv pr ps st dn cs lc n far) (k : ∀ b o, H0 b = none → H b = some o → (∀ ps, o ≠ .tbl ps) → H' b = some o) (kt : Keep H H') : LawIn H0 H' a fl ca pv tv pr ps st dn cs lc n far := by
  obtain ⟨us, h1, h2⟩ := h.hs
  exact ⟨⟨us, h1.keepN k kt, L2.Paired.mapP h2 fun _ _ z => z.keep kt⟩, h.pre.keep kt, h.dw, h.cells, h.ok, h.le⟩
theorem LawIn.same (h : LawIn H0 H a fl ca pv tv pr ps st dn cs lc n far) (s : Same H H') : LawIn H0 H' a fl ca pv tv pr ps st dn cs lc n far := h.keepN (fun b o _ e _ => s _ _ e) (Keep.same s)
theorem LawIn.but {p q : Addr} (h : LawIn H0 H a fl ca pv tv pr ps st dn cs lc n far) (hp : H0 p ≠ none) (hq : H0 q ≠ none) (b : But p q H H') (kt : Keep H H') : LawIn H0 H' a fl ca pv tv pr ps st dn cs lc n far := h.keepN (fun c o n e _ => b c o (fun z => hp (by rw [← z]; exact n)) (fun z => hq (by rw [← z]; exact n)) e) kt
theorem LawIn.mark {p : Addr} {o : HO} (h : LawIn H0 H a fl ca pv tv pr ps st dn cs lc n far) (hp : H p = none) : LawIn (upd H0 p o) H a fl ca pv tv pr ps st dn cs lc n far := by
  obtain ⟨us, h1, h2⟩ := h.hs
  exact ⟨⟨us, h1.mark hp, h2⟩, h.pre, h.dw, h.cells, h.ok, h.le⟩
theorem LawIn.unmark {p : Addr} {o : HO} (h : LawIn (upd H0 p o) H a fl ca pv tv pr ps st dn cs lc n far) : LawIn H0 H a fl ca pv tv pr ps st dn cs lc n far := by
  obtain ⟨us, h1, h2⟩ := h.hs
  exact ⟨⟨us, h1.unmark, h2⟩, h.pre, h.dw, h.cells, h.ok, h.le⟩
theorem LawIn.keep (h : LawIn H0 H a fl ca pv tv pr ps st dn cs lc n far) (b : But a ca H H') : Keep H H' := by
  obtain ⟨us, h1, h2⟩ := h.hs
  exact h1.keep b
end
def spIsIn : Sp := fun vs H Q _ => ∃ H0 a fl ca pv tv pr ps st dn cs lc n far, ∃ f : Nat, vs = [.ref a, .int (f : Int)] ∧ LawIn H0 H a fl ca pv tv pr ps st dn cs lc n far ∧ f < pr.length ∧ ∀ H', Same H H' → Q (.bl (thr lc (laysF pr cs ps) (wayF ps dn f))) H'
def spLawLook : Sp := fun vs H Q _ => ∃ H0 a fl ca pv tv pr ps st dn cs lc n far, ∃ f : Nat, vs = [.ref a, .int (f : Int)] ∧ LawIn H0 H a fl ca pv tv pr ps st dn cs lc n far ∧ f < pr.length ∧
  ∀ H' r, But a ca H H' → H r = none → H' r = some (.lst (nV (mis lc (laysF pr cs ps) (wayF ps dn f)))) → LawIn H0 H' a fl ca pv tv pr ps st dn cs (brgs lc (laysF pr cs ps) (mis lc (laysF pr cs ps) (wayF ps dn f))) (n + (siz (laysF pr cs ps) (mis lc (laysF pr cs ps) (wayF ps dn f)) : Nat)) far → Q (.ref r) H'
end Ov
namespace Ov
open PySem PySem.Spec PyProof.Rows L2
theorem Paired.app {α β : Type} {R : α → β → Prop} : ∀ {a : List α} {b : List β} {c : List α} {d : List β}, Paired R a b → Paired R c d → Paired R (a ++ c) (b ++ d)
  | _, _, _, _, .nil, h => h
  | _, _, _, _, .cons x r, h => .cons x (Paired.app r h)
end Ov
/-! ### an object made in a lambda, where its __init__ raises -/
namespace Ov
open PySem PySem.Spec PyProof.Rows L2
section
variable {X : Cx} {CX : CXT} {k : Nat} {f C : Addr} {fd : FuncData} {ps : List Str} {sp : Sp} {E : L2.St → XK} {x : Str} {p pos : Pos} {e : Expr} {es : List Expr} {t : TA}
theorem run_makeS {pins : List (Addr × Obj)} {σ : L2.St} {H : Hp} {s : Shared} {Q : VK} {us : List Value} {vs : List V} (M : Mk X.K C f) (F : FnOk X.prog X.w X.K X.mg X.base CX k f fd ps sp) (hr : Room (k + 1) X.A) (hb : Binds X.K fd ps [])
    (hx : PassesAt CX X σ (E σ)) (I : Inv X pins σ H s) (r : Vals vs us)
    (h : ∀ x dx, H x = none → H dx = none → dx ≠ x → sp (.ref x :: vs) (upd (upd H dx (.own x)) x (.ins C dx [])) (fun v H2 => v = .non ∧ Q (.ref x) H2) (E σ)) :
    wpAny (model X.prog X.w) X.A (call (.ref C) us) (EP X pins σ Q) X.xe s := by
  have hq := h (s.heap.objs.size + 1) s.heap.objs.size (I.hok.fresh (Nat.le_succ _)) (I.hok.fresh (Nat.le_refl _)) (Nat.ne_of_lt (Nat.lt_succ_self _))
  have I2 := Inv.made (C := C) I
  have r2 : Vals (V.ref (s.heap.objs.size + 1) :: vs) (Value.ref (s.heap.objs.size + 1) :: us) := .cons rfl r
  have hl : (Value.ref (s.heap.objs.size + 1) :: us).length = ps.length := by
    have e := r2.length
    rw [F.len _ _ _ _ hq] at e
    exact e.symm
  have b := hb _ (Value.ref (s.heap.objs.size + 1) :: us) I2.kIn (by rw [List.append_nil]; exact hl)
  rw [List.append_nil] at b
  refine wpAny_call (make_map (f := f) I.kIn M.makes M.init (beq_iff_eq.mp M.fn) (codeAny_mono (F.run _ X.stack _ _ ⟨Value.ref (s.heap.objs.size + 1) :: us, []⟩ (Value.ref (s.heap.objs.size + 1) :: us) _ _ (E σ) (hr.make C us [])
    (I2.env0.make C us []) b r2 hq) fun r s' hq' => ?_))
  cases r with
  | error e => exact hx pins _ _ e s' I2 hq'
  | ok fl =>
    cases fl with
    | ret u =>
      obtain ⟨v, H', I3, rv, ev, q3⟩ := I2.after hq'
      subst ev
      exact ⟨rv, ⟨V.ref (s.heap.objs.size + 1), H', I3, rfl, q3⟩⟩
    | next => exact False.elim hq'
    | brk => exact False.elim hq'
    | cont => exact False.elim hq'
theorem pe_makeS (M : Mk X.K C f) (F : FnOk X.prog X.w X.K X.mg X.base CX k f fd ps sp) (hr : Room (k + 1) X.A) (hg : Gl X x) (hm : X.mg x = some (.ref C)) (hb : Binds X.K fd ps []) (hx : ∀ σ, PassesAt CX X σ (E σ))
    (ha : L2.PA X (e :: es) t) (hdb : (x == ("__debug__" : Str)) = false := by decide) (he : starEach (e :: es) X.env = (false, eval e X.env) :: starEach es X.env := by rfl) (hpl : (backTo pos (starEach es X.env)).any (·.1) = false := by rfl) :
    PE X (.Call (.Name x p) (e :: es) [] pos) (fun σ H Q => t σ H fun vs H1 => ∀ x dx, H1 x = none → H1 dx = none → dx ≠ x →
      sp (.ref x :: vs) (upd (upd H1 dx (.own x)) x (.ins C dx [])) (fun v H2 => v = .non ∧ Q (.ref x) H2) (E σ)) := by
  refine ⟨fun pins s σ H Q I h => ?_⟩
  refine wpAny_Call_Name_kw (ld_glob I hg hm ?_ hdb)
  refine PySem.W.callWith_K (h₀ := X.base) I.ok.mod.kin M.kp (thn (ha.run pos pins s σ H _ I h) fun us s1 ⟨vs, H1, I1, r, q⟩ => ⟨I1.kIn, ?_⟩) he hpl
  exact run_makeS M F hr hb (hx σ) I1 r q
end
/-! ### what stays of a hall when another's places change -/
section
variable {K : PySem.W.Frag} {H0 H H' : Hp} {x : HA} {wys : List (List Nat)} {L : List Lay} {lc : List (Option Cnt)} {mv : Int} {far : Nat}
theorem HallAt.keepN (h : HallAt K H0 H x wys L lc mv) (k : ∀ b o, H0 b = none → H b = some o → (∀ ps, o ≠ .tbl ps) → H' b = some o) (kt : Keep H H') : HallAt K H0 H' x wys L lc mv := by
  obtain ⟨h1, ⟨ws, h2, h3⟩, ⟨ls, h4, h5⟩, ⟨vs, h6, h7⟩, f1, f2, f3, f4⟩ := h
  have kl : ∀ b xs, H0 b = none → H b = some (.lst xs) → H' b = some (.lst xs) := fun b xs n e => k b _ n e (fun _ z => by cases z)
  exact ⟨k _ _ f1 h1 (fun _ z => by cases z), ⟨ws, kl _ _ f2.1 h2, L2.Paired.mapP h3 fun b w z => ⟨kl _ _ z.2.1 z.1, z.2⟩⟩, ⟨ls, kl _ _ f3.1 h4, L2.Paired.mapP h5 fun b l z => by
    obtain ⟨⟨us, z1, z2⟩, z3⟩ := z
    exact ⟨⟨us, kl _ _ z3.1 z1, L2.Paired.mapP z2 fun _ _ y => y.keep kt⟩, z3⟩⟩, ⟨vs, kl _ _ f4 h6, L2.Paired.mapP h7 fun _ _ y => y.keep kt⟩, f1, f2, f3, f4⟩
theorem HallIn.keepN (i : HallIn K H0 H x wys L lc mv far) (k : ∀ b o, H0 b = none → H b = some o → (∀ ps, o ≠ .tbl ps) → H' b = some o) (kt : Keep H H') : HallIn K H0 H' x wys L lc mv far := ⟨i.at_.keepN k kt, i.ok, i.le⟩
theorem HallAt.mark {p : Addr} {o : HO} (h : HallAt K H0 H x wys L lc mv) (hp : H p = none) : HallAt K (upd H0 p o) H x wys L lc mv := by
  obtain ⟨h1, ⟨ws, h2, h3⟩, ⟨ls, h4, h5⟩, ⟨vs, h6, h7⟩, f1, f2, f3, f4⟩ := h
  have ne : ∀ {b : Addr} {u : HO}, H b = some u → H0 b = none → (upd H0 p o) b = none := fun e n => by rw [upd_ne (ne_of_none e hp)]; exact n
  exact ⟨h1, ⟨ws, h2, L2.Paired.mapP h3 fun b w z => ⟨z.1, ne z.1 z.2.1, z.2.2⟩⟩, ⟨ls, h4, L2.Paired.mapP h5 fun b l z => by
    obtain ⟨⟨us, z1, z2⟩, z3⟩ := z
    exact ⟨⟨us, z1, z2⟩, ne z1 z3.1, z3.2⟩⟩, ⟨vs, h6, h7⟩, ne h1 f1, ⟨ne h2 f2.1, f2.2⟩, ⟨ne h4 f3.1, f3.2⟩, ne h6 f4⟩
end
/-! ### places that change: all else stays -/
/-- lists, instances and dicts apart, all stays -/
def Hard (o : HO) : Prop := (∀ xs, o ≠ .lst xs) ∧ (∀ C dx fs, o ≠ .ins C dx fs) ∧ ∀ kvs, o ≠ .dK kvs
def Kp (H H' : Hp) : Prop := ∀ b o, H b = some o → Hard o → H' b = some o
def Soft (H : Hp) (p : Addr) : Prop := ∃ o, H p = some o ∧ ((∃ xs, o = .lst xs) ∨ (∃ C dx fs, o = .ins C dx fs) ∨ ∃ kvs, o = .dK kvs)
theorem Soft.ne {H : Hp} {p : Addr} (h : Soft H p) : H p ≠ none := by
  obtain ⟨o, e, _⟩ := h
  rw [e]
  intro z
  cases z
theorem Soft.not {H : Hp} {p : Addr} {o : HO} (h : Soft H p) (e : H p = some o) (n : Hard o) : False := by
  obtain ⟨o', e', k⟩ := h
  obtain rfl := Option.some.inj (e.symm.trans e')
  rcases k with ⟨xs, rfl⟩ | ⟨C, dx, fs, rfl⟩ | ⟨kvs, rfl⟩
  · exact n.1 _ rfl
  · exact n.2.1 _ _ _ rfl
  · exact n.2.2 _ rfl
theorem Kp.but {p q : Addr} {H H' : Hp} (b : But p q H H') (hp : Soft H p) (hq : Soft H q) : Kp H H' := fun x o e n => b x o (fun z => hp.not (by rw [← z]; exact e) n) (fun z => hq.not (by rw [← z]; exact e) n) e
theorem Kp.trans {H H1 H' : Hp} (a : Kp H H1) (b : Kp H1 H') : Kp H H' := fun x o e n => b x o (a x o e n) n
theorem Kp.same {H H' : Hp} (s : Same H H') : Kp H H' := fun x o e _ => s x o e
theorem hard_tup (xs : List V) : Hard (.tup xs) := by
  refine ⟨fun _ z => ?_, fun _ _ _ z => ?_, fun _ z => ?_⟩ <;> cases z
theorem Kp.keep {H H' : Hp} (k : Kp H H') : Keep H H' := fun a xs e => k a _ e (hard_tup xs)
theorem Kp.tabs {T : List (Addr × Str)} {H H' : Hp} (k : Kp H H') (t : LamX.Tabs T H) : LamX.Tabs T H' := tabs_keep t fun b o e z => by
  refine k b o e ⟨fun xs y => not_lst z y, fun C dx fs y => ?_, fun kvs y => ?_⟩
  all_goals
    subst y
    rcases z with ⟨ps, z⟩ | ⟨c, q, z⟩
    · cases z
    · unfold LamX.CodeO at z
      cases z
theorem Dr.soft {H : Hp} {h c : Addr} (d : Dr H h c) : Soft H h ∧ Soft H c := by
  obtain ⟨m, k, xs, h1, h2, _⟩ := d
  exact ⟨⟨_, h1, .inl ⟨_, rfl⟩⟩, ⟨_, h2, .inl ⟨_, rfl⟩⟩⟩
theorem Dr.keepT {p q h c : Addr} {H H' : Hp} (d : Dr H h c) (b : But p q H H') (n1 : h ≠ p) (n2 : h ≠ q) (n3 : c ≠ p) (n4 : c ≠ q) : Dr H' h c := by
  obtain ⟨m, k, xs, h1, h2, l⟩ := d
  exact ⟨m, k, xs, b _ _ n1 n2 h1, b _ _ n3 n4 h2, l⟩
theorem Keep.extN {H H' : Hp} (x : LamX.ExtN H H') : Keep H H' := keep_extN x
/-! ### a side: a hall, and the law's own -/
structure Sd where
  x : HA
  a : Addr
  fl : Addr
  ca : Addr
  pv : V
  tv : V
  pr : List (Int × W)
  ps : List (List Nat)
  st : List Int
  dn : Nat → List Nat
  cs : List Int
  far : Nat
def Sd.wys (d : Sd) : List (List Nat) := waysF d.pr.length d.ps d.dn
def Sd.L (d : Sd) : List Lay := laysF d.pr d.cs d.ps
def Sd.own (d : Sd) : List Addr := [d.x.a, d.x.ly, d.a, d.ca]
/-- M: all places that change -/
def SdAt (K : PySem.W.Frag) (H : Hp) (M : List Addr) (d : Sd) (lc : List (Option Cnt)) (mv : Int) : Prop := ∃ Hx Hs : Hp, HallIn K Hx H d.x d.wys d.L lc mv d.far ∧ LawIn Hs H d.a d.fl d.ca d.pv d.tv d.pr d.ps d.st d.dn d.cs lc mv d.far ∧
  (∀ p ∈ M, p ≠ d.x.a → p ≠ d.x.ly → Hx p ≠ none) ∧ ∀ p ∈ M, p ≠ d.a → p ≠ d.ca → Hs p ≠ none
section
variable {K : PySem.W.Frag} {H H' : Hp} {M : List Addr} {d : Sd} {lc lc' : List (Option Cnt)} {mv mv' : Int} {p q : Addr}
theorem SdAt.keepN (h : SdAt K H M d lc mv) (k : ∀ b o, H b = some o → (∀ ps, o ≠ .tbl ps) → H' b = some o) : SdAt K H' M d lc mv := by
  obtain ⟨Hx, Hs, h1, h2, m1, m2⟩ := h
  have kt : Keep H H' := fun a xs e => k a _ e (fun _ z => by cases z)
  exact ⟨Hx, Hs, h1.keepN (fun b o _ e n => k b o e n) kt, h2.keepN (fun b o _ e n => k b o e n) kt, m1, m2⟩
theorem SdAt.same (h : SdAt K H M d lc mv) (s : Same H H') : SdAt K H' M d lc mv := h.keepN fun b o e _ => s b o e
theorem SdAt.extN (h : SdAt K H M d lc mv) (s : LamX.ExtN H H') : SdAt K H' M d lc mv := h.keepN fun b o e n => s b o e n
theorem SdAt.but (h : SdAt K H M d lc mv) (hp : p ∈ M) (hq : q ∈ M) (np : p ∉ d.own) (nq : q ∉ d.own) (b : But p q H H') (k : Kp H H') : SdAt K H' M d lc mv := by
  obtain ⟨Hx, Hs, h1, h2, m1, m2⟩ := h
  have ne : ∀ {z : Addr}, z ∉ d.own → z ≠ d.x.a ∧ z ≠ d.x.ly ∧ z ≠ d.a ∧ z ≠ d.ca := fun {z} n => by
    unfold Sd.own at n
    simp only [List.mem_cons, List.not_mem_nil, or_false, not_or] at n
    exact n
  obtain ⟨p1, p2, p3, p4⟩ := ne np
  obtain ⟨q1, q2, q3, q4⟩ := ne nq
  exact ⟨Hx, Hs, h1.keepN (fun c o n e _ => b c o (fun z => m1 p hp p1 p2 (by rw [← z]; exact n)) (fun z => m1 q hq q1 q2 (by rw [← z]; exact n)) e) k.keep, h2.but (m2 p hp p3 p4) (m2 q hq q3 q4) b k.keep, m1, m2⟩
theorem SdAt.mark {p : Addr} (h : SdAt K H M d lc mv) (hp : H p = none) : SdAt K H (p :: M) d lc mv := by
  obtain ⟨Hx, Hs, h1, h2, m1, m2⟩ := h
  refine ⟨upd Hx p (.lst []), upd Hs p (.lst []), ⟨h1.at_.mark hp, h1.ok, h1.le⟩, h2.mark hp, fun r hr n1 n2 => ?_, fun r hr n1 n2 => ?_⟩
  · by_cases e : r = p
    · rw [e, upd_same]; intro z; cases z
    · rw [upd_ne e]
      rcases List.mem_cons.mp hr with hr | hr
      · exact absurd hr e
      · exact m1 r hr n1 n2
  · by_cases e : r = p
    · rw [e, upd_same]; intro z; cases z
    · rw [upd_ne e]
      rcases List.mem_cons.mp hr with hr | hr
      · exact absurd hr e
      · exact m2 r hr n1 n2
theorem SdAt.sub {N : List Addr} (h : SdAt K H M d lc mv) (s : ∀ p ∈ N, p ∈ M) : SdAt K H N d lc mv := by
  obtain ⟨Hx, Hs, h1, h2, m1, m2⟩ := h
  exact ⟨Hx, Hs, h1, h2, fun p hp => m1 p (s p hp), fun p hp => m2 p (s p hp)⟩
theorem SdAt.soft (h : SdAt K H M d lc mv) : ∀ p ∈ d.own, Soft H p := by
  obtain ⟨Hx, Hs, h1, ⟨⟨us, h2, _⟩, _⟩, m1, m2⟩ := h
  obtain ⟨vs, h6, _⟩ := h1.at_.ly
  intro p hp
  unfold Sd.own at hp
  simp only [List.mem_cons, List.not_mem_nil, or_false] at hp
  rcases hp with rfl | rfl | rfl | rfl
  · exact ⟨_, h1.at_.ob, .inr (.inl ⟨_, _, _, rfl⟩)⟩
  · exact ⟨_, h6, .inl ⟨_, rfl⟩⟩
  · exact ⟨_, h2.d, .inr (.inr ⟨_, rfl⟩)⟩
  · exact ⟨_, h2.cs, .inl ⟨_, rfl⟩⟩
/-- all but the places of l stays -/
def ButW (l : List Addr) (H H' : Hp) : Prop := ∀ b o, b ∉ l → H b = some o → H' b = some o
theorem ButW.of {l : List Addr} (hp : p ∈ l) (hq : q ∈ l) (b : But p q H H') : ButW l H H' := fun c o n e => b c o (fun z => n (by rw [z]; exact hp)) (fun z => n (by rw [z]; exact hq)) e
theorem ButW.trans {l : List Addr} {H1 : Hp} (a : ButW l H H1) (b : ButW l H1 H') : ButW l H H' := fun c o n e => b c o n (a c o n e)
theorem ButW.same {l : List Addr} (s : Same H H') : ButW l H H' := fun c o _ e => s c o e
theorem SdAt.butL {l : List Addr} (h : SdAt K H M d lc mv) (hm : ∀ p ∈ l, p ∈ M) (hn : ∀ p ∈ l, p ∉ d.own) (b : ButW l H H') (k : Kp H H') : SdAt K H' M d lc mv := by
  obtain ⟨Hx, Hs, h1, h2, m1, m2⟩ := h
  have ne : ∀ {z : Addr}, z ∈ l → z ≠ d.x.a ∧ z ≠ d.x.ly ∧ z ≠ d.a ∧ z ≠ d.ca := fun {z} m => by
    have n := hn z m
    unfold Sd.own at n
    simp only [List.mem_cons, List.not_mem_nil, or_false, not_or] at n
    exact n
  exact ⟨Hx, Hs, h1.keepN (fun c o n e _ => b c o (fun z => m1 c (hm c z) (ne z).1 (ne z).2.1 n) e) k.keep, h2.keepN (fun c o n e _ => b c o (fun z => m2 c (hm c z) (ne z).2.2.1 (ne z).2.2.2 n) e) k.keep, m1, m2⟩
end
theorem HallAt.fresh {K : PySem.W.Frag} {H0 H H' : Hp} {x : HA} {wys : List (List Nat)} {L : List Lay} {lc lc' : List (Option Cnt)} {mv mv' : Int} {r : Addr} {o : HO} (h : HallAt K H0 H x wys L lc mv) (h' : HallAt K H0 H' x wys L lc' mv') (b : ButHl x H H') (hr : H r = none) : HallAt K (upd H0 r o) H' x wys L lc' mv' := by
  obtain ⟨g1, ⟨ws0, g2, g3⟩, ⟨ls0, g4, g5⟩, ⟨vs0, g6, g7⟩, _, _, _, _⟩ := h
  obtain ⟨h1, ⟨ws, h2, h3⟩, ⟨ls, h4, h5⟩, ⟨vs, h6, h7⟩, f1, f2, f3, f4⟩ := h'
  have ne : ∀ {b : Addr} {u : HO}, H b = some u → H0 b = none → (upd H0 r o) b = none := fun e n => by rw [upd_ne (ne_of_none e hr)]; exact n
  have ew : ws0 = ws := by
    have z := b _ _ (ne_of g2 g1 (by intro z; cases z)) f2.2 g2
    have y := HO.lst.inj (Option.some.inj (z.symm.trans h2))
    exact (List.map_inj_right (fun a b e => V.ref.inj e)).mp y
  have el : ls0 = ls := by
    have z := b _ _ (ne_of g4 g1 (by intro z; cases z)) f3.2 g4
    have y := HO.lst.inj (Option.some.inj (z.symm.trans h4))
    exact (List.map_inj_right (fun a b e => V.ref.inj e)).mp y
  subst ew el
  have old : ∀ b ∈ ws0, ∃ u, H b = some u := fun b hb => by
    obtain ⟨w, z, _⟩ := PairedMem.left g3 b hb
    exact ⟨_, z⟩
  have old2 : ∀ b ∈ ls0, ∃ u, H b = some u := fun b hb => by
    obtain ⟨w, ⟨us, z, _⟩, _⟩ := PairedMem.left g5 b hb
    exact ⟨_, z⟩
  refine ⟨h1, ⟨ws0, h2, PairedMem.map h3 fun b w hb z => ?_⟩, ⟨ls0, h4, PairedMem.map h5 fun b l hb z => ?_⟩, ⟨vs, h6, h7⟩, ne g1 f1, ⟨ne g2 f2.1, f2.2⟩, ⟨ne g4 f3.1, f3.2⟩, ne g6 f4⟩
  · obtain ⟨u, hu⟩ := old b hb
    exact ⟨z.1, ne hu z.2.1, z.2.2⟩
  · obtain ⟨u, hu⟩ := old2 b hb
    exact ⟨z.1, ne hu z.2.1, z.2.2⟩
/-- the places that change -/
def plc (h c S : Addr) (ds : List (Addr × Sd)) : List Addr := h :: c :: S :: ds.flatMap fun p => p.2.own
structure SidesAt (K : PySem.W.Frag) (T : List (Addr × Str)) (H : Hp) (h c S : Addr) (ds : List (Addr × Sd)) : Prop where
  dr : Dr H h c
  tabs : LamX.Tabs T H
  eS : H S = some (.lst (ds.map fun p => V.ref p.1))
  nd : (plc h c S ds).Nodup
  sd : ∀ p ∈ ds, H p.1 = some (.tup [.ref p.2.x.a, .ref p.2.a]) ∧ ∃ lc mv, SdAt K H (plc h c S ds) p.2 lc mv
section
variable {K : PySem.W.Frag} {T : List (Addr × Str)} {H H' : Hp} {h c S : Addr} {ds : List (Addr × Sd)} {p : Addr × Sd}
theorem plc_own (hp : p ∈ ds) : ∀ a ∈ p.2.own, a ∈ plc h c S ds := fun a ha => by
  unfold plc
  exact List.mem_cons_of_mem _ (List.mem_cons_of_mem _ (List.mem_cons_of_mem _ (List.mem_flatMap.mpr ⟨p, hp, ha⟩)))
theorem own_nd (n : (plc h c S ds).Nodup) (hp : p ∈ ds) : p.2.own.Nodup := by
  unfold plc at n
  have n3 := (List.nodup_cons.mp (List.nodup_cons.mp (List.nodup_cons.mp n).2).2).2
  unfold List.Nodup at n3 ⊢
  rw [List.pairwise_flatMap] at n3
  exact n3.1 p hp
theorem plc_ne (n : (plc h c S ds).Nodup) (hp : p ∈ ds) : (h ∉ p.2.own ∧ c ∉ p.2.own ∧ S ∉ p.2.own) ∧ h ≠ S ∧ c ≠ S := by
  unfold plc at n
  have n1 := List.nodup_cons.mp n
  have n2 := List.nodup_cons.mp n1.2
  have n3 := List.nodup_cons.mp n2.2
  have m : ∀ a ∈ p.2.own, a ∈ ds.flatMap fun p => p.2.own := fun a ha => List.mem_flatMap.mpr ⟨p, hp, ha⟩
  exact ⟨⟨fun z => n1.1 (List.mem_cons_of_mem _ (List.mem_cons_of_mem _ (m _ z))), fun z => n2.1 (List.mem_cons_of_mem _ (m _ z)), fun z => n3.1 (m _ z)⟩, fun z => n1.1 (by rw [z]; exact List.mem_cons_of_mem _ List.mem_cons_self), fun z => n2.1 (by rw [z]; exact List.mem_cons_self)⟩
theorem SidesAt.keepN (i : SidesAt K T H h c S ds) (k : ∀ b o, H b = some o → (∀ ps, o ≠ .tbl ps) → H' b = some o) (t : LamX.Tabs T H') : SidesAt K T H' h c S ds := by
  obtain ⟨⟨m, kk, xs, g1, g2, g3⟩, _, h3, h4, h5⟩ := i
  exact ⟨⟨m, kk, xs, k _ _ g1 (fun _ z => by cases z), k _ _ g2 (fun _ z => by cases z), g3⟩, t, k _ _ h3 (fun _ z => by cases z), h4, fun p hp => by
    obtain ⟨z1, lc, mv, z2⟩ := h5 p hp
    exact ⟨k _ _ z1 (fun _ z => by cases z), lc, mv, z2.keepN k⟩⟩
theorem SidesAt.same (i : SidesAt K T H h c S ds) (s : Same H H') : SidesAt K T H' h c S ds := i.keepN (fun b o e _ => s b o e) (tabs_same i.tabs s)
theorem SidesAt.extN (i : SidesAt K T H h c S ds) (s : LamX.ExtN H H') (t : LamX.Tabs T H') : SidesAt K T H' h c S ds := i.keepN (fun b o e n => s b o e n) t
theorem SidesAt.nS (i : SidesAt K T H h c S ds) : h ≠ S ∧ c ≠ S := by
  have n := i.nd
  unfold plc at n
  have n1 := List.nodup_cons.mp n
  have n2 := List.nodup_cons.mp n1.2
  exact ⟨fun z => n1.1 (by rw [z]; exact List.mem_cons_of_mem _ List.mem_cons_self), fun z => n2.1 (by rw [z]; exact List.mem_cons_self)⟩
theorem SidesAt.but (i : SidesAt K T H h c S ds) (b : But h c H H') (d : Dr H' h c) : SidesAt K T H' h c S ds := by
  have kp := Kp.but b i.dr.soft.1 i.dr.soft.2
  refine ⟨d, kp.tabs i.tabs, b _ _ i.nS.1.symm i.nS.2.symm i.eS, i.nd, fun p hp => ?_⟩
  obtain ⟨z1, lc, mv, z2⟩ := i.sd p hp
  have n := plc_ne i.nd hp
  exact ⟨kp.keep _ _ z1, lc, mv, z2.but (by unfold plc; exact List.mem_cons_self) (by unfold plc; exact List.mem_cons_of_mem _ List.mem_cons_self) n.1.1 n.1.2.1 b kp⟩
/-- one side changes -/
theorem SidesAt.put (i : SidesAt K T H h c S ds) (hp : p ∈ ds) (b : ButW p.2.own H H') (k : Kp H H') {lc : List (Option Cnt)} {mv : Int} (s : SdAt K H' (plc h c S ds) p.2 lc mv) (one : ∀ q ∈ ds, q ≠ p → ∀ a ∈ p.2.own, a ∉ q.2.own) : SidesAt K T H' h c S ds := by
  have n := plc_ne i.nd hp
  obtain ⟨m, kk, xs, g1, g2, g3⟩ := i.dr
  refine ⟨⟨m, kk, xs, b _ _ n.1.1 g1, b _ _ n.1.2.1 g2, g3⟩, k.tabs i.tabs, b _ _ n.1.2.2 i.eS, i.nd, fun q hq => ?_⟩
  obtain ⟨z1, lc', mv', z2⟩ := i.sd q hq
  refine ⟨k.keep _ _ z1, ?_⟩
  by_cases e : q = p
  · subst e
    exact ⟨_, _, s⟩
  · exact ⟨lc', mv', z2.butL (plc_own hp) (one q hq e) b k⟩
theorem plc_one (n : (plc h c S ds).Nodup) (hp : p ∈ ds) : ∀ q ∈ ds, q ≠ p → ∀ a ∈ p.2.own, a ∉ q.2.own := fun q hq ne a ha hb => by
  unfold plc at n
  have n3 := (List.nodup_cons.mp (List.nodup_cons.mp (List.nodup_cons.mp n).2).2).2
  unfold List.Nodup at n3
  rw [List.pairwise_flatMap] at n3
  have pw := n3.2
  obtain ⟨j, hj⟩ := List.mem_iff_getElem?.mp hp
  obtain ⟨k, hk⟩ := List.mem_iff_getElem?.mp hq
  obtain ⟨lj, ej⟩ := List.getElem?_eq_some_iff.mp hj
  obtain ⟨lk, ek⟩ := List.getElem?_eq_some_iff.mp hk
  rcases Nat.lt_trichotomy j k with lt | eq | gt
  · have z := List.pairwise_iff_getElem.mp pw j k lj lk lt
    rw [ej, ek] at z
    exact z a ha a hb rfl
  · subst eq
    exact ne (Option.some.inj (hk.symm.trans hj))
  · have z := List.pairwise_iff_getElem.mp pw k j lk lj gt
    rw [ej, ek] at z
    exact z a hb a ha rfl
end
theorem cell_al {H : Hp} {d : Nat} : ∀ {v u : V} {c : Option Cnt}, CellAt H v c → CellAt H u c → Al H (d + 2) v u
  | _, _, none, rfl, rfl => .inl ⟨rfl, rfl⟩
  | _, _, some _, ⟨a, rfl, ha⟩, ⟨b, rfl, hb⟩ => .inr (.inr ⟨a, b, _, _, rfl, rfl, ha, hb, (by show 2 ≤ 9000; decide), Al.flat _ rfl⟩)
theorem cells_al {H : Hp} {d : Nat} : ∀ {us vs : List V} {lc : List (Option Cnt)}, Paired (CellAt H) us lc → Paired (CellAt H) vs lc → Paired (Al H (d + 2)) us vs
  | _, _, _, .nil, .nil => .nil
  | _, _, _, .cons h r, .cons h' r' => .cons (cell_al h h') (cells_al r r')
end Ov
/-! ### what traces cost -/
namespace Ov
open PySem PySem.Spec PyProof.Rows L2
def tstep (wys : List (List Nat)) (L : List Lay) (s : List (Option Cnt) × Nat) (f : Nat) : List (Option Cnt) × Nat := (brgs s.1 L (mis s.1 L (wys[f]?.getD [])), s.2 + siz L (mis s.1 L (wys[f]?.getD [])))
def tsum (wys : List (List Nat)) (L : List Lay) (s : List (Option Cnt) × Nat) (ns : List Nat) : List (Option Cnt) × Nat := ns.foldl (tstep wys L) s
theorem tsum_snoc (wys : List (List Nat)) (L : List Lay) (s : List (Option Cnt) × Nat) (ns : List Nat) (f : Nat) : tsum wys L s (ns ++ [f]) = tstep wys L (tsum wys L s ns) f := by
  unfold tsum
  rw [List.foldl_append]
  rfl
def costT (wys : List (List Nat)) (L : List Lay) (n : Nat) (ns : List Nat) : Nat := (tsum wys L (List.replicate n none, 0) ns).2
/-- two halls that lie alike as far as the tree goes -/
def Agr (far : Nat) (l1 l2 : List (Option Cnt)) : Prop := ∀ c, c < far → l1[c]? = l2[c]?
theorem has_agr {far : Nat} {l1 l2 : List (Option Cnt)} (a : Agr far l1 l2) {l : Lay} (lt : ∀ e ∈ l, e.1 < far) : Has l1 l = Has l2 l := by
  rw [Bool.eq_iff_iff, has_iff, has_iff]
  exact ⟨fun h e he => by rw [← a e.1 (lt e he)]; exact h e he, fun h e he => by rw [a e.1 (lt e he)]; exact h e he⟩
theorem mis_agr {wys : List (List Nat)} {L : List Lay} {far : Nat} (ok : HlOk wys L far) {l1 l2 : List (Option Cnt)} (a : Agr far l1 l2) (w : List Nat) : mis l1 L w = mis l2 L w := by
  unfold mis
  refine List.filter_congr fun q _ => ?_
  rw [has_agr a (ok.lt q)]
theorem brg_agr {far : Nat} : ∀ (l : Lay) {l1 l2 : List (Option Cnt)}, Agr far l1 l2 → far ≤ l1.length → far ≤ l2.length → Agr far (brg l1 l) (brg l2 l)
  | [], _, _, a, _, _ => a
  | e :: l, l1, l2, a, h1, h2 => by
    show Agr far (brg (l1.set e.1 (some e.2)) l) (brg (l2.set e.1 (some e.2)) l)
    refine brg_agr l (fun c hc => ?_) (by rw [List.length_set]; exact h1) (by rw [List.length_set]; exact h2)
    by_cases z : e.1 = c
    · subst z
      rw [List.getElem?_set_self (by omega), List.getElem?_set_self (by omega)]
    · rw [List.getElem?_set_ne z, List.getElem?_set_ne z]
      exact a c hc
theorem brgs_agr {far : Nat} {L : List Lay} : ∀ (ms : List Nat) {l1 l2 : List (Option Cnt)}, Agr far l1 l2 → far ≤ l1.length → far ≤ l2.length → Agr far (brgs l1 L ms) (brgs l2 L ms)
  | [], _, _, a, _, _ => a
  | q :: ms, l1, l2, a, h1, h2 => by
    show Agr far (brgs (brg l1 (lyr L q)) L ms) (brgs (brg l2 (lyr L q)) L ms)
    exact brgs_agr ms (brg_agr _ a h1 h2) (by rw [brg_len]; exact h1) (by rw [brg_len]; exact h2)
theorem tsum_agr {wys : List (List Nat)} {L : List Lay} {far : Nat} (ok : HlOk wys L far) : ∀ (ns : List Nat) {l1 l2 : List (Option Cnt)} {n : Nat}, Agr far l1 l2 → far ≤ l1.length → far ≤ l2.length → (tsum wys L (l1, n) ns).2 = (tsum wys L (l2, n) ns).2
  | [], _, _, _, _, _, _ => rfl
  | f :: ns, l1, l2, n, a, h1, h2 => by
    show (tsum wys L (tstep wys L (l1, n) f) ns).2 = (tsum wys L (tstep wys L (l2, n) f) ns).2
    unfold tstep
    rw [mis_agr ok a]
    exact tsum_agr ok ns (brgs_agr _ a h1 h2) (by rw [brgs_len]; exact h1) (by rw [brgs_len]; exact h2)
theorem rep_agr {far n m : Nat} (hn : far ≤ n) (hm : far ≤ m) : Agr far (List.replicate n none) (List.replicate m none) := fun c hc => by
  rw [List.getElem?_replicate, List.getElem?_replicate, if_pos (by omega), if_pos (by omega)]
theorem costT_any {wys : List (List Nat)} {L : List Lay} {far : Nat} (ok : HlOk wys L far) {n m : Nat} (hn : far ≤ n) (hm : far ≤ m) (ns : List Nat) : costT wys L n ns = costT wys L m ns :=
  tsum_agr ok ns (rep_agr hn hm) (by rw [List.length_replicate]; exact hn) (by rw [List.length_replicate]; exact hm)
/-- whether these are functions that there are -/
theorem sm20 (n : Nat) (h : n ≤ 20000) : n < sizeLine := Nat.lt_of_le_of_lt h (by decide)
def goodT (n : Nat) (ns : List Int) : Bool := !ns.isEmpty && ns.all fun z => decide (0 ≤ z ∧ z ≤ (n : Int) - 1)
def spCheckTrace (K : PySem.W.Frag) : Sp := fun vs H Q E => ∃ (pa b : Addr) (vp : List V) (ns : List Int), vs = [.ref pa, .ref b] ∧ H pa = some (.tup vp) ∧ vp.length ≤ 8 ∧ H b = some (.lst (ns.map V.int)) ∧ ns.length ≤ 20000 ∧ (goodT vp.length ns = true → ∀ H', Same H H' → Q .non H') ∧ (goodT vp.length ns = false → OutC K "BadTrace" H E)
def spCheckTraceG : Sp := fun vs H Q _ => ∃ (pa b : Addr) (vp : List V) (ns : List Int), vs = [.ref pa, .ref b] ∧ H pa = some (.tup vp) ∧ vp.length ≤ 8 ∧ H b = some (.lst (ns.map V.int)) ∧ ns.length ≤ 20000 ∧ goodT vp.length ns = true ∧ ∀ H', Same H H' → Q .non H'
theorem goodT_nat {n : Nat} {ns : List Nat} (h0 : ns ≠ []) (h : ∀ x ∈ ns, x < n) : goodT n (ns.map fun (x : Nat) => (x : Int)) = true := by
  unfold goodT
  rw [Bool.and_eq_true]
  refine ⟨?_, ?_⟩
  · cases ns with
    | nil => exact absurd rfl h0
    | cons a r => rfl
  · rw [List.all_map, List.all_eq_true]
    intro x hx
    have := h x hx
    show decide ((0 : Int) ≤ (x : Int) ∧ (x : Int) ≤ (n : Int) - 1) = true
    exact decide_eq_true (by omega)
theorem goodT_bad {n : Nat} {ns : List Int} {z : Int} (hz : z ∈ ns) (h : z < 0 ∨ (n : Int) ≤ z) : goodT n ns = false := by
  unfold goodT
  rw [Bool.and_eq_false_iff]
  right
  cases e : ns.all fun z => decide (0 ≤ z ∧ z ≤ (n : Int) - 1) with
  | false => rfl
  | true =>
    have := List.all_eq_true.mp e z hz
    have := of_decide_eq_true this
    omega
def spBroughtBy : Sp := fun vs H Q _ => ∃ v t pr ps st dn, ∃ (b : Addr) (ns : List Nat), vs = [v, t, .ref b] ∧ preT H v t pr ps st ∧ Dn pr.length ps st dn ∧ H b = some (.lst (nV ns)) ∧ (∀ x ∈ ns, x < pr.length) ∧ ∀ H' cs far, Same H H' → Cells pr ps dn cs → Far pr ps dn far → HlOk (waysF pr.length ps dn) (laysF pr cs ps) far.toNat → Q (.int (costT (waysF pr.length ps dn) (laysF pr cs ps) 64 ns : Nat)) H'
def spCost : Sp := fun vs H Q _ => ∃ v t pr ps st dn, ∃ (b : Addr) (ns : List Nat), vs = [v, t, .ref b] ∧ preT H v t pr ps st ∧ Dn pr.length ps st dn ∧ H b = some (.lst (nV ns)) ∧ ns ≠ [] ∧ ns.length ≤ 20000 ∧ (∀ x ∈ ns, x < pr.length) ∧ ∀ H' cs far, Same H H' → Cells pr ps dn cs → Far pr ps dn far → HlOk (waysF pr.length ps dn) (laysF pr cs ps) far.toNat → Q (.int (costT (waysF pr.length ps dn) (laysF pr cs ps) 64 ns : Nat)) H'
def spCostX (K : PySem.W.Frag) : Sp := fun vs H _ E => ∃ v t pr ps st, ∃ (b : Addr) (ns : List Int), vs = [v, t, .ref b] ∧ preT H v t pr ps st ∧ H b = some (.lst (ns.map V.int)) ∧ ns.length ≤ 20000 ∧ goodT pr.length ns = false ∧ OutC K "BadTrace" H E
def spCheapestX (K : PySem.W.Frag) : Sp := fun vs H _ E => ∃ v pr, ∃ (z : Int) (b : Addr) (ns : List Int), vs = [v, .int z, .ref b] ∧ PrAt H v pr ∧ PrOk pr ∧ H b = some (.lst (ns.map V.int)) ∧ ns.length ≤ 20000 ∧ Small9 z ∧ (5 < pr.length ∨ (z < 1 ∨ 64 < z) ∨ goodT pr.length ns = false) ∧
  (5 < pr.length → OutC K "TooMany" H E) ∧ (pr.length ≤ 5 → (z < 1 ∨ 64 < z) → OutC K "BadRoom" H E) ∧ (pr.length ≤ 5 → 1 ≤ z → z ≤ 64 → goodT pr.length ns = false → OutC K "BadTrace" H E)
theorem cutI (bs : List Int) (a b : Nat) (h : a ≤ b) : cutV (bs.map V.int) (some (a : Int)) (some (b : Int)) = ((bs.drop a).take (b - a)).map V.int := by
  unfold cutV
  rw [HT.sIx_nat, HT.sIx_nat, List.length_map, List.map_take, List.map_drop]
  by_cases h1 : a ≤ bs.length
  · rw [Nat.min_eq_left h1]
    by_cases h2 : b ≤ bs.length
    · rw [Nat.min_eq_left h2]
    · rw [Nat.min_eq_right (by omega), List.take_of_length_le (by rw [List.length_drop, List.length_map]; omega), List.take_of_length_le (by rw [List.length_drop, List.length_map]; omega)]
  · rw [Nat.min_eq_right (by omega), List.drop_of_length_le (by rw [List.length_map]; omega), List.drop_of_length_le (by rw [List.length_map]; omega), List.take_nil, List.take_nil]
section
open LamX
theorem gives_or {X : Cx} {Ng : List Str} {x : Str} {sg : Scope} {g : Addr} {cdg : Value} {bg : List Stmt} {a : Str} {q : Str} {TA TB : (XK → Hp → VK → Prop) → Hp → VK → Prop} (ha : GivesTo X Ng x sg g cdg bg a q TA) (hb : GivesTo X Ng x sg g cdg bg a q TB) : GivesTo X Ng x sg g cdg bg a q (fun tl H Q => TA tl H Q ∨ TB tl H Q) := fun f c' s H Q tl act hc h => by
  rcases h with h | h
  · exact ha f c' s H Q tl act hc h
  · exact hb f c' s H Q tl act hc h
end
end Ov
namespace Ov
open PySem PySem.Spec PyProof.Rows L2
/-- there is a farthest end -/
theorem far_ex {pr : List (Int × W)} (ok : PrOk pr) {ps : List (List Nat)} {st : List Int} {dn : Nat → List Nat} (ht : TrOk pr.length ps st) : ∃ m, Far pr ps dn m := by
  have h0 := ht.p.pos (by have := ok.l1; omega)
  have key : ∀ (n : Nat), n ≤ ps.length → 0 < n → ∃ m, (∃ i p, i < n ∧ ps[i]? = some p ∧ m = bgn pr ps dn i + psz pr p) ∧ ∀ i p, i < n → ps[i]? = some p → bgn pr ps dn i + psz pr p ≤ m := by
    intro n
    induction n with
    | zero => intro _ h; omega
    | succ n ih =>
      intro hn _
      obtain ⟨p, hp⟩ : ∃ p, ps[n]? = some p := ⟨_, List.getElem?_eq_getElem (by omega)⟩
      by_cases h : n = 0
      · subst h
        exact ⟨_, ⟨0, p, by omega, hp, rfl⟩, fun i q hi hq => by
          obtain rfl : i = 0 := by omega
          obtain rfl := Option.some.inj (hp.symm.trans hq)
          exact Int.le_refl _⟩
      · obtain ⟨m, ⟨i, q, hi, hq, e⟩, hm⟩ := ih (by omega) (by omega)
        by_cases c : bgn pr ps dn n + psz pr p ≤ m
        · refine ⟨m, ⟨i, q, by omega, hq, e⟩, fun j r hj hr => ?_⟩
          by_cases ej : j = n
          · subst ej
            obtain rfl := Option.some.inj (hp.symm.trans hr)
            exact c
          · exact hm j r (by omega) hr
        · refine ⟨_, ⟨n, p, by omega, hp, rfl⟩, fun j r hj hr => ?_⟩
          by_cases ej : j = n
          · subst ej
            obtain rfl := Option.some.inj (hp.symm.trans hr)
            exact Int.le_refl _
          · have := hm j r (by omega) hr
            omega
  obtain ⟨m, ⟨i, p, _, hp, e⟩, h⟩ := key ps.length (Nat.le_refl _) h0
  exact ⟨m, ⟨i, p, hp, e⟩, fun j q hq => h j q (List.getElem?_eq_some_iff.mp hq).1 hq⟩
end Ov
namespace Ov
open PySem PySem.Spec PyProof.Rows L2
/-- there are cells -/
theorem cells_ex {pr : List (Int × W)} {ps : List (List Nat)} (hp : PInv pr.length ps) {dn : Nat → List Nat} : ∃ cs, Cells pr ps dn cs := by
  have key : ∀ f, ∃ z : Int, f < pr.length → ∀ i p j, ps[i]? = some p → p[j]? = some f → z = bgn pr ps dn i + psz pr (p.take j) := fun f => by
    by_cases h : f < pr.length
    · obtain ⟨i, p, j, e1, e2⟩ := hp.stands h
      refine ⟨bgn pr ps dn i + psz pr (p.take j), fun _ i' p' j' d1 d2 => ?_⟩
      obtain ⟨rfl, rfl⟩ := hp.uniq e1 e2 d1 d2
      obtain rfl := Option.some.inj (e1.symm.trans d1)
      rfl
    · exact ⟨0, fun z => absurd z h⟩
  refine ⟨(List.range pr.length).map fun f => (key f).choose, by rw [List.length_map, List.length_range], fun i p j f d1 d2 => ?_⟩
  have hf := hp.lt (List.mem_of_getElem? d1) (List.mem_of_getElem? d2)
  rw [List.getElem?_map, List.getElem?_range hf]
  exact congrArg some ((key f).choose_spec hf i p j d1 d2)
end Ov
/-! ### a run in a room, all looked at: its object as data -/
namespace Ov
open PySem PySem.Spec PyProof.Rows L2
/-- the run's places, the hall's, the two empty dicts; what the hall is -/
structure PR extends PA where
  hx : HA
  da : Addr
  db : Addr
  wys : List (List Nat)
  L : List Lay
  n : Nat
  far : Nat
def roomFs (x : PR) (told : V) (calls others : Int) (looks : Nat) : List (Str × V) := [("bodies", .ref x.bo), ("told", told), ("said", .ref x.sa), ("row", .ref x.ro), ("calls", .int calls), ("others", .int others), ("hall", .ref x.hx.a), ("ahead", .ref x.da), ("back", .ref x.db), ("looks", .int (looks : Int))]
/-- what lies in the room when these functions were looked at in turn -/
def PR.sum (x : PR) (row : List Nat) : List (Option Cnt) × Nat := tsum x.wys x.L (List.replicate x.n none, 0) row
/-- as RunAt; row2: the functions that were looked at -/
structure RoomG (K : PySem.W.Frag) (H : Hp) (x : PR) (pr : List (Int × W)) (told : V) (s : RS) (others : Int) (row2 : List Nat) : Prop where
  ob : H x.a = some (.ins (He.ga K "RoomRun") x.dx (roomFs x told (s.calls : Int) others row2.length))
  bo : ∃ bs : List Addr, H x.bo = some (.lst (bs.map V.ref)) ∧ Paired (BodyAt H) bs pr ∧ ∀ b ∈ bs, b ≠ x.sa ∧ b ≠ x.ro ∧ b ≠ x.hx.ly
  sa : H x.sa = some (.lst (s.said.map V.int))
  ro : H x.ro = some (.lst (nV s.row))
  nd : (x.bo ≠ x.sa ∧ x.bo ≠ x.ro ∧ x.bo ≠ x.hx.ly) ∧ x.sa ≠ x.ro
  da : H x.da = some (.dK []) ∧ H x.db = some (.dK [])
  hl : ∃ Hx : Hp, HallIn K Hx H x.hx x.wys x.L (x.sum row2).1 ((x.sum row2).2 : Nat) x.far ∧ Hx x.a ≠ none ∧ Hx x.sa ≠ none ∧ Hx x.ro ≠ none
  wl : x.wys.length = pr.length
abbrev RoomAt (K : PySem.W.Frag) (H : Hp) (x : PR) (pr : List (Int × W)) (told : V) (s : RS) (others : Int) : Prop := RoomG K H x pr told s others s.row
/-- all but the run's and the hall's places stays -/
def ButM (x : PR) (H H' : Hp) : Prop := ∀ b o, b ≠ x.a → b ≠ x.sa → b ≠ x.ro → b ≠ x.hx.a → b ≠ x.hx.ly → H b = some o → H' b = some o
section
variable {K : PySem.W.Frag} {H H' H1 : Hp} {x : PR} {pr : List (Int × W)} {told told' : V} {s : RS} {oth oth' : Int} {row2 : List Nat}
theorem ButM.refl : ButM x H H := fun _ _ _ _ _ _ _ e => e
theorem ButM.trans (p : ButM x H H1) (q : ButM x H1 H') : ButM x H H' := fun b o n1 n2 n3 n4 n5 e => q b o n1 n2 n3 n4 n5 (p b o n1 n2 n3 n4 n5 e)
theorem ButM.same (e : Same H H') : ButM x H H' := fun b o _ _ _ _ _ h => e b o h
theorem ButM.hall (e : ButHl x.hx H H') : ButM x H H' := fun b o _ _ _ n4 n5 h => e b o n4 n5 h
theorem ButM.updn {D : Addr} {o : HO} (b : ButM x H H') (hD : H D = none) : ButM x H (upd H' D o) := fun c u n1 n2 n3 n4 n5 e => by
  rw [upd_ne (ne_of_none e hD)]
  exact b c u n1 n2 n3 n4 n5 e
theorem RoomG.lyl (h : RoomG K H x pr told s oth row2) : ∃ vs, H x.hx.ly = some (.lst vs) := by
  obtain ⟨Hx, i, _⟩ := h.hl
  obtain ⟨vs, e, _⟩ := i.at_.ly
  exact ⟨vs, e⟩
theorem RoomG.hob (h : RoomG K H x pr told s oth row2) : ∃ mv, H x.hx.a = some (.ins (He.ga K "Hall") x.hx.dx (hallFs x.hx mv)) := by
  obtain ⟨Hx, i, _⟩ := h.hl
  exact ⟨_, i.at_.ob⟩
/-- a fresh place is none of the changing ones -/
theorem RoomG.nown {D : Addr} (h : RoomG K H x pr told s oth row2) (hD : H D = none) : D ≠ x.a ∧ D ≠ x.sa ∧ D ≠ x.ro ∧ D ≠ x.hx.a ∧ D ≠ x.hx.ly := by
  obtain ⟨vs, e1⟩ := h.lyl
  obtain ⟨mv, e2⟩ := h.hob
  exact ⟨(ne_of_none h.ob hD).symm, (ne_of_none h.sa hD).symm, (ne_of_none h.ro hD).symm, (ne_of_none e2 hD).symm, (ne_of_none e1 hD).symm⟩
theorem RoomG.keep (h : RoomG K H x pr told s oth row2) (b : ButM x H H') : Keep H H' := fun a xs e => by
  obtain ⟨vs, e1⟩ := h.lyl
  obtain ⟨mv, e2⟩ := h.hob
  exact b a _ (ne_of e h.ob (by intro z; cases z)) (ne_of e h.sa (by intro z; cases z)) (ne_of e h.ro (by intro z; cases z)) (ne_of e e2 (by intro z; cases z)) (ne_of e e1 (by intro z; cases z)) e
theorem RoomG.same (h : RoomG K H x pr told s oth row2) (e : Same H H') : RoomG K H' x pr told s oth row2 := by
  obtain ⟨h1, ⟨bs, h2, h3, h4⟩, h5, h6, n, d, ⟨Hx, i, m⟩, l⟩ := h
  exact ⟨e _ _ h1, ⟨bs, e _ _ h2, L2.Paired.mapP h3 fun _ _ z => z.same e, h4⟩, e _ _ h5, e _ _ h6, n, ⟨e _ _ d.1, e _ _ d.2⟩, ⟨Hx, i.same e, m⟩, l⟩
/-- one of the run's own places is written -/
theorem HallIn.own {K : PySem.W.Frag} {Hx H : Hp} {x : HA} {wys : List (List Nat)} {L : List Lay} {lc : List (Option Cnt)} {mv : Int} {far : Nat} {p : Addr} {o : HO} (i : HallIn K Hx H x wys L lc mv far) (hp : Hx p ≠ none) (k : Keep H (upd H p o)) : HallIn K Hx (upd H p o) x wys L lc mv far :=
  i.keepN (fun b u n e _ => by
    rw [upd_ne (fun z => hp (by rw [← z]; exact n))]
    exact e) k
theorem Keep.updI {H : Hp} {a C dx : Addr} {fs : List (Str × V)} {o : HO} (e : H a = some (.ins C dx fs)) : Keep H (upd H a o) := fun b xs h => by
  rw [upd_ne (ne_of h e (by intro z; cases z))]
  exact h
/-- the object's numbers, what is told, how many looks there were -/
theorem RoomG.wr {c : Nat} {lk : Nat} {row3 : List Nat} (h : RoomG K H x pr told s oth row2) (hl : lk = row3.length) (hs : x.sum row3 = x.sum row2) : RoomG K (upd H x.a (.ins (He.ga K "RoomRun") x.dx (roomFs x told' (c : Int) oth' lk))) x pr told' { s with calls := c } oth' row3 ∧ ButM x H (upd H x.a (.ins (He.ga K "RoomRun") x.dx (roomFs x told' (c : Int) oth' lk))) := by
  subst hl
  obtain ⟨h1, ⟨bs, h2, h3, h4⟩, h5, h6, n, d, ⟨Hx, i, m1, m2, m3⟩, l⟩ := h
  have ne : ∀ {b : Addr} {l : List V}, H b = some (.lst l) → b ≠ x.a := fun e => ne_of e h1 (by intro z; cases z)
  have nk : ∀ {b : Addr} {l : List (Key × V)}, H b = some (.dK l) → b ≠ x.a := fun e => ne_of e h1 (by intro z; cases z)
  have kt := Keep.updI (o := .ins (He.ga K "RoomRun") x.dx (roomFs x told' (c : Int) oth' row3.length)) h1
  refine ⟨⟨upd_same, ⟨bs, by rw [upd_ne (ne h2)]; exact h2, L2.Paired.mapP h3 fun b f z => ?_, h4⟩, by rw [upd_ne (ne h5)]; exact h5, by rw [upd_ne (ne h6)]; exact h6, n, ⟨by rw [upd_ne (nk d.1)]; exact d.1, by rw [upd_ne (nk d.2)]; exact d.2⟩, ⟨Hx, ?_, m1, m2, m3⟩, l⟩, fun b o n1 _ _ _ _ e => by rw [upd_ne n1]; exact e⟩
  · obtain ⟨ys, z1, z2⟩ := z
    exact ⟨ys, by rw [upd_ne (ne z1)]; exact z1, L2.Paired.mapP z2 fun _ _ y => y.keep kt⟩
  · rw [hs]
    exact i.own m1 kt
theorem RoomG.wr0 {c : Nat} (h : RoomG K H x pr told s oth row2) : RoomG K (upd H x.a (.ins (He.ga K "RoomRun") x.dx (roomFs x told' (c : Int) oth' row2.length))) x pr told' { s with calls := c } oth' row2 ∧ ButM x H (upd H x.a (.ins (He.ga K "RoomRun") x.dx (roomFs x told' (c : Int) oth' row2.length))) := h.wr rfl rfl
theorem RoomG.updS {z : Int} (h : RoomG K H x pr told s oth row2) : RoomG K (upd H x.sa (.lst (s.said.map V.int ++ [.int z]))) x pr told { s with said := s.said ++ [z] } oth row2 ∧ ButM x H (upd H x.sa (.lst (s.said.map V.int ++ [.int z]))) := by
  have kt := Keep.updL (ys := s.said.map V.int ++ [.int z]) h.sa
  obtain ⟨h1, ⟨bs, h2, h3, h4⟩, h5, h6, ⟨⟨n1, n2, n3⟩, n4⟩, d, ⟨Hx, i, m1, m2, m3⟩, l⟩ := h
  have nk : ∀ {b : Addr} {l : List (Key × V)}, H b = some (.dK l) → b ≠ x.sa := fun e => ne_of e h5 (by intro z; cases z)
  exact ⟨⟨by rw [upd_ne (ne_of h1 h5 (by intro z; cases z))]; exact h1, ⟨bs, by rw [upd_ne n1]; exact h2, PairedMem.map h3 fun b f hb z => z.updL h5 (h4 b hb).1, h4⟩, by rw [upd_same, List.map_append]; rfl, by rw [upd_ne n4.symm]; exact h6, ⟨⟨n1, n2, n3⟩, n4⟩, ⟨by rw [upd_ne (nk d.1)]; exact d.1, by rw [upd_ne (nk d.2)]; exact d.2⟩, ⟨Hx, i.own m2 kt, m1, m2, m3⟩, l⟩, fun b o _ n _ _ _ e => by rw [upd_ne n]; exact e⟩
theorem RoomG.updR {f : Nat} (h : RoomG K H x pr told s oth row2) : RoomG K (upd H x.ro (.lst (nV s.row ++ [.int (f : Int)]))) x pr told { s with row := s.row ++ [f] } oth row2 ∧ ButM x H (upd H x.ro (.lst (nV s.row ++ [.int (f : Int)]))) := by
  have kt := Keep.updL (ys := nV s.row ++ [.int (f : Int)]) h.ro
  obtain ⟨h1, ⟨bs, h2, h3, h4⟩, h5, h6, ⟨⟨n1, n2, n3⟩, n4⟩, d, ⟨Hx, i, m1, m2, m3⟩, l⟩ := h
  have nk : ∀ {b : Addr} {l : List (Key × V)}, H b = some (.dK l) → b ≠ x.ro := fun e => ne_of e h6 (by intro z; cases z)
  exact ⟨⟨by rw [upd_ne (ne_of h1 h6 (by intro z; cases z))]; exact h1, ⟨bs, by rw [upd_ne n2]; exact h2, PairedMem.map h3 fun b f hb z => z.updL h6 (h4 b hb).2.1, h4⟩, by rw [upd_ne n4]; exact h5, by rw [upd_same, nV_app], ⟨⟨n1, n2, n3⟩, n4⟩, ⟨by rw [upd_ne (nk d.1)]; exact d.1, by rw [upd_ne (nk d.2)]; exact d.2⟩, ⟨Hx, i.own m3 kt, m1, m2, m3⟩, l⟩, fun b o _ _ n _ _ e => by rw [upd_ne n]; exact e⟩
/-- the hall looked: f too has been looked at -/
theorem RoomG.look {Hx : Hp} {f : Nat} {lc : List (Option Cnt)} {mv : Int} (h : RoomG K H x pr told s oth row2) (i : HallIn K Hx H x.hx x.wys x.L (x.sum row2).1 ((x.sum row2).2 : Nat) x.far) (m1 : Hx x.a ≠ none) (m2 : Hx x.sa ≠ none) (m3 : Hx x.ro ≠ none) (b : ButHl x.hx H H') (i2 : HallIn K Hx H' x.hx x.wys x.L lc mv x.far) (e1 : lc = (x.sum (row2 ++ [f])).1) (e2 : mv = ((x.sum (row2 ++ [f])).2 : Nat)) :
    RoomG K (upd H' x.a (.ins (He.ga K "RoomRun") x.dx (roomFs x told (s.calls : Int) oth (row2 ++ [f]).length))) x pr told s oth (row2 ++ [f]) ∧ H' x.a = some (.ins (He.ga K "RoomRun") x.dx (roomFs x told (s.calls : Int) oth row2.length)) := by
  have kH : Keep H H' := h.keep (ButM.hall b)
  obtain ⟨vs, ey⟩ := h.lyl
  obtain ⟨mv0, ea⟩ := h.hob
  obtain ⟨h1, ⟨bs, h2, h3, h4⟩, h5, h6, ⟨⟨n1, n2, n3⟩, n4⟩, d, _, l⟩ := h
  have na : x.a ≠ x.hx.a := fun z => m1 (by rw [z]; exact i.at_.fa)
  have nay : x.a ≠ x.hx.ly := fun z => m1 (by rw [z]; exact i.at_.fy)
  have ns : x.sa ≠ x.hx.a := fun z => m2 (by rw [z]; exact i.at_.fa)
  have nsy : x.sa ≠ x.hx.ly := fun z => m2 (by rw [z]; exact i.at_.fy)
  have nr : x.ro ≠ x.hx.a := fun z => m3 (by rw [z]; exact i.at_.fa)
  have nry : x.ro ≠ x.hx.ly := fun z => m3 (by rw [z]; exact i.at_.fy)
  have g1 := b _ _ na nay h1
  have g5 := b _ _ ns nsy h5
  have g6 := b _ _ nr nry h6
  have nl : ∀ {c : Addr} {l : List V}, H c = some (.lst l) → c ≠ x.hx.a := fun e => ne_of e ea (by intro z; cases z)
  have nd : ∀ {c : Addr} {l : List (Key × V)}, H c = some (.dK l) → c ≠ x.hx.a ∧ c ≠ x.hx.ly := fun e => ⟨ne_of e ea (by intro z; cases z), ne_of e ey (by intro z; cases z)⟩
  have g2 := b _ _ (nl h2) n3 h2
  have gd1 := b _ _ (nd d.1).1 (nd d.1).2 d.1
  have gd2 := b _ _ (nd d.2).1 (nd d.2).2 d.2
  have g3 : Paired (BodyAt H') bs pr := PairedMem.map h3 fun c f hc z => by
    obtain ⟨ys, z1, z2⟩ := z
    exact ⟨ys, b _ _ (nl z1) (h4 c hc).2.2 z1, L2.Paired.mapP z2 fun _ _ y => y.keep kH⟩
  have ne : ∀ {c : Addr} {l : List V}, H' c = some (.lst l) → c ≠ x.a := fun e => ne_of e g1 (by intro z; cases z)
  have nk : ∀ {c : Addr} {l : List (Key × V)}, H' c = some (.dK l) → c ≠ x.a := fun e => ne_of e g1 (by intro z; cases z)
  have kt := Keep.updI (o := .ins (He.ga K "RoomRun") x.dx (roomFs x told (s.calls : Int) oth (row2 ++ [f]).length)) g1
  rw [e1, e2] at i2
  refine ⟨⟨upd_same, ⟨bs, by rw [upd_ne (ne g2)]; exact g2, L2.Paired.mapP g3 fun b f z => ?_, h4⟩, by rw [upd_ne (ne g5)]; exact g5, by rw [upd_ne (ne g6)]; exact g6, ⟨⟨n1, n2, n3⟩, n4⟩, ⟨by rw [upd_ne (nk gd1)]; exact gd1, by rw [upd_ne (nk gd2)]; exact gd2⟩, ⟨Hx, i2.own m1 kt, m1, m2, m3⟩, l⟩, g1⟩
  obtain ⟨ys, z1, z2⟩ := z
  exact ⟨ys, by rw [upd_ne (ne z1)]; exact z1, L2.Paired.mapP z2 fun _ _ y => y.keep kt⟩
end
/-- as AnsP, of a run in a room -/
def AnsR (K : PySem.W.Frag) (x : PR) (pr : List (Int × W)) (told : V) (oth : Int) (H : Hp) (Q : VK) (E : XK) (r : Res) : Prop := match r with
  | .ok b s => ∀ H' y, ButM x H H' → RoomAt K H' x pr told s oth → PV H' y b → Q y H'
  | .bad f s => ∀ H' d oth', ButM x H H' → RoomAt K H' x pr told s oth' → H' d = some (.xd [("word", .str f.name)]) → E (.ref (He.ga K "Fault")) (some d) H'
theorem AnsR.but {K : PySem.W.Frag} {x : PR} {pr : List (Int × W)} {told : V} {oth : Int} {H H1 : Hp} {Q : VK} {E : XK} (b : ButM x H H1) : ∀ {r : Res}, AnsR K x pr told oth H Q E r → AnsR K x pr told oth H1 Q E r
  | .ok _ _, h => fun H' y b' => h H' y (b.trans b')
  | .bad _ _, h => fun H' d oth' b' => h H' d oth' (b.trans b')
theorem AnsR.out {K : PySem.W.Frag} {x : PR} {pr : List (Int × W)} {told : V} {oth oth' : Int} {H H1 : Hp} {Q : VK} {E : XK} {f : Flt} {s : RS} (h : AnsR K x pr told oth H Q E (.bad f s)) (b : ButM x H H1) (r : RoomAt K H1 x pr told s oth') : Out K H1 E f.name := fun H' d s' _ e => h H' d oth' (b.trans (ButM.same s')) (r.same s') e
theorem roomFs_calls {x : PR} {told : V} {c d : Int} {oth : Int} {lk : Nat} : putF "calls" (.int d) (roomFs x told c oth lk) = roomFs x told d oth lk := by rfl
theorem roomFs_others {x : PR} {told : V} {c : Int} {o1 o2 : Int} {lk : Nat} : putF "others" (.int o2) (roomFs x told c o1 lk) = roomFs x told c o2 lk := by rfl
theorem roomFs_told {x : PR} {t1 t2 : V} {c : Int} {o : Int} {lk : Nat} : putF "told" t2 (roomFs x t1 c o lk) = roomFs x t2 c o lk := by rfl
theorem roomFs_looks {x : PR} {t : V} {c : Int} {o : Int} {l1 l2 : Nat} : putF "looks" (.int (l2 : Int)) (roomFs x t c o l1) = roomFs x t c o l2 := by rfl
def spSayR (K : PySem.W.Frag) : Sp := fun vs H Q E => ∃ (x : PR) (pr : List (Int × W)) (told v : V) (s : RS) (oth : Int) (a : Wt), vs = [.ref x.a, v] ∧ RoomAt K H x pr told s oth ∧ PV H v a ∧ s.said.length ≤ most ∧ match a with
  | .num z => ∀ H', ButM x H H' → RoomAt K H' x pr told { s with said := s.said ++ [z] } oth → Q v H'
  | .way _ => Out K H E "kind"
/-- Run.enter and Run.come_back of a run in a room: the row alone -/
def spEnter0 (K : PySem.W.Frag) : Sp := fun vs H Q _ => ∃ (x : PR) (pr : List (Int × W)) (told v : V) (s : RS) (oth : Int) (f : Nat), vs = [.ref x.a, v, .int (f : Int)] ∧ RoomAt K H x pr told s oth ∧ s.row.length ≤ most ∧ ∀ H', ButM x H H' → RoomG K H' x pr told { s with row := s.row ++ [f] } oth s.row → Q .non H'
def spBack0 (K : PySem.W.Frag) : Sp := fun vs H Q _ => ∃ (x : PR) (pr : List (Int × W)) (told : V) (s : RS) (oth : Int) (p : Addr) (f w : Nat), vs = [.ref x.a, .ref p] ∧ H p = some (.tup [.int (f : Int), .int (w : Int)]) ∧ RoomAt K H x pr told s oth ∧ s.row.length ≤ most ∧ ∀ H', ButM x H H' → RoomG K H' x pr told { s with row := s.row ++ [f] } oth s.row → Q .non H'
/-- go_on: one look more -/
def spGoOn (K : PySem.W.Frag) : Sp := fun vs H Q _ => ∃ (x : PR) (pr : List (Int × W)) (told : V) (s : RS) (oth : Int) (row2 : List Nat) (f : Nat), vs = [.ref x.a, .int (f : Int), .bl false] ∧ RoomG K H x pr told s oth row2 ∧ f < pr.length ∧ ∀ H', ButM x H H' → RoomG K H' x pr told s oth (row2 ++ [f]) → Q .non H'
/-- by a place, or by none -/
def PlAt (H : Hp) (v : V) : Prop := v = .non ∨ ∃ (p : Addr) (f w : Nat), v = .ref p ∧ H p = some (.tup [.int (f : Int), .int (w : Int)])
theorem PlAt.keep {H H' : Hp} {v : V} (h : PlAt H v) (k : Keep H H') : PlAt H' v := by
  rcases h with e | ⟨p, f, w, e, hp⟩
  · exact .inl e
  · exact .inr ⟨p, f, w, e, k _ _ hp⟩
def spEnterR (K : PySem.W.Frag) : Sp := fun vs H Q _ => ∃ (x : PR) (pr : List (Int × W)) (told v : V) (s : RS) (oth : Int) (f : Nat), vs = [.ref x.a, v, .int (f : Int)] ∧ RoomAt K H x pr told s oth ∧ PlAt H v ∧ f < pr.length ∧ s.row.length ≤ most ∧ ∀ H', ButM x H H' → RoomAt K H' x pr told { s with row := s.row ++ [f] } oth → Q .non H'
def spBackR (K : PySem.W.Frag) : Sp := fun vs H Q _ => ∃ (x : PR) (pr : List (Int × W)) (told : V) (s : RS) (oth : Int) (p : Addr) (f w : Nat), vs = [.ref x.a, .ref p] ∧ H p = some (.tup [.int (f : Int), .int (w : Int)]) ∧ RoomAt K H x pr told s oth ∧ f < pr.length ∧ s.row.length ≤ most ∧ ∀ H', ButM x H H' → RoomAt K H' x pr told { s with row := s.row ++ [f] } oth → Q .non H'
def spCallR (K : PySem.W.Frag) (pr : List (Int × W)) (n : Nat) : Sp := fun vs H Q E => ∃ (x : PR) (told v : V) (s : RS) (oth : Int) (p : Addr) (c wi f : Nat) (a : Wt), vs = [.ref x.a, .ref p, .int (f : Int), v] ∧ H p = some (.tup [.int (c : Int), .int (wi : Int)]) ∧ RoomAt K H x pr told s oth ∧ PrOk pr ∧ c < pr.length ∧ f < pr.length ∧ PV H v a ∧ WtOk pr.length a ∧ s.phi ≤ most ∧ oth + (n : Int) = 12 ∧ AnsR K x pr told oth H Q E (evC pr n c f a s)
def spWorthR (K : PySem.W.Frag) (pr : List (Int × W)) (n d : Nat) : Sp := fun vs H Q E => ∃ (x : PR) (told v : V) (s : RS) (oth : Int) (f wi : Nat) (p : Int × W) (u : W) (a : Wt), vs = [.ref x.a, .int (f : Int), .int (wi : Int), v] ∧ RoomAt K H x pr told s oth ∧ PrOk pr ∧ pr[f]? = some p ∧ SubAt (p.2.rows 0) wi u ∧ WOk pr.length d u ∧ PV H v a ∧ WtOk pr.length a ∧ s.phi + u.size ≤ most ∧ oth + (n : Int) = 12 ∧ AnsR K x pr told oth H Q E (evB (evC pr n f) a d u s)
def spBeginR (K : PySem.W.Frag) : Sp := fun vs H Q _ => ∃ (x : PR) (pr : List (Int × W)) (z : Int), vs = [.ref x.a, .int z] ∧ RoomAt K H x pr .non ⟨[], 0, [], [], []⟩ 0 ∧ PrOk pr ∧ 0 ≤ z ∧ z < 1000 ∧
  ∀ H' t oth, ButM x H H' → RoomAt K H' x pr (.ref t) (evR pr z).st oth → H' t = some (.tup [.str (endD (evR pr z)).1, (endD (evR pr z)).2]) → Q .non H'
end Ov
/-! ### a run in a room: fresh places; a place among none; the hall looks -/
namespace Ov
open PySem PySem.Spec PyProof.Rows L2
theorem HallIn.markM {K : PySem.W.Frag} {H0 H Hx0 Hx : Hp} {x : HA} {wys : List (List Nat)} {L : List Lay} {lc lc' : List (Option Cnt)} {mv mv' : Int} {far : Nat} {r : Addr} {o : HO} (i0 : HallIn K Hx0 H0 x wys L lc mv far) (i : HallIn K Hx H x wys L lc' mv' far) (b : ∀ c u, c = x.wy ∨ c = x.lo → H0 c = some u → H c = some u) (hr : H0 r = none) (n1 : x.a ≠ r) (n2 : x.ly ≠ r) : HallIn K (upd Hx r o) H x wys L lc' mv' far := by
  obtain ⟨⟨g1, ⟨ws0, g2, g3⟩, ⟨ls0, g4, g5⟩, _, _, _, _, _⟩, _, _⟩ := i0
  obtain ⟨⟨h1, ⟨ws, h2, h3⟩, ⟨ls, h4, h5⟩, h6, f1, f2, f3, f4⟩, k1, k2⟩ := i
  have e1 := HO.lst.inj (Option.some.inj ((b _ _ (.inl rfl) g2).symm.trans h2))
  have e2 := HO.lst.inj (Option.some.inj ((b _ _ (.inr rfl) g4).symm.trans h4))
  obtain rfl : ws0 = ws := (List.map_inj_right (fun a b e => V.ref.inj e)).mp e1
  obtain rfl : ls0 = ls := (List.map_inj_right (fun a b e => V.ref.inj e)).mp e2
  have keep : ∀ {c : Addr}, c ≠ r → Hx c = none → (upd Hx r o) c = none := fun n e => by
    rw [upd_ne n]
    exact e
  refine ⟨⟨h1, ⟨ws0, h2, PairedMem.map h3 fun c w hc z => ⟨z.1, keep ?_ z.2.1, z.2.2⟩⟩, ⟨ls0, h4, PairedMem.map h5 fun c l hc z => ⟨z.1, keep ?_ z.2.1, z.2.2⟩⟩, h6, keep n1 f1, ⟨keep (ne_of_none g2 hr) f2.1, f2.2⟩, ⟨keep (ne_of_none g4 hr) f3.1, f3.2⟩, keep n2 f4⟩, k1, k2⟩
  · obtain ⟨w', z', _⟩ := PairedMem.left g3 c hc
    exact ne_of_none z' hr
  · obtain ⟨w', ⟨us, z', _⟩, _⟩ := PairedMem.left g5 c hc
    exact ne_of_none z' hr
theorem RoomG.fresh {K : PySem.W.Frag} {H0 H : Hp} {x : PR} {pr : List (Int × W)} {told told0 : V} {s s0 : RS} {oth oth0 : Int} {r2 r20 : List Nat} {D : Addr} {us us' : List V} (h0 : RoomG K H0 x pr told0 s0 oth0 r20) (hD : H0 D = none) (b : ButM x H0 H) (h : RoomG K H x pr told s oth r2) (e : H D = some (.lst us)) : RoomG K (upd H D (.lst us')) x pr told s oth r2 := by
  have kt := Keep.updL (ys := us') e
  obtain ⟨n1, n2, n3, n4, n5⟩ := h0.nown hD
  obtain ⟨bs0, g2, g3, g4⟩ := h0.bo
  obtain ⟨mv0, gh⟩ := h0.hob
  obtain ⟨Hx0, i0, q1, q2, q3⟩ := h0.hl
  obtain ⟨h1, ⟨bs, h2, h3, h4⟩, h5, h6, nn, d, ⟨Hx, i, m1, m2, m3⟩, l⟩ := h
  have nba : x.bo ≠ x.a := ne_of g2 h0.ob (by intro z; cases z)
  have nbh : x.bo ≠ x.hx.a := ne_of g2 gh (by intro z; cases z)
  have e2 := b _ _ nba nn.1.1 nn.1.2.1 nbh nn.1.2.2 g2
  obtain rfl : bs0 = bs := (List.map_inj_right (fun a b e => V.ref.inj e)).mp (HO.lst.inj (Option.some.inj (e2.symm.trans h2)))
  have nk : ∀ {c : Addr} {l : List (Key × V)}, H c = some (.dK l) → c ≠ D := fun z => ne_of z e (by intro y; cases y)
  have hbw : ∀ c u, c = x.hx.wy ∨ c = x.hx.lo → H0 c = some u → H c = some u := by
    obtain ⟨ws0, w2, _⟩ := i0.at_.wy
    obtain ⟨ls0, w4, _⟩ := i0.at_.lo
    intro c u hc hu
    have hxn : Hx0 c = none := by
      rcases hc with rfl | rfl
      · exact i0.at_.fw.1
      · exact i0.at_.fl.1
    have nly : c ≠ x.hx.ly := by
      rcases hc with rfl | rfl
      · exact i0.at_.fw.2
      · exact i0.at_.fl.2
    have nha : c ≠ x.hx.a := by
      rcases hc with rfl | rfl
      · exact ne_of w2 gh (by intro z; cases z)
      · exact ne_of w4 gh (by intro z; cases z)
    exact b c u (fun z => q1 (by rw [← z]; exact hxn)) (fun z => q2 (by rw [← z]; exact hxn)) (fun z => q3 (by rw [← z]; exact hxn)) nha nly hu
  have im := HallIn.markM (o := .tup []) i0 i hbw hD n4.symm n5.symm
  have up : ∀ {p : Addr}, Hx p ≠ none → (upd Hx D (.tup [])) p ≠ none := fun {p} z => by
    by_cases c : p = D
    · rw [c, upd_same]
      exact fun y => nomatch y
    · rw [upd_ne c]
      exact z
  refine ⟨by rw [upd_ne n1.symm]; exact h1, ⟨bs0, by rw [upd_ne (ne_of_none g2 hD)]; exact h2, PairedMem.map h3 fun c f hc z => ?_, h4⟩, by rw [upd_ne n2.symm]; exact h5, by rw [upd_ne n3.symm]; exact h6, nn, ⟨by rw [upd_ne (nk d.1)]; exact d.1, by rw [upd_ne (nk d.2)]; exact d.2⟩, ⟨_, im.own (by rw [upd_same]; exact fun y => nomatch y) kt, up m1, up m2, up m3⟩, l⟩
  obtain ⟨f0, ys0, z0, _⟩ := PairedMem.left g3 c hc
  obtain ⟨ys, z1, z2⟩ := z
  exact ⟨ys, by rw [upd_ne (ne_of_none z0 hD)]; exact z1, L2.Paired.mapP z2 fun _ _ y => y.keep kt⟩
/-! ### a place among the keys of an empty dict -/
section
variable {X : Cx} {pins : List (Addr × Obj)} {σ : L2.St} {H : Hp} {s : Shared} {a : Addr} {A : Around} {E : Value → Shared → Prop}
theorem in_empty {Q : Value → Shared → Prop} {v : V} {u : Value} (hu : A.units + 1 < cLine) (I : Inv X pins σ H s) (e : H a = some (.dK [])) (hv : PlAt H v) (r : L2.RelV v u) (h : ∀ s', Inv X pins σ H s' → Q (.bool false) s') : wpAny (model X.prog X.w) A (compareOp .In u (.ref a)) Q E s := by
  rcases hv with rfl | ⟨p, f, g, rfl, hp⟩
  · obtain rfl : u = Value.none := r
    exact d_inNone I (.inl e) h
  · obtain rfl : u = Value.ref p := r
    obtain ⟨_, hd, vs, kv, o, es, ep, h1, h2, h3, _, h5, _⟩ := dk_of I.hok e
    have ev : vs = [] := by
      cases kv
      rfl
    subst ev
    have ee : es.toList = [] := by
      cases hl : es.toList with
      | nil => rfl
      | cons a l =>
        rw [hl] at h5
        cases h5
    have D : s.heap.DictOfH (tupleKind (mixKind X.prog X.w)) a [] := ⟨o, es, ep, h1, h2, h3, ee, (fun _ z => nomatch z), List.nodup_nil⟩
    exact wpAny_in_heap (tupleKind_room_in1 hu) (key_of (ks := [.inl (f : Int), .inl (g : Int)]) I.hok hp) hd D (h _ (I.tok _))
end
/-- y in d, y a place or None, d empty -/
def tInE (ty td : TE) : TE := fun σ H Q => ty σ H fun y H1 => td σ H1 fun x H2 => ∃ a, x = .ref a ∧ H2 a = some (.dK []) ∧ PlAt H2 y ∧ Q (.bl false) H2
theorem pc_inE {X : Cx} {i o : Expr} {ty td : TE} (hu : X.A.units + 1 < cLine) (hi : PE X i ty) (ho : PE X o td) : PC X .In i o (tInE ty td) := by
  constructor
  intro pins s σ H Q I h
  refine thn (hi.run pins s σ H _ I h) fun iv s1 z1 => ?_
  obtain ⟨y, H1, I1, ry, q1⟩ := z1
  refine thn (ho.run pins s1 σ H1 _ I1 q1) fun u s2 z2 => ?_
  obtain ⟨x, H2, I2, rx, a, ex, ea, hy, q2⟩ := z2
  subst ex
  obtain rfl : u = Value.ref a := rx
  exact in_empty hu I2 ea hy ry fun s3 I3 => ⟨.bl false, H2, I3, rfl, q2⟩
theorem SupD.binds {P : Program} {K : PySem.W.Frag} {name qual : Str} {params : Arguments} {body : List Stmt} {scope : Scope} {f cc cda D : Addr} {fd : FuncData} {ps : List Str} (S : SupD P K name qual params body scope f cc cda D fd)
    (h : ∀ (doc pm : Value) (an : Option Addr) (ct : Value) (cl : List (Str × Addr)) (us : List Value), us.length = ps.length → bindArgs (PySem.W.fnX name qual params body scope [("__class__", cc)] .none .none doc pm an (.ref cda) ct) ⟨us, []⟩ = pure (ps.zip us)) : Binds K fd ps [] := by
  obtain ⟨oc, od, doc, pm, an, ct, osl, rfl, _⟩ := S.ex
  exact Binds.all fun us hl => h doc pm an ct [] us hl
/-! ### a run in a room is made -/
/-- as RunAt, of an object of the class RoomRun that bears Run's fields alone; H0: ahead of it -/
structure RunB (K : PySem.W.Frag) (H0 H : Hp) (x : PA) (pr : List (Int × W)) (told : V) (s : RS) (others : Int) : Prop where
  ob : H x.a = some (.ins (He.ga K "RoomRun") x.dx (runFs x told (s.calls : Int) others))
  bo : ∃ bs : List Addr, H x.bo = some (.lst (bs.map V.ref)) ∧ Paired (BodyAt H) bs pr ∧ ∀ b ∈ bs, b ≠ x.sa ∧ b ≠ x.ro ∧ H0 b = none
  sa : H x.sa = some (.lst (s.said.map V.int))
  ro : H x.ro = some (.lst (nV s.row))
  nd : x.bo ≠ x.sa ∧ x.bo ≠ x.ro ∧ x.sa ≠ x.ro
def spRunInitB (K : PySem.W.Frag) : Sp := fun vs H Q _ => ∃ (a dx : Addr) (v : V) (pr : List (Int × W)), vs = [.ref a, v] ∧ H a = some (.ins (He.ga K "RoomRun") dx []) ∧ PrAt H v pr ∧ PrOk pr ∧
  ∀ H' x, (∀ b o, b ≠ a → H b = some o → H' b = some o) → x.a = a → x.dx = dx → H x.sa = none → H x.ro = none → H x.bo = none → RunB K H H' x pr .non ⟨[], 0, [], [], []⟩ 0 → Q .non H'
/-- RoomRun(program, hall, [], []) -/
def spRoomInit (K : PySem.W.Frag) : Sp := fun vs H Q _ => ∃ (Hx : Hp) (a dx : Addr) (v : V) (pr : List (Int × W)) (hx : HA) (la lb : Addr) (wys : List (List Nat)) (L : List Lay) (n far : Nat), vs = [.ref a, v, .ref hx.a, .ref la, .ref lb] ∧ H a = some (.ins (He.ga K "RoomRun") dx []) ∧ H la = some (.lst []) ∧ H lb = some (.lst []) ∧ PrAt H v pr ∧ PrOk pr ∧
  HallIn K Hx H hx wys L (List.replicate n none) 0 far ∧ Hx a ≠ none ∧ wys.length = pr.length ∧
  ∀ H' x, (∀ b o, b ≠ a → H b = some o → H' b = some o) → x.a = a → x.hx = hx → x.wys = wys → x.L = L → x.n = n → x.far = far → H x.sa = none → H x.ro = none → RoomAt K H' x pr .non ⟨[], 0, [], [], []⟩ 0 → Q .non H'
theorem roomFs_new {x : PR} {c o : Int} {t : V} : putF "looks" (.int 0) (putF "back" (.ref x.db) (putF "ahead" (.ref x.da) (putF "hall" (.ref x.hx.a) (runFs x.toPA t c o)))) = roomFs x t c o 0 := by
  unfold runFs roomFs
  rw [putF_new (f := "hall") (by show (["bodies", "told", "said", "row", "calls", "others"] : List Str).contains "hall" = false; decide +kernel)]
  rw [putF_new (f := "ahead") (by show (["bodies", "told", "said", "row", "calls", "others", "hall"] : List Str).contains "ahead" = false; decide +kernel)]
  rw [putF_new (f := "back") (by show (["bodies", "told", "said", "row", "calls", "others", "hall", "ahead"] : List Str).contains "back" = false; decide +kernel)]
  rw [putF_new (f := "looks") (by show (["bodies", "told", "said", "row", "calls", "others", "hall", "ahead", "back"] : List Str).contains "looks" = false; decide +kernel)]
  rfl
/-! ### a run in a room, from its beginning -/
def spPlaces0 : Sp := fun vs H Q _ => ∃ (v : V) (pr : List (Int × W)) (la : Addr), vs = [v, .ref la] ∧ PrAt H v pr ∧ PrOk pr ∧ H la = some (.lst []) ∧ ∀ H', Same H H' → Q .non H'
def spRoomRun (K : PySem.W.Frag) : Sp := fun vs H Q _ => ∃ (v t : V) (pr : List (Int × W)) (ps : List (List Nat)) (st : List Int) (dn : Nat → List Nat) (far : Int) (room : Nat) (la lb : Addr) (z : Int), vs = [v, t, .int (room : Int), .ref la, .ref lb, .int z] ∧ preT H v t pr ps st ∧ Dn pr.length ps st dn ∧ Far pr ps dn far ∧ far ≤ (room : Int) ∧ room ≤ 64 ∧ H la = some (.lst []) ∧ H lb = some (.lst []) ∧ 0 ≤ z ∧ z < 1000 ∧
  ∀ H' (x : PR) tt oth cs, Same H H' → H x.sa = none → RoomAt K H' x pr (.ref tt) (evR pr z).st oth → H' tt = some (.tup [.str (endD (evR pr z)).1, (endD (evR pr z)).2]) → Cells pr ps dn cs → x.wys = waysF pr.length ps dn → x.L = laysF pr cs ps → x.n = room → x.far = far.toNat → HlOk x.wys x.L x.far → Q (.ref x.a) H'
/-- what a run brings in -/
def inR (pr : List (Int × W)) (ps : List (List Nat)) (dn : Nat → List Nat) (cs : List Int) (room : Nat) (z : Int) : Nat := costT (waysF pr.length ps dn) (laysF pr cs ps) room (evR pr z).st.row
def spRunIn : Sp := fun vs H Q _ => ∃ (v t : V) (pr : List (Int × W)) (ps : List (List Nat)) (st : List Int) (dn : Nat → List Nat) (far : Int) (room : Nat) (z : Int), vs = [v, t, .int (room : Int), .int z] ∧ preT H v t pr ps st ∧ Dn pr.length ps st dn ∧ Far pr ps dn far ∧ far ≤ (room : Int) ∧ room ≤ 64 ∧ 0 ≤ z ∧ z < 1000 ∧
  ∀ H' r tt sa cs, Same H H' → H sa = none → H' r = some (.tup [.ref tt, .ref sa, .int (inR pr ps dn cs room z : Nat)]) → H' tt = some (.tup [.str (endD (evR pr z)).1, (endD (evR pr z)).2]) → H' sa = some (.lst ((evR pr z).st.said.map V.int)) → Cells pr ps dn cs → HlOk (waysF pr.length ps dn) (laysF pr cs ps) far.toNat → Q (.ref r) H'
/-- refused: a room that is none or too small; a number that is none -/
def spRoomRunX (K : PySem.W.Frag) : Sp := fun vs H _ E => ∃ (v t : V) (pr : List (Int × W)) (ps : List (List Nat)) (st : List Int) (dn : Nat → List Nat) (far r z : Int) (la lb : Addr), vs = [v, t, .int r, .ref la, .ref lb, .int z] ∧ preT H v t pr ps st ∧ Dn pr.length ps st dn ∧ Far pr ps dn far ∧ H la = some (.lst []) ∧ H lb = some (.lst []) ∧
  (((r < far ∨ 64 < r) ∧ Small9 r ∧ OutC K "BadRoom" H E) ∨ (far ≤ r ∧ r ≤ 64 ∧ NoNum z ∧ OutN K H E))
def spRunInX (K : PySem.W.Frag) : Sp := fun vs H _ E => ∃ (v t : V) (pr : List (Int × W)) (ps : List (List Nat)) (st : List Int) (dn : Nat → List Nat) (far r z : Int), vs = [v, t, .int r, .int z] ∧ preT H v t pr ps st ∧ Dn pr.length ps st dn ∧ Far pr ps dn far ∧
  (((r < far ∨ 64 < r) ∧ Small9 r ∧ OutC K "BadRoom" H E) ∨ (far ≤ r ∧ r ≤ 64 ∧ NoNum z ∧ OutN K H E))
end Ov
/-! ### a tuple times an int, one too (then it is the tuple itself) -/
namespace Ov
open PySem PySem.Spec PyProof.Rows L2
theorem tuple_mul1 (l : Addr) (items : Array Value) (n : Nat) (dd : Option Addr) (sl : Array (Option Value)) (u : Tok) :
    Meets (Builtin.«tuple.__mul__» ⟨[.ref l, .int 1 u], []⟩) (fun _ R s => s.heap.get? l = some { cls := .type "tuple", dict := dd, data := .seq items n, slots := sl } ∧
      R (.ok (.ret (Value.ref l))) s) :=
  .of_wp fun prog w A R s h => by
    obtain ⟨hp, g, d, tk, os⟩ := s
    obtain ⟨hl, h⟩ := h
    have f1 := AutoSeq1.idx_int
    have c1 : (items.isEmpty || (1 : Int) == 1) = true := by rw [Bool.or_eq_true]; exact .inr rfl
    wp_walk using wpAny_loadPart' hl
    repeat (first
      | (refine wpAny_ite_false (decide_eq_false (by decide)) ?_; wp_walk using wpAny_loadPart' hl)
      | (refine wpAny_ite_true (decide_eq_true (by rw [c1])) ?_; wp_walk using wpAny_loadPart' hl))
    exact ⟨_, rfl, h⟩
def rRepTA (K : PySem.W.Frag) : R2 := fun x y H Q => L2.rRepT K x y H Q ∨ ∃ l xs, x = .ref l ∧ y = .int 1 ∧ SqT K H l xs ∧ Q (.ref l) H
theorem op_repTA {X : Cx} : OpR X (binaryOp .Mult) (rRepTA X.K) := by
  intro pins s σ H x y v u Q I rx ry h
  rcases h with h | ⟨l, xs, rfl, rfl, hT, q⟩
  · exact op_repT pins s σ H x y v u Q I rx ry h
  cases rx
  obtain ⟨t, rfl⟩ := ry
  obtain ⟨its, r, ⟨⟨cls, dd, data, sl⟩, ho, hc, n, hd⟩, hs⟩ := I.tuple hT
  simp only at hc hd
  subst hc hd
  refine wpAny_binaryOp_repeat_ref (T := "tuple") (U := "int") (by decide) ⟨_, ho, rfl⟩ (fun s' => typeIs_int s' 1 t) noFill_tuple_mul F.fills_int_mul F.slot_int_rmul repeat_tuple F.slot_int_index.lookup
    (call_meets F.slot_int_rmul (typeIs_int s 1 t) F.entry_int_rmul (F.args_int_rmul_2 _ _) (int_rmul_tuple 1 t l its.toArray n dd sl)
      ⟨ho, rfl, ⟨_, ho, rfl⟩, call_meets F.slot_tuple_mul ⟨_, ho, rfl⟩ F.entry_tuple_mul (F.args_tuple_mul_2 _ _) (tuple_mul1 l its.toArray n dd sl t) ⟨ho, ?_⟩⟩)
  exact ⟨.ref l, H, I, rfl, q⟩
theorem repTA_by {K : PySem.W.Frag} {m1 : Addr} {n : Nat} {H : Hp} {Q : VK} (e : SqT K H m1 [.int (-1)]) (h1 : 1 ≤ n) (h : n ≤ 1000) (q : ∀ H' p, Same H H' → H' p = some (.tup ((List.replicate n (-1 : Int)).map V.int)) → Q (.ref p) H') (he : H m1 = some (.tup [.int (-1)])) : rRepTA K (.ref m1) (.int (n : Int)) H Q := by
  by_cases c : n = 1
  · subst c
    exact .inr ⟨m1, _, rfl, rfl, e, q H m1 (fun _ _ z => z) he⟩
  · refine .inl ⟨m1, (n : Int), _, rfl, rfl, e, (fun z => nomatch z), by omega, by omega, (by decide), fun p hp => q _ p (fun b o z => by rw [upd_ne (fun y => by rw [y, hp] at z; cases z)]; exact z) ?_⟩
    rw [upd_same, Int.toNat_natCast, List.flatten_replicate_singleton, List.map_replicate]
end Ov
/-! ### runs of words of the law's own (k18): reckoned by calls alone -/
namespace Ov
open PySem PySem.Spec PyProof.Rows L2
inductive FR where
  | ok (v : Wt) (left : Nat) | bad (f : Flt) (left : Nat)
def FR.bind (r : FR) (k : Wt → Nat → FR) : FR := match r with
  | .ok v c => k v c
  | .bad f c => .bad f c
def evFA (ev : W → Nat → FR) : List W → List Wt → Nat → (List Wt → Nat → FR) → FR
  | [], acc, c, k => k acc c
  | w :: ws, acc, c, k => (ev w c).bind fun v c => evFA ev ws (acc ++ [v]) c k
def finF (call : Nat → Wt → Nat → FR) (o : Op) (g : Int) (vs : List Wt) (c : Nat) : FR := match o, vs with
  | .thn, [_, v] => .ok v c
  | .call, [v] => call g.toNat v c
  | .through, [.way f, u] => call f u c
  | .plus, [.num x, .num y] => .ok (.num ((x + y) % 1000)) c
  | .less, [.num x, .num y] => .ok (.num ((x - y) % 1000)) c
  | .times, [.num x, .num y] => .ok (.num ((x * y) % 1000)) c
  | _, _ => .bad .kind c
def evFB (call : Nat → Wt → Nat → FR) (a : Wt) : Nat → W → Nat → FR
  | 0, _, c => .bad .kind c
  | d + 1, .mk o g as, c => match o with
    | .num => .ok (.num g) c
    | .way => .ok (.way g.toNat) c
    | .arg => .ok a c
    | .ife => match as with
      | [t, x, y] => (evFB call a d t c).bind fun v c => match v with
        | .way _ => .bad .kind c
        | .num z => if z ≠ 0 then evFB call a d x c else evFB call a d y c
      | _ => .bad .kind c
    | o => evFA (evFB call a d) as [] c (finF call o g)
def evFC (pr : List (Int × W)) : Nat → Nat → Wt → Nat → FR
  | 0, _, _, c => .bad .deep c
  | n + 1, f, a, c => match c with
    | 0 => .bad .long 0
    | c + 1 => match pr[f]? with
      | none => .bad .kind c
      | some p => evFB (evFC pr n) a 7 p.2 c
def FR.code : FR → Nat × Int
  | .ok (.num z) _ => (0, z)
  | .ok (.way f) _ => (1, (f : Int))
  | .bad .kind _ => (2, 0)
  | .bad .deep _ => (2, 1)
  | .bad .long _ => (2, 2)
def evFD (pr : List (Int × W)) (z : Int) : Nat × Int := match pr[0]? with
  | none => (2, 0)
  | some p => (evFB (evFC pr 12) (.num z) 7 p.2 200).code
/-- no word says anything, at most d within one another -/
def quiet : Nat → W → Bool
  | 0, _ => true
  | d + 1, .mk o _ as => o != .say && as.all (quiet d)
def Rl : Res → FR → Prop
  | .ok v s, .ok v' c => v = v' ∧ s.calls + c = 200 ∧ s.said = []
  | .bad f s, .bad f' _ => f = f' ∧ s.said = []
  | _, _ => False
theorem rl_bind {r : Res} {q : FR} {k : Wt → RS → Res} {j : Wt → Nat → FR} (h : Rl r q) (hk : ∀ v s c, s.calls + c = 200 → s.said = [] → Rl (k v s) (j v c)) : Rl (r.bind k) (q.bind j) := by
  match r, q, h with
  | .ok v s, .ok _ c, ⟨rfl, h1, h2⟩ => exact hk v s c h1 h2
  | .bad f s, .bad _ c, h => exact h
theorem rl_arms {ev : W → RS → Res} {fv : W → Nat → FR} {k : List Wt → RS → Res} {j : List Wt → Nat → FR} : ∀ (ws : List W) (acc : List Wt) (s : RS) (c : Nat), (∀ w ∈ ws, ∀ s c, s.calls + c = 200 → s.said = [] → Rl (ev w s) (fv w c)) → s.calls + c = 200 → s.said = [] →
    (∀ vs s c, s.calls + c = 200 → s.said = [] → Rl (k vs s) (j vs c)) → Rl (evArms ev ws acc s k) (evFA fv ws acc c j)
  | [], acc, s, c, _, h1, h2, hk => hk acc s c h1 h2
  | w :: ws, acc, s, c, he, h1, h2, hk => rl_bind (he w List.mem_cons_self s c h1 h2) fun v s c h1 h2 => rl_arms ws (acc ++ [v]) s c (fun u hu => he u (List.mem_cons_of_mem _ hu)) h1 h2 hk
theorem rl_fin {call : Nat → Wt → RS → Res} {cf : Nat → Wt → Nat → FR} (hc : ∀ f u s c, s.calls + c = 200 → s.said = [] → Rl (call f u s) (cf f u c)) {o : Op} (ho : o ≠ .say) {g : Int} (vs : List Wt) (s : RS) (c : Nat) (h1 : s.calls + c = 200) (h2 : s.said = []) : Rl (fin call o g vs s) (finF cf o g vs c) := by
  unfold fin finF
  split
  · exact ⟨rfl, h1, h2⟩
  · exact absurd rfl ho
  · exact hc _ _ _ _ h1 h2
  · exact hc _ _ _ _ h1 h2
  · exact ⟨rfl, h1, h2⟩
  · exact ⟨rfl, h1, h2⟩
  · exact ⟨rfl, h1, h2⟩
  · rename_i n1 n2 n3 n4 n5 n6 n7
    split
    · exact (n1 _ _ rfl rfl).elim
    · exact (n3 _ rfl rfl).elim
    · exact (n4 _ _ rfl rfl).elim
    · exact (n5 _ _ rfl rfl).elim
    · exact (n6 _ _ rfl rfl).elim
    · exact (n7 _ _ rfl rfl).elim
    · exact ⟨rfl, h2⟩
theorem rl_evB {call : Nat → Wt → RS → Res} {cf : Nat → Wt → Nat → FR} (hc : ∀ f u s c, s.calls + c = 200 → s.said = [] → Rl (call f u s) (cf f u c)) {a : Wt} : ∀ (d : Nat) (w : W) (s : RS) (c : Nat), quiet d w = true → s.calls + c = 200 → s.said = [] → Rl (evB call a d w s) (evFB cf a d w c) := by
  intro d
  induction d with
  | zero => exact fun w s c _ h1 h2 => ⟨rfl, h2⟩
  | succ d ih =>
    intro w s c hq h1 h2
    obtain ⟨o, g, as⟩ := w
    unfold quiet at hq
    rw [Bool.and_eq_true, List.all_eq_true] at hq
    have ho : o ≠ .say := by
      have := hq.1
      rwa [bne_iff_ne] at this
    have gen : Rl (evArms (evB call a d) as [] s (fin call o g)) (evFA (evFB cf a d) as [] c (finF cf o g)) :=
      rl_arms as [] s c (fun w hw s c h1 h2 => ih w s c (hq.2 w hw) h1 h2) h1 h2 fun vs s c h1 h2 => rl_fin hc ho vs s c h1 h2
    cases o with
    | num => exact ⟨rfl, h1, h2⟩
    | way => exact ⟨rfl, h1, h2⟩
    | arg => exact ⟨rfl, h1, h2⟩
    | ife =>
      match as, hq.2 with
      | [t, x, y], ha =>
        refine rl_bind (ih t s c (ha t (by simp)) h1 h2) fun v s c h1 h2 => ?_
        cases v with
        | way f => exact ⟨rfl, h2⟩
        | num z =>
          show Rl (if z ≠ 0 then _ else _) (if z ≠ 0 then _ else _)
          split
          · exact ih x s c (ha x (by simp)) h1 h2
          · exact ih y s c (ha y (by simp)) h1 h2
      | [], _ => exact ⟨rfl, h2⟩
      | [_], _ => exact ⟨rfl, h2⟩
      | [_, _], _ => exact ⟨rfl, h2⟩
      | _ :: _ :: _ :: _ :: _, _ => exact ⟨rfl, h2⟩
    | plus => exact gen
    | less => exact gen
    | times => exact gen
    | thn => exact gen
    | say => exact absurd rfl ho
    | call => exact gen
    | through => exact gen
theorem rl_evC {pr : List (Int × W)} (hq : ∀ p ∈ pr, quiet 7 p.2 = true) : ∀ (n c f : Nat) (u : Wt) (s : RS) (l : Nat), s.calls + l = 200 → s.said = [] → Rl (evC pr n c f u s) (evFC pr n f u l)
  | 0, _, _, _, s, l, _, h2 => ⟨rfl, h2⟩
  | n + 1, c, f, u, s, l, h1, h2 => by
    rw [evC]
    cases l with
    | zero =>
      rw [if_pos (by omega)]
      exact ⟨rfl, h2⟩
    | succ l =>
      rw [if_neg (by omega)]
      show Rl _ (match pr[f]? with
        | none => .bad .kind l
        | some p => evFB (evFC pr n) u 7 p.2 l)
      cases hp : pr[f]? with
      | none => exact ⟨rfl, h2⟩
      | some p =>
        have z := rl_evB (call := evC pr n f) (cf := evFC pr n) (a := u) (fun f' u' s' l' h1 h2 => rl_evC hq n f f' u' s' l' h1 h2) 7 p.2 { s with calls := s.calls + 1, row := s.row ++ [f], came := s.came ++ [(f, u)] } l (hq p (List.mem_of_getElem? hp)) (by show s.calls + 1 + l = 200; omega) h2
        revert z
        show Rl (evB (evC pr n f) u 7 p.2 _) (evFB (evFC pr n) u 7 p.2 l) → Rl (Res.bind (evB (evC pr n f) u 7 p.2 _) _) (evFB (evFC pr n) u 7 p.2 l)
        generalize evB (evC pr n f) u 7 p.2 _ = r
        generalize evFB (evFC pr n) u 7 p.2 l = q
        intro z
        match r, q, z with
        | .ok v s', .ok _ l', ⟨rfl, g1, g2⟩ => exact ⟨rfl, g1, g2⟩
        | .bad f s', .bad _ l', h => exact h
/-- how a run ends, by its code -/
def codeD : Nat × Int → Str × V
  | (0, z) => ("number", .int z)
  | (1, f) => ("way", .int f)
  | (_, k) => ("fault", .str (if k = 0 then "kind" else if k = 1 then "deep" else "long"))
theorem evR_code {pr : List (Int × W)} (hq : ∀ p ∈ pr, quiet 7 p.2 = true) (z : Int) : endD (evR pr z) = codeD (evFD pr z) ∧ (evR pr z).st.said = [] := by
  unfold evR evFD
  cases hp : pr[0]? with
  | none => exact ⟨rfl, rfl⟩
  | some p =>
    have y := rl_evB (call := evC pr 12 0) (cf := evFC pr 12) (a := .num z) (fun f' u' s' l' h1 h2 => rl_evC hq 12 0 f' u' s' l' h1 h2) 7 p.2 ⟨[], 0, [0], [(0, .num z)], []⟩ 200 (hq p (List.mem_of_getElem? hp)) rfl rfl
    revert y
    show Rl (evB (evC pr 12 0) (.num z) 7 p.2 ⟨[], 0, [0], [(0, .num z)], []⟩) _ → endD ((evB (evC pr 12 0) (.num z) 7 p.2 ⟨[], 0, [0], [(0, .num z)], []⟩).bind fun v s => .ok v { s with told := s.told ++ [(0, v)] }) = codeD (evFB (evFC pr 12) (.num z) 7 p.2 200).code ∧ ((evB (evC pr 12 0) (.num z) 7 p.2 ⟨[], 0, [0], [(0, .num z)], []⟩).bind fun v s => .ok v { s with told := s.told ++ [(0, v)] }).st.said = []
    generalize evB (evC pr 12 0) (.num z) 7 p.2 ⟨[], 0, [0], [(0, .num z)], []⟩ = r
    generalize evFB (evFC pr 12) (.num z) 7 p.2 200 = q
    intro y
    match r, q, y with
    | .ok (.num _) s', .ok _ l', ⟨rfl, g1, g2⟩ => exact ⟨rfl, g2⟩
    | .ok (.way _) s', .ok _ l', ⟨rfl, g1, g2⟩ => exact ⟨rfl, g2⟩
    | .bad .kind s', .bad _ l', ⟨rfl, g2⟩ => exact ⟨rfl, g2⟩
    | .bad .deep s', .bad _ l', ⟨rfl, g2⟩ => exact ⟨rfl, g2⟩
    | .bad .long s', .bad _ l', ⟨rfl, g2⟩ => exact ⟨rfl, g2⟩
/-! ### which programs there may be, by a test -/
def fitsB (n : Nat) : Op → Int → Bool
  | .num, g => decide (0 ≤ g) && decide (g ≤ 99)
  | .way, g => decide (0 ≤ g) && decide (g < n)
  | .call, g => decide (0 ≤ g) && decide (g < n)
  | _, _ => true
theorem fitsB_ok {n : Nat} {o : Op} {g : Int} (h : fitsB n o g = true) : o.fits n g := by
  cases o <;> simp only [fitsB, Bool.and_eq_true, decide_eq_true_eq] at h <;> first | exact h | exact trivial
def wokB (n : Nat) : Nat → W → Bool
  | 0, _ => false
  | d + 1, .mk o g as => as.length == o.arity && fitsB n o g && as.all (wokB n d)
theorem wokB_ok {n : Nat} : ∀ (d : Nat) (w : W), wokB n d w = true → WOk n d w
  | 0, _, h => nomatch h
  | d + 1, .mk o g as, h => by
    unfold wokB at h
    rw [Bool.and_eq_true, Bool.and_eq_true, List.all_eq_true, beq_iff_eq] at h
    exact .mk h.1.1 (fitsB_ok h.1.2) fun a ha => wokB_ok d a (h.2 a ha)
def szB : Nat → W → Nat
  | 0, _ => 0
  | d + 1, .mk _ _ as => 1 + (as.map (szB d)).sum
theorem szB_eq {n : Nat} : ∀ (d : Nat) (w : W), WOk n d w → szB d w = w.size
  | 0, _, h => nomatch h
  | d + 1, .mk o g as, h => by
    cases h with
    | mk h1 h2 h3 =>
    rw [W.size_mk]
    show 1 + (as.map (szB d)).sum = _
    have key : ∀ l : List W, (∀ a ∈ l, WOk n d a) → (l.map (szB d)).sum = W.sizes l := by
      intro l
      induction l with
      | nil => intro _; unfold W.sizes; rfl
      | cons a l ih =>
        intro hl
        unfold W.sizes
        rw [List.map_cons, List.sum_cons, ih fun b hb => hl b (List.mem_cons_of_mem _ hb), szB_eq d a (hl a List.mem_cons_self)]
    rw [key as h3]
def prOkB (pr : List (Int × W)) : Bool := decide (1 ≤ pr.length) && decide (pr.length ≤ 8) && pr.all fun f => decide (1 ≤ f.1) && decide (f.1 ≤ 8) && wokB pr.length 7 f.2 && decide (szB 7 f.2 ≤ 40) && quiet 7 f.2
theorem prOkB_ok {pr : List (Int × W)} (h : prOkB pr = true) : PrOk pr ∧ ∀ p ∈ pr, quiet 7 p.2 = true := by
  unfold prOkB at h
  rw [Bool.and_eq_true, Bool.and_eq_true, List.all_eq_true, decide_eq_true_eq, decide_eq_true_eq] at h
  have f : ∀ p ∈ pr, FOk pr.length p ∧ quiet 7 p.2 = true := fun p hp => by
    have z := h.2 p hp
    rw [Bool.and_eq_true, Bool.and_eq_true, Bool.and_eq_true, Bool.and_eq_true, decide_eq_true_eq, decide_eq_true_eq, decide_eq_true_eq] at z
    have w := wokB_ok _ _ z.1.1.2
    exact ⟨⟨z.1.1.1.1, z.1.1.1.2, w, by rw [← szB_eq _ _ w]; exact z.1.2⟩, z.2⟩
  exact ⟨⟨h.1.1, h.1.2, fun p hp => (f p hp).1⟩, fun p hp => (f p hp).2⟩
/-! ### the law's programs -/
def wNum (z : Int) : W := .mk .num z []
def wArg : W := .mk .arg 0 []
def wWay (f : Int) : W := .mk .way f []
def wCall (f : Int) (x : W) : W := .mk .call f [x]
def wThr (x y : W) : W := .mk .through 0 [x, y]
def wPlus (x y : W) : W := .mk .plus 0 [x, y]
def wLess (x y : W) : W := .mk .less 0 [x, y]
def wThen (x y : W) : W := .mk .thn 0 [x, y]
def wIf (t x y : W) : W := .mk .ife 0 [t, x, y]
def less1 : W := wLess wArg (wNum 1)
def manyF : Nat → W → Nat → W
  | 0, w, _ => w
  | k + 1, w, n => if n ≤ 1 then w else wPlus (manyF k w (n / 2)) (manyF k w (n - n / 2))
def sumF : Nat → List W → W
  | 0, ws => ws.headD wArg
  | k + 1, ws => if ws.length ≤ 1 then ws.headD wArg else wPlus (sumF k (ws.take (ws.length / 2))) (sumF k (ws.drop (ws.length / 2)))
def again1 (r : Nat) : W := if r = 0 then wCall 0 less1 else wThr (wWay 0) less1
def p1 (r : Nat) : List (Int × W) := [(1, wIf wArg (wPlus (wNum 1) (again1 r)) (wNum 0))]
def due1 (m : Nat) : Nat × Int := if m < 13 then (0, (m : Int)) else (2, 1)
def last2 (l : Nat) : W := if l = 0 then wNum 5 else if l = 1 then wCall 2 (wWay 2) else wThr (wNum 3) (wNum 1)
def p2 (inner often rest l : Nat) : List (Int × W) := [(2, wIf wArg (wPlus (manyF 4 (wCall 3 (wNum 1)) inner) (wCall 0 less1)) (wCall 1 wArg)), (3, wThen (manyF 4 (wCall 2 (wNum 1)) (rest + 1)) (last2 l)), (1, wPlus wArg (wNum 0)), (1, manyF 4 (wCall 2 (wNum 1)) often)]
def count2 (inner often rest : Nat) : Nat := 10 * (inner * (1 + often) + 1) + 1 + rest + 1
def due2 (inner often rest l : Nat) : Nat × Int := if (l = 1 ∧ 199 < count2 inner often rest) ∨ 200 < count2 inner often rest then (2, 2) else if l ≠ 0 then (2, 0) else (0, (10 * (inner : Int) * often + 5) % 1000)
def sz3 (k : Nat) : Nat := [127, 63, 31, 15, 7, 3, 1].getD k 1
def left3 (s : Nat) : Nat → Nat
  | 0 => s
  | k + 1 => left3 s k % sz3 k
def trees3 (s : Nat) : Nat → List W
  | 0 => []
  | k + 1 => trees3 s k ++ List.replicate (left3 s k / sz3 k) (wCall 1 (wNum (6 - (k : Int))))
def end3 (l : Nat) : W := if l = 0 then wThr (wNum 3) (wNum 1) else if l = 1 then wCall 3 (wNum 1) else wThr (wWay 3) (wNum 1)
def p3 (s down l : Nat) : List (Int × W) := [(1, wPlus (sumF 4 (trees3 s 7)) (wCall 2 (wNum (down : Int)))), (2, wIf wArg (wThen (wCall 1 less1) (wCall 1 less1)) (wNum 0)), (1, wIf wArg (wPlus (wNum 1) (wCall 2 less1)) (end3 l)), (1, wArg)]
def over3 (s k : Nat) : Bool := decide (11 < k) || decide (199 < s + k)
def due3 (s down l : Nat) : Nat × Int := match (List.range (down + 1)).find? (over3 s) with
  | some k => (2, if 11 < k then 1 else 2)
  | none => if l = 0 then (2, 0) else if 10 < down ∨ 199 < s + down + 1 then (2, if 10 < down then 1 else 2) else (0, (down : Int) + 1)
def chk1 : Bool := (List.range 7).all fun r => (List.range 2).all fun c => prOkB (p1 c) && decide (evFD (p1 c) ((9 + r : Nat) : Int) = due1 (9 + r))
def pairs2 : List (Nat × Nat) := [(3, 5), (6, 2), (2, 8)] ++ (List.range 6).flatMap fun i => (List.range 4).map fun j => (i + 1, j + 1)
def chk2q (q : Nat × Nat) : Bool := (List.range 10).all fun r => (List.range 3).all fun l => prOkB (p2 q.1 q.2 r l) && decide (evFD (p2 q.1 q.2 r l) 10 = due2 q.1 q.2 r l)
def chk2 : Bool := pairs2.all chk2q
def chk3a (a : Nat) : Bool := (List.range 6).all fun b => (List.range 3).all fun l => prOkB (p3 (185 + a) (8 + b) l) && decide ((trees3 (185 + a) 7).length ≤ 16) && decide (1 ≤ (trees3 (185 + a) 7).length) && decide (evFD (p3 (185 + a) (8 + b) l) 0 = due3 (185 + a) (8 + b) l)
def chk3 : Bool := (List.range 16).all chk3a
end Ov
/-! ### words made by the law's hand; what its defs promise -/
namespace Ov
open PySem PySem.Spec PyProof.Rows L2
theorem mkW {H : Hp} {Q : VK} (o : Op) (g : Int) {us : List V} {ws : List W} {xs : List V} (e : xs = .str o.name :: (o.pre g ++ us)) (h : WsAt H us ws) (l : xs.length ≤ sizeLine) (q : ∀ H' t, Same H H' → H t = none → WAt H' (.ref t) (.mk o g ws) → Q (.ref t) H') : xs.length ≤ sizeLine ∧ ∀ t, H t = none → Q (.ref t) (upd H t (.tup xs)) :=
  ⟨l, fun t ht => q _ t (Same.new ht) ht (.mk (by rw [upd_same, e]) (WsAt.keep (Keep.same (Same.new ht)) h))⟩
theorem mkF {H : Hp} {Q : VK} {z : Int} {bv : V} {w : W} (h : WAt H bv w) (q : ∀ H' t, Same H H' → H t = none → FAt H' (.ref t) (z, w) → Q (.ref t) H') : 2 ≤ sizeLine ∧ ∀ t, H t = none → Q (.ref t) (upd H t (.tup [.int z, bv])) :=
  ⟨sml 2, fun t ht => q _ t (Same.new ht) ht ⟨t, bv, rfl, upd_same, h.keep (Keep.same (Same.new ht))⟩⟩
theorem mkP {H : Hp} {Q : VK} {vs : List V} {pr : List (Int × W)} (h : Paired (FAt H) vs pr) (l : vs.length ≤ sizeLine) (q : ∀ H' t, Same H H' → H t = none → H' t = some (.tup vs) → Paired (FAt H') vs pr → Q (.ref t) H') : vs.length ≤ sizeLine ∧ ∀ t, H t = none → Q (.ref t) (upd H t (.tup vs)) :=
  ⟨l, fun t ht => q _ t (Same.new ht) ht upd_same (L2.Paired.mapP h fun _ _ z => z.keep (Keep.same (Same.new ht)))⟩
theorem far_is {pr : List (Int × W)} {ps : List (List Nat)} {dn : Nat → List Nat} (h : ps ≠ []) : ∃ m, Far pr ps dn m := by
  have key : ∀ k, k < ps.length → ∃ i, i ≤ k ∧ ∀ j, j ≤ k → bgn pr ps dn j + psz pr (ps[j]?.getD []) ≤ bgn pr ps dn i + psz pr (ps[i]?.getD []) := by
    intro k
    induction k with
    | zero => exact fun _ => ⟨0, Nat.le_refl _, fun j hj => by
        obtain rfl : j = 0 := by omega
        exact Int.le_refl _⟩
    | succ k ih =>
      intro hk
      obtain ⟨i, hi, h1⟩ := ih (by omega)
      by_cases c : bgn pr ps dn (k + 1) + psz pr (ps[k + 1]?.getD []) ≤ bgn pr ps dn i + psz pr (ps[i]?.getD [])
      · refine ⟨i, by omega, fun j hj => ?_⟩
        rcases Nat.lt_or_ge k j with lt | ge
        · obtain rfl : j = k + 1 := by omega
          exact c
        · exact h1 j ge
      · refine ⟨k + 1, Nat.le_refl _, fun j hj => ?_⟩
        rcases Nat.lt_or_ge k j with lt | ge
        · obtain rfl : j = k + 1 := by omega
          exact Int.le_refl _
        · have := h1 j ge
          omega
  have hl := List.length_pos_iff.mpr h
  obtain ⟨i, hi, h1⟩ := key (ps.length - 1) (by omega)
  have e : ∀ (j : Nat) (p : List Nat), ps[j]? = some p → ps[j]?.getD [] = p := fun j p e => by rw [e]; rfl
  refine ⟨_, ⟨i, ps[i]'(by omega), List.getElem?_eq_getElem (by omega), rfl⟩, fun j p hj => ?_⟩
  have hjl := (List.getElem?_eq_some_iff.mp hj).1
  have z := h1 j (by omega)
  rw [e j p hj, e i _ (List.getElem?_eq_getElem (by omega))] at z
  exact z
/-- all functions apart -/
def apart (n : Nat) : List (List Nat) := (List.range n).map fun k => [k]
theorem apart_ok (n : Nat) : TrOk n (apart n) (List.replicate n (-1)) := by
  have fl : ∀ l : List Nat, (l.map fun k => [k]).flatten = l := fun l => by
    induction l with
    | nil => rfl
    | cons a l ih => rw [List.map_cons, List.flatten_cons, ih]; rfl
  unfold apart
  refine ⟨⟨fun p hp => ?_, fun p hp => ?_, ?_, ?_⟩, by rw [List.length_replicate, List.length_map, List.length_range], List.range n, ?_, SInv.start _ _ fun x hx => List.mem_range.mp hx⟩
  · obtain ⟨k, _, rfl⟩ := List.mem_map.mp hp
    exact fun z => nomatch z
  · obtain ⟨k, _, rfl⟩ := List.mem_map.mp hp
    exact List.pairwise_singleton _ _
  · rw [List.map_map]
    have : (List.range n).map ((fun p : List Nat => p.headD 0) ∘ fun k => [k]) = List.range n := by
      conv => rhs; rw [← List.map_id (List.range n)]
      rfl
    rw [this]
    exact List.pairwise_lt_range
  · rw [fl]
  · rw [List.length_map, List.length_range]
def spMany (k : Nat) : Sp := fun vs H Q _ => ∃ (v : V) (w : W) (n : Nat), vs = [v, .int (n : Int)] ∧ WAt H v w ∧ 1 ≤ n ∧ n ≤ 2 ^ k ∧ n ≤ 1000 ∧ ∀ H' y, Same H H' → WAt H' y (manyF k w n) → Q y H'
def spSum (k : Nat) : Sp := fun vs H Q _ => ∃ (a : Addr) (xs : List V) (ws : List W), vs = [.ref a] ∧ H a = some (.lst xs) ∧ WsAt H xs ws ∧ 1 ≤ ws.length ∧ ws.length ≤ 2 ^ k ∧ ws.length ≤ 1000 ∧ ∀ H' y, Same H H' → WAt H' y (sumF k ws) → Q y H'
def spAll : Sp := fun vs H Q _ => ∃ (v : V) (pr : List (Int × W)) (z : Int), vs = [v, .int z] ∧ PrAt H v pr ∧ prOkB pr = true ∧ 0 ≤ z ∧ z < 1000 ∧
  ∀ H' r t sa, Same H H' → H' r = some (.tup [.ref t, .ref sa]) → H' t = some (.tup [.str (codeD (evFD pr z)).1, (codeD (evFD pr z)).2]) → H' sa = some (.lst []) → Q (.ref r) H'
def spEnds : Sp := fun vs H Q _ => ∃ (s d l : Nat), vs = [.int (s : Int), .int (d : Int), .int (l : Int)] ∧ d ≤ 20 ∧ s ≤ 1000 ∧ ∀ H' t, Same H H' → H t = none → H' t = some (.tup [.str (codeD (due3 s d l)).1, (codeD (due3 s d l)).2]) → Q (.ref t) H'
def spBoth : Sp := fun vs H Q _ => ∃ h c, vs = [.ref h] ∧ Dr H h c ∧ ∀ H', But h c H H' → Dr H' h c → Q (.bl true) H'
theorem WsAt.append {H : Hp} : ∀ {a : List V} {b : List W} {c : List V} {d : List W}, WsAt H a b → WsAt H c d → WsAt H (a ++ c) (b ++ d)
  | _, _, _, _, .nil, h => h
  | _, _, _, _, .cons x r, h => .cons x (WsAt.append r h)
theorem WsAt.take {H : Hp} : ∀ {a : List V} {b : List W}, WsAt H a b → ∀ k, WsAt H (a.take k) (b.take k)
  | _, _, _, 0 => by rw [List.take_zero, List.take_zero]; exact .nil
  | _, _, .nil, _ + 1 => .nil
  | _, _, .cons x r, k + 1 => .cons x (WsAt.take r k)
theorem WsAt.drop {H : Hp} : ∀ {a : List V} {b : List W}, WsAt H a b → ∀ k, WsAt H (a.drop k) (b.drop k)
  | _, _, h, 0 => h
  | _, _, .nil, _ + 1 => .nil
  | _, _, .cons _ r, k + 1 => WsAt.drop r k
theorem trees3_len {s k : Nat} : ∀ m, k ≤ m → (trees3 s k).length ≤ (trees3 s m).length
  | 0, h => by
    obtain rfl : k = 0 := by omega
    exact Nat.le_refl _
  | m + 1, h => by
    by_cases c : k = m + 1
    · subst c
      exact Nat.le_refl _
    · refine Nat.le_trans (trees3_len m (by omega)) ?_
      show _ ≤ (trees3 s m ++ _).length
      rw [List.length_append]
      exact Nat.le_add_right _ _
def ButT (p : Addr) (H H' : Hp) : Prop := ∀ b o, b ≠ p → H b = some o → H' b = some o
theorem ButT.keep {p : Addr} {H H' : Hp} {xs : List V} (b : ButT p H H') (e : H p = some (.lst xs)) : Keep H H' := fun a ys h => b a _ (ne_of h e (by intro z; cases z)) h
theorem ButT.same {p : Addr} {H H1 H' : Hp} (b : ButT p H H1) (s : Same H1 H') : ButT p H H' := fun a o n h => s _ _ (b a o n h)
theorem ButT.upd {p : Addr} {H H1 : Hp} {o : HO} (b : ButT p H H1) : ButT p H (upd H1 p o) := fun a u n h => by
  rw [upd_ne n]
  exact b a u n h
theorem sz3_at (k : Nat) (h : k < 7) : ([127, 63, 31, 15, 7, 3, 1] : List Int)[k]? = some ((sz3 k : Nat) : Int) ∧ 1 ≤ sz3 k := by
  match k, h with
  | 0, _ => exact ⟨rfl, by decide⟩
  | 1, _ => exact ⟨rfl, by decide⟩
  | 2, _ => exact ⟨rfl, by decide⟩
  | 3, _ => exact ⟨rfl, by decide⟩
  | 4, _ => exact ⟨rfl, by decide⟩
  | 5, _ => exact ⟨rfl, by decide⟩
  | 6, _ => exact ⟨rfl, by decide⟩
theorem chk3_at (h : chk3 = true) {a b l : Nat} (ha : a < 16) (hb : b < 6) (hl : l < 3) : prOkB (p3 (185 + a) (8 + b) l) = true ∧ (trees3 (185 + a) 7).length ≤ 16 ∧ 1 ≤ (trees3 (185 + a) 7).length ∧ evFD (p3 (185 + a) (8 + b) l) 0 = due3 (185 + a) (8 + b) l := by
  unfold chk3 at h
  have z0 : chk3a a = true := List.all_eq_true.mp h a (List.mem_range.mpr ha)
  unfold chk3a at z0
  have z := List.all_eq_true.mp (List.all_eq_true.mp z0 b (List.mem_range.mpr hb)) l (List.mem_range.mpr hl)
  rw [Bool.and_eq_true, Bool.and_eq_true, Bool.and_eq_true, decide_eq_true_eq, decide_eq_true_eq, decide_eq_true_eq] at z
  exact ⟨z.1.1.1, z.1.1.2, z.1.2, z.2⟩
theorem chk1_at (h : chk1 = true) {r c : Nat} (hr : r < 7) (hc : c < 2) : prOkB (p1 c) = true ∧ evFD (p1 c) ((9 + r : Nat) : Int) = due1 (9 + r) := by
  unfold chk1 at h
  have z := List.all_eq_true.mp (List.all_eq_true.mp h r (List.mem_range.mpr hr)) c (List.mem_range.mpr hc)
  rw [Bool.and_eq_true, decide_eq_true_eq] at z
  exact z
theorem chk2_at (h : chk2 = true) {q : Nat × Nat} {r l : Nat} (hq : q ∈ pairs2) (hr : r < 10) (hl : l < 3) : prOkB (p2 q.1 q.2 r l) = true ∧ evFD (p2 q.1 q.2 r l) 10 = due2 q.1 q.2 r l := by
  unfold chk2 at h
  have z0 : chk2q q = true := List.all_eq_true.mp h q hq
  unfold chk2q at z0
  have z := List.all_eq_true.mp (List.all_eq_true.mp z0 r (List.mem_range.mpr hr)) l (List.mem_range.mpr hl)
  rw [Bool.and_eq_true, decide_eq_true_eq] at z
  exact z
theorem newW {H : Hp} {t : Addr} {us : List V} {ws : List W} {xs : List V} (o : Op) (g : Int) (e : xs = .str o.name :: (o.pre g ++ us)) (h : WsAt H us ws) (ht : H t = none) : Same H (upd H t (.tup xs)) ∧ WAt (upd H t (.tup xs)) (.ref t) (.mk o g ws) :=
  ⟨Same.new ht, .mk (by rw [upd_same, e]) (WsAt.keep (Keep.same (Same.new ht)) h)⟩
theorem newF {H : Hp} {t : Addr} {z : Int} {bv : V} {w : W} (h : WAt H bv w) (ht : H t = none) : Same H (upd H t (.tup [.int z, bv])) ∧ FAt (upd H t (.tup [.int z, bv])) (.ref t) (z, w) :=
  ⟨Same.new ht, t, bv, rfl, upd_same, h.keep (Keep.same (Same.new ht))⟩
theorem codeD_flat (c : Nat × Int) : [V.str (codeD c).1, (codeD c).2].all flatV = true := by
  match c with
  | (0, z) => rfl
  | (1, z) => rfl
  | (n + 2, k) => rfl
end Ov
/-! ### all of the law's programs, reckoned (k18): one theorem for a few of them each, which keeps the memory small -/
namespace Ov
theorem chk1_ok : chk1 = true := by decide +kernel
theorem chk2_0 : chk2q (3, 5) = true := by decide +kernel
theorem chk2_1 : chk2q (6, 2) = true := by decide +kernel
theorem chk2_2 : chk2q (2, 8) = true := by decide +kernel
theorem chk2_3 : chk2q (0 + 1, 0 + 1) = true := by decide +kernel
theorem chk2_4 : chk2q (0 + 1, 1 + 1) = true := by decide +kernel
theorem chk2_5 : chk2q (0 + 1, 2 + 1) = true := by decide +kernel
theorem chk2_6 : chk2q (0 + 1, 3 + 1) = true := by decide +kernel
theorem chk2_7 : chk2q (1 + 1, 0 + 1) = true := by decide +kernel
theorem chk2_8 : chk2q (1 + 1, 1 + 1) = true := by decide +kernel
theorem chk2_9 : chk2q (1 + 1, 2 + 1) = true := by decide +kernel
theorem chk2_10 : chk2q (1 + 1, 3 + 1) = true := by decide +kernel
theorem chk2_11 : chk2q (2 + 1, 0 + 1) = true := by decide +kernel
theorem chk2_12 : chk2q (2 + 1, 1 + 1) = true := by decide +kernel
theorem chk2_13 : chk2q (2 + 1, 2 + 1) = true := by decide +kernel
theorem chk2_14 : chk2q (2 + 1, 3 + 1) = true := by decide +kernel
theorem chk2_15 : chk2q (3 + 1, 0 + 1) = true := by decide +kernel
theorem chk2_16 : chk2q (3 + 1, 1 + 1) = true := by decide +kernel
theorem chk2_17 : chk2q (3 + 1, 2 + 1) = true := by decide +kernel
theorem chk2_18 : chk2q (3 + 1, 3 + 1) = true := by decide +kernel
theorem chk2_19 : chk2q (4 + 1, 0 + 1) = true := by decide +kernel
theorem chk2_20 : chk2q (4 + 1, 1 + 1) = true := by decide +kernel
theorem chk2_21 : chk2q (4 + 1, 2 + 1) = true := by decide +kernel
theorem chk2_22 : chk2q (4 + 1, 3 + 1) = true := by decide +kernel
theorem chk2_23 : chk2q (5 + 1, 0 + 1) = true := by decide +kernel
theorem chk2_24 : chk2q (5 + 1, 1 + 1) = true := by decide +kernel
theorem chk2_25 : chk2q (5 + 1, 2 + 1) = true := by decide +kernel
theorem chk2_26 : chk2q (5 + 1, 3 + 1) = true := by decide +kernel
theorem chk3_0 : chk3a 0 = true := by decide +kernel
theorem chk3_1 : chk3a 1 = true := by decide +kernel
theorem chk3_2 : chk3a 2 = true := by decide +kernel
theorem chk3_3 : chk3a 3 = true := by decide +kernel
theorem chk3_4 : chk3a 4 = true := by decide +kernel
theorem chk3_5 : chk3a 5 = true := by decide +kernel
theorem chk3_6 : chk3a 6 = true := by decide +kernel
theorem chk3_7 : chk3a 7 = true := by decide +kernel
theorem chk3_8 : chk3a 8 = true := by decide +kernel
theorem chk3_9 : chk3a 9 = true := by decide +kernel
theorem chk3_10 : chk3a 10 = true := by decide +kernel
theorem chk3_11 : chk3a 11 = true := by decide +kernel
theorem chk3_12 : chk3a 12 = true := by decide +kernel
theorem chk3_13 : chk3a 13 = true := by decide +kernel
theorem chk3_14 : chk3a 14 = true := by decide +kernel
theorem chk3_15 : chk3a 15 = true := by decide +kernel
theorem chk2_ok : chk2 = true := by
  unfold chk2
  rw [List.all_eq_true]
  intro q hq
  unfold pairs2 at hq
  rcases List.mem_append.mp hq with h | h
  · simp only [List.mem_cons, List.not_mem_nil, or_false] at h
    rcases h with rfl | rfl | rfl
    · exact chk2_0
    · exact chk2_1
    · exact chk2_2
  · obtain ⟨i, hi, h⟩ := List.mem_flatMap.mp h
    obtain ⟨j, hj, rfl⟩ := List.mem_map.mp h
    have hi := List.mem_range.mp hi
    have hj := List.mem_range.mp hj
    rcases (by omega : i = 0 ∨ i = 1 ∨ i = 2 ∨ i = 3 ∨ i = 4 ∨ i = 5) with rfl | rfl | rfl | rfl | rfl | rfl
    · rcases (by omega : j = 0 ∨ j = 1 ∨ j = 2 ∨ j = 3) with rfl | rfl | rfl | rfl
      · exact chk2_3
      · exact chk2_4
      · exact chk2_5
      · exact chk2_6
    · rcases (by omega : j = 0 ∨ j = 1 ∨ j = 2 ∨ j = 3) with rfl | rfl | rfl | rfl
      · exact chk2_7
      · exact chk2_8
      · exact chk2_9
      · exact chk2_10
    · rcases (by omega : j = 0 ∨ j = 1 ∨ j = 2 ∨ j = 3) with rfl | rfl | rfl | rfl
      · exact chk2_11
      · exact chk2_12
      · exact chk2_13
      · exact chk2_14
    · rcases (by omega : j = 0 ∨ j = 1 ∨ j = 2 ∨ j = 3) with rfl | rfl | rfl | rfl
      · exact chk2_15
      · exact chk2_16
      · exact chk2_17
      · exact chk2_18
    · rcases (by omega : j = 0 ∨ j = 1 ∨ j = 2 ∨ j = 3) with rfl | rfl | rfl | rfl
      · exact chk2_19
      · exact chk2_20
      · exact chk2_21
      · exact chk2_22
    · rcases (by omega : j = 0 ∨ j = 1 ∨ j = 2 ∨ j = 3) with rfl | rfl | rfl | rfl
      · exact chk2_23
      · exact chk2_24
      · exact chk2_25
      · exact chk2_26
theorem chk3_ok : chk3 = true := by
  unfold chk3
  rw [List.all_eq_true]
  intro a ha
  have ha := List.mem_range.mp ha
  rcases (by omega : a = 0 ∨ a = 1 ∨ a = 2 ∨ a = 3 ∨ a = 4 ∨ a = 5 ∨ a = 6 ∨ a = 7 ∨ a = 8 ∨ a = 9 ∨ a = 10 ∨ a = 11 ∨ a = 12 ∨ a = 13 ∨ a = 14 ∨ a = 15) with rfl | rfl | rfl | rfl | rfl | rfl | rfl | rfl | rfl | rfl | rfl | rfl | rfl | rfl | rfl | rfl
  · exact chk3_0
  · exact chk3_1
  · exact chk3_2
  · exact chk3_3
  · exact chk3_4
  · exact chk3_5
  · exact chk3_6
  · exact chk3_7
  · exact chk3_8
  · exact chk3_9
  · exact chk3_10
  · exact chk3_11
  · exact chk3_12
  · exact chk3_13
  · exact chk3_14
  · exact chk3_15
end Ov
namespace K18
open PySem PySem.Spec PyProof.Rows L2 Ov
section
variable {P : Program} {w : World} {K : PySem.W.Frag} {mg : Str → Option Value} {base : Heap}
theorem sc_law_next : FnScope ["_law_h", "_law_many_here", "_law_at", "_law_cell"] ["_law_h", "_law_many_here"] (defScope s_law_next) := ⟨rfl, rfl, rfl, by decide +kernel, rfl, by decide +kernel, by decide +kernel⟩
-- 0 _law_h, 1 _law_many_here, 2 _law_at, 3 _law_cell
theorem ok_law_next (T : Txt w K mg) : FnOk P w K mg base CX0 1 (He.ga K "_law_next") (fdOf K d_law_next) ["_law_h", "_law_many_here"] spNext := by
  refine T.F_law_next.ok sc_law_next (fun vs H Q E h => ?_) (fun cdv A outer s H vs Q E hr h => ?_)
  · obtain ⟨h, c, n, rfl, _⟩ := h
    rfl
  obtain ⟨h, c, n, rfl, ⟨m, k, xs, hh, hc, h63⟩, n0, n1, q⟩ := h
  have nhc : h ≠ c := Dr.ne ⟨m, k, xs, hh, hc, h63⟩
  refine ⟨_, PSs.nox (pss_cons (ps_set (i := 2) sc_law_next.nd rfl (by first | exact Or.inl rfl | exact Or.inr rfl) (pe_op op_mod (pe_ix (r := rIxL K) ix_list (pv 0) pe_int (fun _ _ => rfl)) (pe_callB (call_max2 rfl) (by rfl) T.z_max (by decide +kernel) (pa_cons pe_int (pa_cons (pe_callB (r := Evl.rLenS K) call_len_seq (by rfl) T.z_len PySem.boot_len (pa_cons (pe_ix (r := rIxL K) ix_list (pv 0) pe_int (fun _ _ => rfl)) pa_nil)) pa_nil)))))
      (Evl.pss_cut (ps_set (i := 3) sc_law_next.nd rfl (by first | exact Or.inl rfl | exact Or.inr rfl) (pe_ifExp (pt_cmpR (r := rNeD K) (op_neD hr.units) (pe_ix (r := rIxL K) ix_list (pv 0) pe_int (fun _ _ => rfl)) (pe_lst pa_nil) (nomark _)) (pe_ix (r := rIxL K) ix_list (pe_ix (r := rIxL K) ix_list (pv 0) pe_int (fun _ _ => rfl)) (pv 2) (fun _ _ => rfl)) pe_int))
      (pss_cons (ps_if (pt_cmpR op_ge (pv 3) (pe_op op_pow pe_int pe_int) (nomark _)) (pss_cons (ps_asg (pe_op op_fdiv (pv 3) (pv 1)) (pg_sub (pe_ix (r := rIxL K) ix_list (pv 0) pe_int (fun _ _ => rfl)) (pv 2) set_list))
      (pss_one (ps_ret (pe_op op_mod (pv 3) (pv 1))))) pss_nil)
      (pss_cons (ps_asg (pe_op op_mod (pe_op op_add (pe_op op_add (pe_op op_mul (pe_ix (r := rIxL K) ix_list (pv 0) pe_int (fun _ _ => rfl)) pe_int) (pe_op op_mul (pv 3) pe_int)) pe_int) pe_int) (pg_sub (pv 0) pe_int set_list))
      (pss_cons (ps_asg (pe_op op_add (pe_ix (r := rIxL K) ix_list (pv 0) pe_int (fun _ _ => rfl)) pe_int) (pg_sub (pv 0) pe_int set_list))
      (pss_one (ps_ret (pe_op op_mod (pe_op op_fdiv (pe_ix (r := rIxL K) ix_list (pv 0) pe_int (fun _ _ => rfl)) pe_int) (pv 1))))))))), ?_⟩
  have hm : (0 : Int) < (if ((xs.map V.int).length : Int) > 1 then ((xs.map V.int).length : Int) else 1) := by split <;> omega
  refine ⟨_, rfl, h, _, 2, .int k, rfl, rfl, SqL.of hh, rfl, _, rfl, h, _, 1, .ref c, rfl, rfl, SqL.of hh, rfl, c, _, rfl, .inl (SqL.of hc), 1, _, rfl, k, _, rfl, rfl, hm, ?_⟩
  have ht : xs ≠ [] → ∃ (j : Nat) (z : Int), k % (if ((xs.map V.int).length : Int) > 1 then ((xs.map V.int).length : Int) else 1) = (j : Int) ∧ j < xs.length ∧ xs[j]? = some z := fun ne => by
    have l1 : 0 < xs.length := (by cases xs with | nil => exact absurd rfl ne | cons _ _ => exact Nat.succ_pos _)
    have b0 := Int.emod_nonneg k (Int.ne_of_gt hm)
    have b1 := Int.emod_lt_of_pos k hm
    generalize k % (if ((xs.map V.int).length : Int) > 1 then ((xs.map V.int).length : Int) else 1) = t at b0 b1
    have b2 : t < (xs.length : Int) := by
      rw [List.length_map] at b1
      split at b1 <;> omega
    have b3 : t.toNat < xs.length := by omega
    exact ⟨t.toNat, xs[t.toNat], by omega, b3, List.getElem?_eq_getElem b3⟩
  show Evl.tCut _ _ _ ([some (.ref h), some (.int n), some (.int (k % (if ((xs.map V.int).length : Int) > 1 then ((xs.map V.int).length : Int) else 1))), none] : L2.St) _
  generalize k % (if ((xs.map V.int).length : Int) > 1 then ((xs.map V.int).length : Int) else 1) = t at ht
  refine ⟨fun σ' H' => ∃ z : Int, σ' = [some (.ref h), some (.int n), some (.int t), some (.int z)] ∧ H' h = some (.lst [.int m, .ref c, .int k]) ∧ H' c = some (.lst (xs.map V.int)) ∧ But h c H H' ∧ (z ≠ 0 → ∃ j : Nat, t = (j : Int) ∧ j < xs.length), ?_, ?_⟩
  · refine ⟨_, rfl, h, _, 1, .ref c, rfl, rfl, SqL.of hh, rfl, sml 0, fun p hp => ?_⟩
    have ph : h ≠ p := ne_of_none hh hp
    have pc : c ≠ p := ne_of_none hc hp
    have hh1 : upd H p (.lst []) h = some (.lst [.int m, .ref c, .int k]) := by rw [upd_ne ph]; exact hh
    have hc1 : upd H p (.lst []) c = some (.lst (xs.map V.int)) := by rw [upd_ne pc]; exact hc
    refine ⟨.list (xs.map PyData.int), .list [], .lst (SqL.of hc1) (dpInts xs), .lst (SqL.of upd_same) .nil, intsShaped xs, intsShaped [], _, rfl, ?_⟩
    rw [eqvNil]
    by_cases e : xs = []
    · have e1 : xs.isEmpty = true := by rw [e]; rfl
      rw [e1]
      refine iteF ?_
      exact ⟨0, rfl, hh1, hc1, But.new hp, fun h => absurd rfl h⟩
    · have e1 : xs.isEmpty = false := by
        cases xs with
        | nil => exact absurd rfl e
        | cons _ _ => rfl
      rw [e1]
      refine iteT ?_
      obtain ⟨j, z, ej, hj, hz⟩ := ht e
      refine ⟨_, rfl, h, _, 1, .ref c, rfl, rfl, SqL.of hh1, rfl, _, rfl, c, _, t, .int z, rfl, rfl, SqL.of hc1, by rw [ej]; exact atI_nat (by rw [List.getElem?_map, hz]; rfl), ?_⟩
      exact ⟨z, rfl, hh1, hc1, But.new hp, fun _ => ⟨j, ej, hj⟩⟩
  rintro σ1 H1 ⟨z, rfl, hh1, hc1, b1, hz⟩
  refine ⟨_, rfl, 10, 18, rfl, rfl, (by refine ⟨by decide, by decide, by decide⟩), z, _, rfl, rfl, _, rfl, ite2 (fun e => ?_) (fun e => ?_)⟩
  · have e1 : (10 : Int) ^ (18 : Int).toNat ≤ z := of_decide_eq_true e
    have e2 : (0 : Int) < (10 : Int) ^ (18 : Int).toNat := by decide
    obtain ⟨j, ej, hj⟩ := hz (by omega)
    refine ⟨_, rfl, _, rfl, z, n, rfl, rfl, ⟨n0, by omega⟩, ?_⟩
    refine ⟨_, rfl, h, _, 1, .ref c, rfl, rfl, SqL.of hh1, rfl, _, rfl, c, _, t, j, rfl, rfl, hc1, ?_, ?_⟩
    · rw [ej]
      unfold ixN
      rw [List.length_map, if_pos (by omega), if_pos (by omega)]
      simp
    refine ⟨_, rfl, _, rfl, z, n, rfl, rfl, n0, ?_⟩
    refine q _ _ (Int.emod_nonneg _ (by omega)) (Int.emod_lt_of_pos _ n0) (b1.trans But.updc) ⟨m, k, xs.set j (z / n), ?_, ?_, ?_⟩
    · rw [upd_ne nhc]; exact hh1
    · rw [upd_same, List.map_set]
    · rw [List.length_set]; exact h63
  · refine ⟨_, rfl, h, _, 0, .int m, rfl, rfl, SqL.of hh1, rfl, m, 48271, rfl, rfl, .inr (by decide), _, rfl, z, 69621, rfl, rfl, .inr (by decide), _, _, rfl, rfl, _, 11, rfl, rfl, _, 2147483647, rfl, rfl, (by show (0 : Int) < 2147483647; decide), ?_⟩
    refine ⟨_, rfl, h, _, 0, 0, rfl, rfl, hh1, rfl, ?_⟩
    refine ⟨_, rfl, h, _, 2, .int k, rfl, rfl, SqL.of upd_same, rfl, k, 1, rfl, rfl, _, rfl, h, _, 2, 2, rfl, rfl, upd_same, rfl, ?_⟩
    refine ⟨_, rfl, h, _, 0, .int ((m * 48271 + z * 69621 + 11) % 2147483647), rfl, rfl, SqL.of upd_same, rfl, _, 7, rfl, rfl, ⟨by decide, by decide⟩, _, rfl, _, n, rfl, rfl, n0, ?_⟩
    refine q _ _ (Int.emod_nonneg _ (by omega)) (Int.emod_lt_of_pos _ n0) (b1.trans (But.updh.trans But.updh)) ⟨(m * 48271 + z * 69621 + 11) % 2147483647, k + 1, xs, upd_same, ?_, h63⟩
    rw [upd_ne nhc.symm, upd_ne nhc.symm]
    exact hc1
theorem sc_law_mix : FnScope ["_law_script", "_law_seed", "_law_mixed", "_law_cell"] ["_law_script", "_law_seed"] (defScope s_law_mix) := ⟨rfl, rfl, rfl, by decide +kernel, rfl, by decide +kernel, by decide +kernel⟩
-- 0 _law_script, 1 _law_seed, 2 _law_mixed, 3 _law_cell
theorem ok_law_mix (T : Txt w K mg) : FnOk P w K mg base CX0 1 (He.ga K "_law_mix") (fdOf K d_law_mix) ["_law_script", "_law_seed"] (spMix K) := by
  refine T.F_law_mix.ok sc_law_mix (fun vs H Q E h => ?_) (fun cdv A outer s H vs Q E hr h => ?_)
  · obtain ⟨a, ns, z, rfl, _⟩ := h
    rfl
  obtain ⟨a, ns, z, rfl, hS, h63, z0, z1, q⟩ := h
  refine ⟨_, PSs.nox (pss_cons (ps_set (i := 2) sc_law_mix.nd rfl (by first | exact Or.inl rfl | exact Or.inr rfl) (pv 1))
      (pss_cons (ps_for PassesOwn.never rfl (Ov.pi_listK (K := K) rfl (pv 0)) (pg_name (i := 3) sc_law_mix.nd rfl (by first | exact Or.inl rfl | exact Or.inr rfl)) (pss_one (ps_set (i := 2) sc_law_mix.nd rfl (by first | exact Or.inl rfl | exact Or.inr rfl) (pe_op op_mod (pe_op op_add (pe_op op_add (pe_op op_mul (pv 2) pe_int) (pe_op op_mod (pv 3) pe_int)) pe_int) pe_int))))
      (pss_one (ps_ret (pe_lst (pa_cons (pv 2) (pa_cons (pe_callTy (r := Evl.rListS K) call_list_of (by rfl) T.z_list (by decide +kernel) (pa_cons (pv 0) pa_nil)) (pa_cons pe_int pa_nil)))))))), ?_⟩
  refine ⟨_, rfl, _, rfl, a, rfl, ⟨_, hS⟩, for_list (K := K) (a := a) (xs := ns.map V.int) (fun _ σ H' => ∃ (y : Int) (v : Option V), σ = [some (.ref a), some (.int z), some (.int y), v] ∧ H' = H) ⟨z, none, rfl, rfl⟩ (fun i σ H' _ ⟨_, _, _, e⟩ => by rw [e]; exact hS) ?_ ?_⟩
  · rintro i x σ H' hi ⟨y, v, rfl, rfl⟩
    obtain ⟨u, rfl⟩ : ∃ u, x = V.int u := by
      rw [List.getElem?_map] at hi
      cases e : ns[i]? with
      | none => rw [e] at hi; cases hi
      | some u => rw [e] at hi; exact ⟨u, (Option.some.inj hi).symm⟩
    refine ⟨_, rfl, y, 48271, rfl, rfl, .inr (by decide), _, rfl, u, 2147483629, rfl, rfl, (by show (0 : Int) < 2147483629; decide), _, _, rfl, rfl, _, 1, rfl, rfl, _, 2147483647, rfl, rfl, (by show (0 : Int) < 2147483647; decide), ?_⟩
    exact ⟨_, _, rfl, rfl⟩
  · rintro σ H' ⟨y, v, rfl, rfl⟩
    refine ⟨_, rfl, _, rfl, a, _, rfl, .inl hS, fun c hc => ⟨sml 3, fun h hh => ?_⟩⟩
    have nc : c ≠ h := fun e => by rw [e, upd_same] at hh; cases hh
    have hh0 : H' h = none := by rw [upd_ne nc.symm] at hh; exact hh
    refine q h c _ hh0 hc ((Same.new hc).trans (Same.new hh)) ⟨y, 0, ns, upd_same, ?_, h63⟩
    rw [upd_ne nc, upd_same]
end
end K18

namespace K18
open PySem PySem.Spec PyProof.Rows L2 Ov
section
variable {P : Program} {w : World} {K : PySem.W.Frag} {mg : Str → Option Value} {base : Heap}
/-! ### the tables -/
theorem arms_at (T : Txt w K mg) (o : Op) : KDct K w (He.ga K "ARMS") o.name (.int (o.arity : Int)) := by
  obtain ⟨es, n, D⟩ := T.kd_ARMS
  have hm : ((o.name, .int (o.arity : Int)) : Str × He.Dv) ∈ kv_ARMS := by cases o <;> simp [kv_ARMS, Op.name, Op.arity]
  obtain ⟨u, h1, h2⟩ := He.valsB_ok T.v_ARMS hm
  exact ⟨es, n, u, D.at_, D.lit, h1, h2⟩
theorem arms_in (T : Txt w K mg) (o : Op) : ∃ r, PySem.W.nsIn K (He.ga K "ARMS") o.name = some r ∧ r.isSome = true := by
  have hm : ((o.name, .int (o.arity : Int)) : Str × He.Dv) ∈ kv_ARMS := by cases o <;> simp [kv_ARMS, Op.name, Op.arity]
  obtain ⟨u, h1, h2⟩ := He.valsB_ok T.v_ARMS hm
  exact ⟨some u, h1, rfl⟩
def gword (o : Op) : Str := if o = .num then "number" else "function"
theorem given_mem (o : Op) (h : o.gives = true) : ((o.name, .str (gword o)) : Str × He.Dv) ∈ kv_GIVEN := by cases o <;> first | (simp [kv_GIVEN, Op.name, gword]; done) | cases h
theorem given_at (T : Txt w K mg) (o : Op) (h : o.gives = true) : KDct K w (He.ga K "GIVEN") o.name (.str (gword o)) := by
  obtain ⟨es, n, D⟩ := T.kd_GIVEN
  obtain ⟨u, h1, h2⟩ := He.valsB_ok T.v_GIVEN (given_mem o h)
  exact ⟨es, n, u, D.at_, D.lit, h1, h2⟩
theorem given_in (T : Txt w K mg) (o : Op) : ∃ r, PySem.W.nsIn K (He.ga K "GIVEN") o.name = some r ∧ r.isSome = o.gives := by
  cases h : o.gives with
  | true =>
    obtain ⟨u, h1, h2⟩ := He.valsB_ok T.v_GIVEN (given_mem o h)
    exact ⟨some u, h1, rfl⟩
  | false =>
    have hm : o.name ∈ miss_GIVEN := by cases o <;> first | (simp [miss_GIVEN, Op.name]; done) | cases h
    exact ⟨none, He.eqO_ok (List.all_eq_true.mp T.m_GIVEN _ hm), rfl⟩
theorem sc_between : FnScope ["value", "low", "high"] ["value", "low", "high"] (defScope s_between) := ⟨rfl, rfl, rfl, by decide +kernel, rfl, by decide +kernel, by decide +kernel⟩
-- 0 value, 1 low, 2 high
theorem ok_between (T : Txt w K mg) : FnOk P w K mg base CX0 1 (He.ga K "between") (fdOf K d_between) ["value", "low", "high"] spBetween := by
  refine T.F_between.ok sc_between (fun vs H Q E h => ?_) (fun cdv A outer s H vs Q E hr h => ?_)
  · obtain ⟨v, lo, hi, rfl, _⟩ := h
    rfl
  obtain ⟨v, lo, hi, rfl, q⟩ := h
  refine ⟨_, PSs.nox (pss_one (ps_ret (pe_and (pe_callB (r := rIsi K) call_isi (by rfl) T.z_isinstance (by decide +kernel) (pa_cons (pv 0) (pa_cons (pe_bltn (v := .ty "int") (by rfl) T.z_int (by decide +kernel) rfl) pa_nil))) (pe_and (pe_not (pe_callB (r := rIsi K) call_isi (by rfl) T.z_isinstance (by decide +kernel) (pa_cons (pv 0) (pa_cons (pe_bltn (v := .ty "bool") (by rfl) T.z_bool (by decide +kernel) rfl) pa_nil)))) (pe_one (pe_chain op_le op_le (pv 1) (pv 0) (pv 2))))))), ?_⟩
  refine ⟨_, rfl, .int v, .ty "int", .type "int", .type "int", true, rfl, .ty _, .base (.int v), k_int_int, true, rfl, ?_⟩
  refine ⟨_, rfl, .int v, .ty "bool", .type "int", .type "bool", false, rfl, .ty _, .base (.int v), k_int_bool, false, rfl, true, rfl, ?_⟩
  refine ⟨_, rfl, _, rfl, lo, v, rfl, rfl, _, rfl, ?_⟩
  refine ite2 (fun a => ?_) (fun a => ?_)
  · have a1 : lo ≤ v := of_decide_eq_true a
    refine ⟨_, rfl, v, hi, rfl, rfl, ?_⟩
    show Q (.bl (decide (v ≤ hi))) H
    rw [show decide (v ≤ hi) = decide (lo ≤ v ∧ v ≤ hi) by simp [a1]]
    exact q
  · have a1 : ¬ lo ≤ v := of_decide_eq_false (Bool.eq_false_iff.mpr a)
    show Q (.bl false) H
    rw [show false = decide (lo ≤ v ∧ v ≤ hi) by simp [a1]]
    exact q
theorem sc_given_of : FnScope ["word"] ["word"] (defScope s_given_of) := ⟨rfl, rfl, rfl, by decide +kernel, rfl, by decide +kernel, by decide +kernel⟩
-- 0 word
theorem ok_given_of (T : Txt w K mg) : FnOk P w K mg base CX0 1 (He.ga K "given_of") (fdOf K d_given_of) ["word"] spGivenOf := by
  refine T.F_given_of.ok sc_given_of (fun vs H Q E h => ?_) (fun cdv A outer s H vs Q E hr h => ?_)
  · obtain ⟨a, o, g, us, rfl, _⟩ := h
    rfl
  obtain ⟨a, o, g, us, rfl, ⟨ha, hl⟩, q⟩ := h
  obtain ⟨es, n, D_GIVEN⟩ := T.kd_GIVEN
  obtain ⟨r, hr1, hr2⟩ := given_in T o
  refine ⟨_, PSs.nox (pss_one (ps_ret (pe_ifExp (pt_cmpR (r := Ov.rInKd K (He.ga K "GIVEN") false) (op_in_kd D_GIVEN) (pe_ix (r := rIxT K) ix_tup (pv 0) pe_int (fun _ _ => rfl)) (pe_glob (v := .ref (He.ga K "GIVEN")) (by rfl) T.g_GIVEN rfl) (by first | rfl | exact nomark _)) (pe_ix (r := rIxT K) ix_tup (pv 0) pe_int (fun _ _ => rfl)) pe_non))), ?_⟩
  refine ⟨_, rfl, a, _, 0, .str o.name, rfl, rfl, SqT.of ha, atI_nat (j := 0) rfl, o.name, r, rfl, rfl, hr1, _, rfl, ?_⟩
  unfold Op.gV at q
  rw [← hr2] at q
  refine ite2 (fun z => ?_) (fun z => ?_)
  · have z1 : r.isSome = true := z
    rw [z1] at q hr2
    have eg : o.pre g = [.int g] := by unfold Op.pre; rw [← hr2]; rfl
    refine ⟨_, rfl, a, _, 1, .int g, rfl, rfl, SqT.of ha, atI_nat (j := 1) (by rw [eg]; rfl), q⟩
  · have z1 : r.isSome = false := Bool.eq_false_iff.mpr z
    rw [z1] at q
    exact q
theorem sc_arms_of : FnScope ["word"] ["word"] (defScope s_arms_of) := ⟨rfl, rfl, rfl, by decide +kernel, rfl, by decide +kernel, by decide +kernel⟩
-- 0 word
theorem ok_arms_of (T : Txt w K mg) : FnOk P w K mg base CX0 1 (He.ga K "arms_of") (fdOf K d_arms_of) ["word"] spArmsOf := by
  refine T.F_arms_of.ok sc_arms_of (fun vs H Q E h => ?_) (fun cdv A outer s H vs Q E hr h => ?_)
  · obtain ⟨a, o, g, us, rfl, _⟩ := h
    rfl
  obtain ⟨a, o, g, us, rfl, ⟨ha, hl⟩, q⟩ := h
  refine ⟨_, PSs.nox (pss_one (ps_ret (pe_slice (r := rSlA K) sl_tupA (pv 0) (po_some (pe_op op_sub (pe_callB (r := Evl.rLenS K) call_len_seq (by rfl) T.z_len PySem.boot_len (pa_cons (pv 0) pa_nil)) (pe_ix (r := rIxD K w) ix_kdict (pe_glob (v := .ref (He.ga K "ARMS")) (by rfl) T.g_ARMS rfl) (pe_ix (r := rIxT K) ix_tup (pv 0) pe_int (fun _ _ => rfl)) (fun _ _ => rfl)))) po_none))), ?_⟩
  refine ⟨_, rfl, _, rfl, a, _, rfl, .inr (SqT.of ha), _, rfl, a, _, 0, .str o.name, rfl, rfl, SqT.of ha, atI_nat (j := 0) rfl, _, o.name, _, rfl, rfl, arms_at T o, _, _, rfl, rfl, _, rfl, ?_⟩
  have hn : (.str o.name :: (o.pre g ++ us) : List V).length = 1 + (o.pre g).length + us.length := by rw [List.length_cons, List.length_append]; omega
  have ec : (((.str o.name :: (o.pre g ++ us) : List V).length : Nat) : Int) - (o.arity : Int) = (((1 + (o.pre g).length : Nat)) : Int) := by rw [hn, ← hl]; omega
  have es : HT.sIx (.str o.name :: (o.pre g ++ us) : List V).length 0 (some ((((.str o.name :: (o.pre g ++ us) : List V).length : Nat) : Int) - (o.arity : Int))) = 1 + (o.pre g).length := by
    rw [ec, HT.sIx_nat, hn]
    omega
  refine ⟨a, _, rfl, SqT.of ha, fun z => ?_, fun _ p hp => ?_⟩
  · have z1 := z.1
    rw [es] at z1
    omega
  · have ecut : cutV (.str o.name :: (o.pre g ++ us) : List V) (some ((((.str o.name :: (o.pre g ++ us) : List V).length : Nat) : Int) - (o.arity : Int))) none = us := by
      unfold cutV
      rw [es, HT.sIx_none, hn]
      have e1 : (.str o.name :: (o.pre g ++ us) : List V).drop (1 + (o.pre g).length) = us := by
        rw [Nat.add_comm, List.drop_succ_cons, List.drop_left]
      rw [e1, show 1 + (o.pre g).length + us.length - (1 + (o.pre g).length) = us.length by omega, List.take_length]
    rw [ecut]
    exact q p hp
theorem sc_given_fits : FnScope ["kind", "given", "functions"] ["kind", "given", "functions"] (defScope s_given_fits) := ⟨rfl, rfl, rfl, by decide +kernel, rfl, by decide +kernel, by decide +kernel⟩
-- 0 kind, 1 given, 2 functions
theorem ok_given_fits (T : Txt w K mg) : FnOk P w K mg base CX0 2 (He.ga K "given_fits") (fdOf K d_given_fits) ["kind", "given", "functions"] spGivenFits := by
  have G_between := ok_between (P := P) (base := base) T
  refine T.F_given_fits.ok sc_given_fits (fun vs H Q E h => ?_) (fun cdv A outer s H vs Q E hr h => ?_)
  · obtain ⟨o, g, n, rfl, _⟩ := h
    rfl
  obtain ⟨o, g, n, rfl, hg, hf, q⟩ := h
  refine ⟨_, PSs.nox (pss_cons (ps_if (pt_cmpR op_eq (pv 0) pe_str (nomark _)) (pss_one (ps_ret (pe_call G_between (hr.mono (by omega)) (by rfl) T.g_between T.kp_between T.b_between .nil pass0 (pa_cons (pv 1) (pa_cons pe_int (pa_cons (pe_op op_sub (pv 2) pe_int) pa_nil)))))) pss_nil)
      (pss_one (ps_ret (pe_call G_between (hr.mono (by omega)) (by rfl) T.g_between T.kp_between T.b_between .nil pass0 (pa_cons (pv 1) (pa_cons pe_int (pa_cons (pe_glob (v := .int 99) (by rfl) T.i_GREATEST_WRITTEN.choose_spec ⟨_, rfl⟩) pa_nil))))))), ?_⟩
  refine ⟨_, rfl, rfl, _, rfl, ?_⟩
  have no : decide (V.str "number" = V.str "function") = false := by decide +kernel
  have yes : decide (V.str "function" = V.str "function") = true := decide_eq_true rfl
  cases o with
  | num =>
    rw [if_pos rfl, no]
    refine iteF ?_
    refine ⟨_, rfl, g, 0, 99, rfl, ?_⟩
    rw [decide_eq_true (show (0 : Int) ≤ g ∧ g ≤ 99 from hf)]
    exact q
  | way =>
    rw [if_neg (by decide), yes]
    have hf2 : 0 ≤ g ∧ g < n := hf
    refine ⟨_, rfl, _, rfl, _, 1, rfl, rfl, g, 0, _, rfl, ?_⟩
    rw [decide_eq_true (show (0 : Int) ≤ g ∧ g ≤ (n : Int) - 1 from ⟨hf2.1, by omega⟩)]
    exact q
  | call =>
    rw [if_neg (by decide), yes]
    have hf2 : 0 ≤ g ∧ g < n := hf
    refine ⟨_, rfl, _, rfl, _, 1, rfl, rfl, g, 0, _, rfl, ?_⟩
    rw [decide_eq_true (show (0 : Int) ≤ g ∧ g ≤ (n : Int) - 1 from ⟨hf2.1, by omega⟩)]
    exact q
  | _ => cases hg
end
end K18

namespace K18
open PySem PySem.Spec PyProof.Rows L2 Ov
section
variable {P : Program} {w : World} {K : PySem.W.Frag} {mg : Str → Option Value} {base : Heap}
theorem sc_add_word : FnScope ["rows", "word", "number", "arms", "arm"] ["rows", "word"] (defScope s_add_word) := ⟨rfl, rfl, rfl, by decide +kernel, rfl, by decide +kernel, by decide +kernel⟩
-- 0 rows, 1 word, 2 number, 3 arms, 4 arm
theorem ok_add_wordS (T : Txt w K mg) {d : Nat} (G_add_word : FnOk P w K mg base CX0 (d + 1) (He.ga K "add_word") (fdOf K d_add_word) ["rows", "word"] (spAddWord d)) :
    FnOk P w K mg base CX0 (d + 2) (He.ga K "add_word") (fdOf K d_add_word) ["rows", "word"] (spAddWord (d + 1)) := by
  have G_arms_of := ok_arms_of (P := P) (base := base) T
  have G_given_of := ok_given_of (P := P) (base := base) T
  refine T.F_add_word.ok sc_add_word (fun vs H Q E h => ?_) (fun cdv A outer s H vs Q E hr h => ?_)
  · obtain ⟨l, v, n, u, xs, rfl, _⟩ := h
    rfl
  obtain ⟨l, v, n, u, xs, rfl, hl, hv, ok, hz, q⟩ := h
  cases hv with
  | @mk a o g vs as ha hs =>
  cases ok with
  | mk h1 h2 h3 =>
  have hlen := hs.length
  rw [W.size_mk] at hz
  have has : as.length ≤ 3 := by rw [h1]; cases o <;> decide
  refine ⟨_, PSs.nox (pss_cons (ps_set (i := 2) sc_add_word.nd rfl (by first | exact Or.inl rfl | exact Or.inr rfl) (pe_callB (r := Evl.rLenS K) call_len_seq (by rfl) T.z_len PySem.boot_len (pa_cons (pv 0) pa_nil)))
      (pss_cons (ps_expr (Ov.pe_bmK (K := K) rfl PySem.F.plainAttrs_list PySem.F.slot_list_append PySem.F.type_list_append mt_append (pv 0) (pa_cons pe_non pa_nil)))
      (pss_cons (ps_set (i := 3) sc_add_word.nd rfl (by first | exact Or.inl rfl | exact Or.inr rfl) (pe_lst pa_nil))
      (pss_cons (ps_for PassesOwn.never rfl (Ov.pi_tupK (K := K) rfl (pe_call G_arms_of (hr.mono (by omega)) (by rfl) T.g_arms_of T.kp_arms_of T.b_arms_of .nil pass0 (pa_cons (pv 1) pa_nil))) (pg_name (i := 4) sc_add_word.nd rfl (by first | exact Or.inl rfl | exact Or.inr rfl)) (pss_one (ps_expr (Ov.pe_bmK (K := K) rfl PySem.F.plainAttrs_list PySem.F.slot_list_append PySem.F.type_list_append mt_append (pv 3) (pa_cons (pe_call G_add_word (hr.mono (by omega)) (by rfl) T.g_add_word T.kp_add_word T.b_add_word .nil pass0 (pa_cons (pv 0) (pa_cons (pv 4) pa_nil))) pa_nil)))))
      (pss_cons (ps_asg (pe_tup (pa_cons (pe_ix (r := rIxT K) ix_tup (pv 1) pe_int (fun _ _ => rfl)) (pa_cons (pe_call G_given_of (hr.mono (by omega)) (by rfl) T.g_given_of T.kp_given_of T.b_given_of .nil pass0 (pa_cons (pv 1) pa_nil)) (pa_cons (pe_callTy (r := Ov.rTupS K) call_tuple_of (by rfl) T.z_tuple (by decide +kernel) (pa_cons (pv 3) pa_nil)) pa_nil)))) (pg_sub (pv 0) (pv 2) set_list))
      (pss_one (ps_ret (pv 2)))))))), ?_⟩
  refine ⟨_, rfl, l, xs, rfl, .inl (SqL.of hl), ?_⟩
  refine ⟨_, rfl, .inl ⟨rfl, _, SqL.of hl⟩, l, xs, _, rfl, rfl, hl, sm _ (by omega), sml 0, fun al hal => ?_⟩
  have nal : l ≠ al := ne_of_none upd_same hal
  have hal0 : H al = none := by rw [upd_ne nal.symm] at hal; exact hal
  have b1 : ButL l H (upd (upd H l (.lst (xs ++ [.non]))) al (.lst [])) := ButL.upd.trans (.same (Same.new hal))
  have hl1 : (upd (upd H l (.lst (xs ++ [.non]))) al (.lst [])) l = some (.lst (xs ++ [.non])) := by rw [upd_ne nal, upd_same]
  have nla : a ≠ l := ne_of ha hl (by intro z; cases z)
  have ha1 := b1 a _ nla ha
  refine ⟨_, rfl, a, o, g, vs, rfl, ⟨ha1, hlen.trans h1⟩, fun p hp => ?_⟩
  have npl : l ≠ p := ne_of_none hl1 hp
  have npa : al ≠ p := ne_of_none upd_same hp
  refine ⟨p, rfl, ⟨_, SqT.of upd_same⟩, for_tup (K := K) (a := p) (xs := vs) (fun i σ H' => ∃ (y4 : Option V) (ys : List V), σ = [some (.ref l), some (.ref a), some (.int (xs.length : Int)), some (.ref al), y4] ∧ ButL l H H' ∧ H' l = some (.lst (xs ++ [.non] ++ ys)) ∧ Paired (RowAt H') ys (W.rowss (xs.length + 1) (as.take i)) ∧ H' al = some (.lst (nV (starts (xs.length + 1) (as.take i)))) ∧ H' p = some (.tup vs))
    ⟨none, [], rfl, b1.trans (.same (Same.new hp)), by rw [upd_ne npl, hl1, List.append_nil], by rw [List.take_zero, W.rowss]; exact .nil, by rw [upd_ne npa, upd_same]; rfl, upd_same⟩ (fun i σ H' _ ⟨_, _, _, _, _, _, _, e⟩ => SqT.of e) ?_ ?_⟩
  · rintro i x σ H1 hi ⟨y4, ys, rfl, b2, hl2, hys, hal2, hp2⟩
    obtain ⟨u, hu, hxu⟩ := WsAt.get hs hi
    have hlr := Paired.length hys
    rw [W.rowss_len] at hlr
    have hsz := size_get as i u hu
    have hlx : (xs ++ [.non] ++ ys : List V).length = xs.length + 1 + W.sizes (as.take i) := by rw [List.length_append, List.length_append, hlr]; rfl
    refine ⟨_, rfl, .inl ⟨rfl, _, SqL.of hal2⟩, _, rfl, _, rfl, l, x, n, u, xs ++ [.non] ++ ys, rfl, hl2, hxu.keep (b2.keep hl), h3 u (List.mem_of_getElem? hu), by rw [hlx]; omega, fun H3 zs b3 hl3 hzs => ?_⟩
    have hal3 := b3 _ _ nal.symm hal2
    have k3 := b3.keep hl2
    have kL := Keep.updL (ys := nV (starts (xs.length + 1) (as.take i)) ++ [V.int ((xs ++ [.non] ++ ys : List V).length : Int)]) hal3
    refine ⟨al, _, _, rfl, rfl, hal3, sm _ (by rw [nV_len, starts_len, List.length_take]; omega), _, ys ++ zs, rfl, ?_, ?_, ?_, ?_, ?_⟩
    · exact fun c u' n1 e => by rw [upd_ne (ne_of_none e hal0)]; exact (b2.trans b3) c u' n1 e
    · rw [upd_ne nal, hl3, List.append_assoc _ ys zs]
    · rw [List.take_add_one, hu]
      show Paired _ _ (W.rowss (xs.length + 1) (as.take i ++ [u]))
      rw [rowss_snoc]
      refine paired_app (L2.Paired.mapP hys fun _ _ z => z.keep (k3.trans kL)) ?_
      rw [hlx] at hzs
      exact L2.Paired.mapP hzs fun _ _ z => z.keep kL
    · rw [upd_same, List.take_add_one, hu]
      show some (HO.lst _) = some (HO.lst (nV (starts (xs.length + 1) (as.take i ++ [u]))))
      rw [starts_snoc, nV_app, hlx]
    · rw [upd_ne (ne_of hp2 hal2 (by intro z; cases z)).symm.symm]
      exact b3 _ _ npl.symm hp2
  · rintro σ H1 ⟨y4, ys, rfl, b2, hl2, hys, hal2, hp2⟩
    rw [hlen, List.take_length] at hys hal2
    have ha2 := b2 a _ nla ha
    refine ⟨_, rfl, a, _, 0, .str o.name, rfl, rfl, SqT.of ha2, atI_nat (j := 0) rfl, _, rfl, a, o, g, vs, rfl, ⟨ha2, hlen.trans h1⟩, _, rfl, al, _, rfl, .inl ⟨SqL.of hal2, fun ta hta => ⟨sml 3, fun t ht => ?_⟩⟩⟩
    have s3 := (Same.new (o := .tup (nV (starts (xs.length + 1) as))) hta).trans (Same.new (o := .tup [.str o.name, o.gV g, .ref ta]) ht)
    have hl3 := s3 _ _ hl2
    refine ⟨_, rfl, _, rfl, l, _, _, xs.length, rfl, rfl, hl3, Evl.ixN_nat (by rw [List.length_append, List.length_append, List.length_singleton]; omega), _, rfl, ?_⟩
    have kL := Keep.updL (ys := (xs ++ [V.non] ++ ys).set xs.length (V.ref t)) hl3
    refine q _ (.ref t :: ys) ((b2.trans (.same s3)).trans ButL.upd) (by rw [upd_same, set_mid]) ?_
    rw [W.rows_mk]
    have nta : ta ≠ t := ne_of_none upd_same ht
    exact .cons ⟨t, ta, rfl, kL _ _ upd_same, kL _ _ (by rw [upd_ne nta, upd_same])⟩ (L2.Paired.mapP hys fun _ _ z => z.keep ((Keep.same s3).trans kL))
theorem ok_add_word (T : Txt w K mg) : ∀ d : Nat, FnOk P w K mg base CX0 (d + 1) (He.ga K "add_word") (fdOf K d_add_word) ["rows", "word"] (spAddWord d)
  | 0 => fn0 fun vs H Q E ⟨_, _, _, _, _, _, _, _, h, _⟩ => nomatch h
  | d + 1 => ok_add_wordS T (ok_add_word T d)
theorem sc_words_of : FnScope ["body", "rows"] ["body"] (defScope s_words_of) := ⟨rfl, rfl, rfl, by decide +kernel, rfl, by decide +kernel, by decide +kernel⟩
-- 0 body, 1 rows
theorem ok_words_of (T : Txt w K mg) : FnOk P w K mg base CX0 9 (He.ga K "words_of") (fdOf K d_words_of) ["body"] spWordsOf := by
  have G_add_word := ok_add_word (P := P) (base := base) T 7
  refine T.F_words_of.ok sc_words_of (fun vs H Q E h => ?_) (fun cdv A outer s H vs Q E hr h => ?_)
  · obtain ⟨v, n, u, rfl, _⟩ := h
    rfl
  obtain ⟨v, n, u, rfl, hv, ok, hz, q⟩ := h
  refine ⟨_, PSs.nox (pss_cons (ps_set (i := 1) sc_words_of.nd rfl (by first | exact Or.inl rfl | exact Or.inr rfl) (pe_lst pa_nil))
      (pss_cons (ps_expr (pe_call G_add_word (hr.mono (by omega)) (by rfl) T.g_add_word T.kp_add_word T.b_add_word .nil pass0 (pa_cons (pv 1) (pa_cons (pv 0) pa_nil))))
      (pss_one (ps_ret (pv 1))))), ?_⟩
  refine ⟨sml 0, fun l hl => ⟨_, rfl, _, rfl, l, v, n, u, [], rfl, upd_same, hv.keep (Keep.same (Same.new hl)), ok, by show 0 + u.size ≤ 1000; omega, fun H' ys b e r => ⟨_, rfl, ?_⟩⟩⟩
  exact q H' l ys (fun a o h => b a o (ne_of_none h hl) (Same.new hl a o h)) hl e r
theorem sc_word_fits : FnScope ["word", "functions", "around", "name", "ahead", "arm"] ["word", "functions", "around"] (defScope s_word_fits) := ⟨rfl, rfl, rfl, by decide +kernel, rfl, by decide +kernel, by decide +kernel⟩
-- 0 word, 1 functions, 2 around, 3 name, 4 ahead, 5 arm
theorem ok_word_fitsS (T : Txt w K mg) {d : Nat} (G_word_fits : FnOk P w K mg base CX0 (d + 2) (He.ga K "word_fits") (fdOf K d_word_fits) ["word", "functions", "around"] (spWordFits d)) :
    FnOk P w K mg base CX0 (d + 3) (He.ga K "word_fits") (fdOf K d_word_fits) ["word", "functions", "around"] (spWordFits (d + 1)) := by
  have G_arms_of := ok_arms_of (P := P) (base := base) T
  have G_given_fits := ok_given_fits (P := P) (base := base) T
  obtain ⟨_, _, D_ARMS⟩ := T.kd_ARMS
  obtain ⟨_, _, D_GIVEN⟩ := T.kd_GIVEN
  refine T.F_word_fits.ok sc_word_fits (fun vs H Q E h => ?_) (fun cdv A outer s H vs Q E hr h => ?_)
  · obtain ⟨v, n, u, r, rfl, _⟩ := h
    rfl
  obtain ⟨v, n, u, r, rfl, hv, ok, r0, r7, q⟩ := h
  cases hv with
  | @mk a o g vs as ha hs =>
  cases ok with
  | mk h1 h2 h3 =>
  have hlen := hs.length
  obtain ⟨ra, ra1, ra2⟩ := arms_in T o
  obtain ⟨rg, rg1, rg2⟩ := given_in T o
  refine ⟨_, PSs.nox (pss_cons (ps_if (PW.pt (pw_or (pt_cmpR op_gt (pv 2) (pe_glob (v := .int 6) (by rfl) T.i_MOST_AROUND.choose_spec ⟨_, rfl⟩) (nomark _)) (pw_or (pt_not (pt_val (pe_callB (r := rIsi K) call_isi (by rfl) T.z_isinstance (by decide +kernel) (pa_cons (pv 0) (pa_cons (pe_bltn (v := .ty "tuple") (by rfl) T.z_tuple (by decide +kernel) rfl) pa_nil))))) (pw_or1 (pt_cmpR op_eq (pe_callB (r := Evl.rLenS K) call_len_seq (by rfl) T.z_len PySem.boot_len (pa_cons (pv 0) pa_nil)) pe_int (nomark _)))))) (pss_one (ps_ret pe_bl)) pss_nil)
      (pss_cons (ps_set (i := 3) sc_word_fits.nd rfl (by first | exact Or.inl rfl | exact Or.inr rfl) (pe_ix (r := rIxT K) ix_tup (pv 0) pe_int (fun _ _ => rfl)))
      (pss_cons (ps_if (PW.pt (pw_or (pt_not (pt_val (pe_callB (r := rIsi K) call_isi (by rfl) T.z_isinstance (by decide +kernel) (pa_cons (pv 3) (pa_cons (pe_bltn (v := .ty "str") (by rfl) T.z_str (by decide +kernel) rfl) pa_nil))))) (pw_or1 (pt_cmpR (r := Ov.rInKd K (He.ga K "ARMS") true) (op_notIn_kd D_ARMS) (pv 3) (pe_glob (v := .ref (He.ga K "ARMS")) (by rfl) T.g_ARMS rfl) (by first | rfl | exact nomark _))))) (pss_one (ps_ret pe_bl)) pss_nil)
      (Evl.pss_cut (ps_if (pt_cmpR (r := Ov.rInKd K (He.ga K "GIVEN") true) (op_notIn_kd D_GIVEN) (pv 3) (pe_glob (v := .ref (He.ga K "GIVEN")) (by rfl) T.g_GIVEN rfl) (by first | rfl | exact nomark _)) (pss_one (ps_set (i := 4) sc_word_fits.nd rfl (by first | exact Or.inl rfl | exact Or.inr rfl) pe_int)) (pss_one (ps_if (PW.pt (pw_and (pt_cmpR op_gt (pe_callB (r := Evl.rLenS K) call_len_seq (by rfl) T.z_len PySem.boot_len (pa_cons (pv 0) pa_nil)) pe_int (nomark _)) (pw_and1 (pt_val (pe_call G_given_fits (hr.mono (by omega)) (by rfl) T.g_given_fits T.kp_given_fits T.b_given_fits .nil pass0 (pa_cons (pe_ix (r := rIxD K w) ix_kdict (pe_glob (v := .ref (He.ga K "GIVEN")) (by rfl) T.g_GIVEN rfl) (pv 3) (fun _ _ => rfl)) (pa_cons (pe_ix (r := rIxT K) ix_tup (pv 0) pe_int (fun _ _ => rfl)) (pa_cons (pv 1) pa_nil)))))))) (pss_one (ps_set (i := 4) sc_word_fits.nd rfl (by first | exact Or.inl rfl | exact Or.inr rfl) pe_int)) (pss_one (ps_ret pe_bl)))))
      (pss_cons (ps_if (pt_cmpR op_ne (pe_callB (r := Evl.rLenS K) call_len_seq (by rfl) T.z_len PySem.boot_len (pa_cons (pv 0) pa_nil)) (pe_op op_add (pv 4) (pe_ix (r := rIxD K w) ix_kdict (pe_glob (v := .ref (He.ga K "ARMS")) (by rfl) T.g_ARMS rfl) (pv 3) (fun _ _ => rfl))) (nomark _)) (pss_one (ps_ret pe_bl)) pss_nil)
      (pss_one (ps_ret (pe_callB (r := rAll K) (cr_all rfl) (by rfl) T.z_all (by decide +kernel) (pa_cons (pe_lc (own := [("arm", 5)]) rfl sc_word_fits.nd (Ov.pi_tupK (K := K) rfl (pe_call G_arms_of (hr.mono (by omega)) (by rfl) T.g_arms_of T.kp_arms_of T.b_arms_of .nil pass0 (pa_cons (pv 0) pa_nil))) (blkOk_by (own := [("arm", 5)]) (N := ["word", "functions", "around", "name", "ahead", "arm"]) (sc := defScope s_word_fits) (by decide +kernel)) (fun _ _ _ _ _ => (pg_name (i := 5) sc_word_fits.nd rfl (by first | exact Or.inl rfl | exact Or.inr rfl))) (fun _ _ _ _ _ => pts_nil) (fun _ _ _ _ _ => (pe_call G_word_fits (hr.mono (by omega)) (by rfl) T.g_word_fits T.kp_word_fits T.b_word_fits .nil pass0 (pa_cons (pv 5) (pa_cons (pv 1) (pa_cons (pe_op op_add (pv 2) pe_int) pa_nil)))))) pa_nil))))))))), ?_⟩
  have e6 : decide ((6 : Int) < r) = false := decide_eq_false (by omega)
  have hn : (.str o.name :: (o.pre g ++ vs) : List V).length = 1 + (o.pre g).length + o.arity := by rw [List.length_cons, List.length_append, hlen, h1]; omega
  have l0 : decide (V.int (((.str o.name :: (o.pre g ++ vs) : List V).length : Nat) : Int) = V.int 0) = false := decide_eq_false fun z => by
    have z1 := V.int.inj z
    rw [hn] at z1
    omega
  refine ⟨_, rfl, r, 6, rfl, rfl, _, rfl, ?_⟩
  rw [e6]
  refine iteF ⟨_, rfl, _, .ty "tuple", .type "tuple", .type "tuple", true, rfl, .ty _, .base (.tup ha), k_tuple_tuple, true, rfl, ?_⟩
  refine iteF ⟨_, rfl, a, _, rfl, .inr (SqT.of ha), rfl, _, rfl, ?_⟩
  rw [l0]
  refine iteF ?_
  refine ⟨_, rfl, a, _, 0, .str o.name, rfl, rfl, SqT.of ha, atI_nat (j := 0) rfl, ?_⟩
  refine ⟨_, rfl, .str o.name, .ty "str", .type "str", .type "str", true, rfl, .ty _, .base (.str _), k_str_str, true, rfl, ?_⟩
  refine iteF ⟨_, rfl, o.name, ra, rfl, rfl, ra1, _, rfl, ?_⟩
  rw [ra2]
  refine iteF ?_
  have epre : (o.pre g).length = if o.gives then 1 else 0 := by
    unfold Op.pre
    split <;> rfl
  refine ⟨fun σ' H' => σ' = [some (.ref a), some (.int (n : Int)), some (.int r), some (.str o.name), some (.int ((1 + (o.pre g).length : Nat) : Int)), none] ∧ H' = H, ?_, ?_⟩
  · refine ⟨_, rfl, o.name, rg, rfl, rfl, rg1, _, rfl, ?_⟩
    show if (!rg.isSome) = true then _ else _
    rw [rg2]
    cases hg : o.gives with
    | false =>
      refine ⟨?_, rfl⟩
      rw [epre, hg]
      rfl
    | true =>
      have egp : o.pre g = [.int g] := by unfold Op.pre; rw [hg]; rfl
      have l1 : decide ((1 : Int) < (((.str o.name :: (o.pre g ++ vs) : List V).length : Nat) : Int)) = true := decide_eq_true (by rw [hn, egp, List.length_singleton]; omega)
      refine ⟨_, rfl, a, _, rfl, .inr (SqT.of ha), _, 1, rfl, rfl, _, rfl, ?_⟩
      show if decide ((1 : Int) < (((.str o.name :: (o.pre g ++ vs) : List V).length : Nat) : Int)) = true then _ else _
      rw [l1]
      refine ⟨_, rfl, _, o.name, .str (gword o), rfl, rfl, given_at T o hg, _, rfl, a, _, 1, .int g, rfl, rfl, SqT.of ha, atI_nat (j := 1) (by rw [egp]; rfl), _, rfl, o, g, n, rfl, hg, h2, true, rfl, ?_⟩
      refine ⟨?_, rfl⟩
      rw [epre, hg]
      rfl
  rintro σ1 H1 ⟨rfl, rfl⟩
  have lne : (!decide (V.int (((.str o.name :: (o.pre g ++ vs) : List V).length : Nat) : Int) = V.int (((1 + (o.pre g).length : Nat) : Int) + (o.arity : Int)))) = false := by
    rw [decide_eq_true (congrArg V.int (by rw [hn]; omega))]
    rfl
  refine ⟨_, rfl, a, _, rfl, .inr (SqT.of ha), _, rfl, _, rfl, _, o.name, _, rfl, rfl, arms_at T o, _, _, rfl, rfl, rfl, _, rfl, ?_⟩
  rw [lne]
  refine iteF ?_
  refine ⟨_, rfl, a, o, g, vs, rfl, ⟨ha, hlen.trans h1⟩, fun p hp => ⟨p, rfl, ⟨_, SqT.of upd_same⟩, fun D hD => ?_⟩⟩
  have npD : p ≠ D := ne_of_none upd_same hD
  have sp := Same.new (o := .tup vs) hp
  refine lc_tupY (K := K) (a := p) (xs := vs) (fun i H' => Same H1 H' ∧ H' p = some (.tup vs) ∧ H' D = some (.lst ((List.replicate i true).map V.bl))) ⟨sp.trans (Same.new hD), by rw [upd_ne npD, upd_same], upd_same⟩ (fun i H' _ e => SqT.of e.2.1) ?_ ?_
  · rintro i x H2 hi ⟨s2, p2, e2⟩
    obtain ⟨u, hu, hxu⟩ := WsAt.get hs hi
    have hiv := (List.getElem?_eq_some_iff.mp hi).1
    have hv3 : vs.length ≤ 3 := by rw [hlen, h1]; cases o <;> decide
    have hD1 : H1 D = none := Same.free sp hD
    refine ⟨rfl, _, rfl, _, rfl, _, rfl, r, 1, rfl, rfl, x, n, u, r + 1, rfl, hxu.keep (Keep.same s2), h3 u (List.mem_of_getElem? hu), by omega, by omega, fun H3 s3 => ⟨_, s3 _ _ e2, sm _ (by rw [List.length_map, List.length_replicate]; omega), Ov.Same.updn (s2.trans s3) hD1, by rw [upd_ne npD]; exact s3 _ _ p2, ?_⟩⟩
    rw [upd_same, List.replicate_succ', List.map_append]
    rfl
  · rintro H2 ⟨s2, p2, e2⟩
    refine ⟨D, _, rfl, SqL.of e2, ?_⟩
    have eall : (List.replicate vs.length true).all id = true := by simp
    show Q (.bl ((List.replicate vs.length true).all id)) H2
    rw [eall]
    exact q H2 s2
theorem ok_word_fits (T : Txt w K mg) : ∀ d : Nat, FnOk P w K mg base CX0 (d + 2) (He.ga K "word_fits") (fdOf K d_word_fits) ["word", "functions", "around"] (spWordFits d)
  | 0 => fn0 fun vs H Q E ⟨_, _, _, _, _, _, h, _⟩ => nomatch h
  | d + 1 => ok_word_fitsS T (ok_word_fits T d)
theorem sc_function_fits : FnScope ["function", "functions", "size", "body"] ["function", "functions"] (defScope s_function_fits) := ⟨rfl, rfl, rfl, by decide +kernel, rfl, by decide +kernel, by decide +kernel⟩
-- 0 function, 1 functions, 2 size, 3 body
theorem ok_function_fits (T : Txt w K mg) : FnOk P w K mg base CX0 10 (He.ga K "function_fits") (fdOf K d_function_fits) ["function", "functions"] spFunctionFits := by
  have G_between := ok_between (P := P) (base := base) T
  have G_word_fits := ok_word_fits (P := P) (base := base) T 7
  have G_words_of := ok_words_of (P := P) (base := base) T
  refine T.F_function_fits.ok sc_function_fits (fun vs H Q E h => ?_) (fun cdv A outer s H vs Q E hr h => ?_)
  · obtain ⟨v, n, f, rfl, _⟩ := h
    rfl
  obtain ⟨v, n, f, rfl, ⟨b, bv, rfl, hb, hw⟩, ⟨f1, f8, fk, fz⟩, q⟩ := h
  refine ⟨_, PSs.nox (pss_cons (ps_if (PW.pt (pw_or (pt_not (pt_val (pe_callB (r := rIsi K) call_isi (by rfl) T.z_isinstance (by decide +kernel) (pa_cons (pv 0) (pa_cons (pe_bltn (v := .ty "tuple") (by rfl) T.z_tuple (by decide +kernel) rfl) pa_nil))))) (pw_or1 (pt_cmpR op_ne (pe_callB (r := Evl.rLenS K) call_len_seq (by rfl) T.z_len PySem.boot_len (pa_cons (pv 0) pa_nil)) pe_int (nomark _))))) (pss_one (ps_ret pe_bl)) pss_nil)
      (pss_cons (ps_asg (pv 0) (Ov.pg_tupK (K := K) (n := 2) rfl rfl (pgs_cons (pg_name (i := 2) sc_function_fits.nd rfl (by first | exact Or.inl rfl | exact Or.inr rfl)) (pgs_cons (pg_name (i := 3) sc_function_fits.nd rfl (by first | exact Or.inl rfl | exact Or.inr rfl)) pgs_nil))))
      (pss_cons (ps_if (PW.pt (pw_or (pt_not (pt_val (pe_call G_between (hr.mono (by omega)) (by rfl) T.g_between T.kp_between T.b_between .nil pass0 (pa_cons (pv 2) (pa_cons pe_int (pa_cons (pe_glob (v := .int 8) (by rfl) T.i_MOST_CELLS.choose_spec ⟨_, rfl⟩) pa_nil)))))) (pw_or1 (pt_not (pt_val (pe_call G_word_fits (hr.mono (by omega)) (by rfl) T.g_word_fits T.kp_word_fits T.b_word_fits .nil pass0 (pa_cons (pv 3) (pa_cons (pv 1) (pa_cons pe_int pa_nil))))))))) (pss_one (ps_ret pe_bl)) pss_nil)
      (pss_one (ps_ret (pe_cmpR op_le (pe_callB (r := Evl.rLenS K) call_len_seq (by rfl) T.z_len PySem.boot_len (pa_cons (pe_call G_words_of (hr.mono (by omega)) (by rfl) T.g_words_of T.kp_words_of T.b_words_of .nil pass0 (pa_cons (pv 3) pa_nil)) pa_nil)) (pe_glob (v := .int 40) (by rfl) T.i_MOST_WORDS.choose_spec ⟨_, rfl⟩) (nomark _))))))), ?_⟩
  refine ⟨_, rfl, _, .ty "tuple", .type "tuple", .type "tuple", true, rfl, .ty _, .base (.tup hb), k_tuple_tuple, true, rfl, ?_⟩
  refine iteF ⟨_, rfl, b, _, rfl, .inr (SqT.of hb), rfl, _, rfl, iteNS rfl ?_⟩
  refine ⟨_, rfl, b, _, rfl, SqT.of hb, rfl, _, _, rfl, _, _, rfl, rfl, ?_⟩
  refine ⟨_, rfl, f.1, 1, 8, rfl, _, rfl, ?_⟩
  rw [decide_eq_true (show (1 : Int) ≤ f.1 ∧ f.1 ≤ 8 from ⟨f1, f8⟩)]
  refine iteF ⟨_, rfl, _, rfl, bv, n, f.2, 0, rfl, hw, fk, by omega, by decide, fun H1 s1 => ⟨true, rfl, iteF ?_⟩⟩
  have hw1 := hw.keep (Keep.same s1)
  refine ⟨_, rfl, bv, n, f.2, rfl, hw1, fk, by omega, fun H2 p ys s2 hp he hr2 => ⟨p, ys, rfl, .inl (SqL.of he), _, 40, rfl, rfl, ?_⟩⟩
  have hl := Paired.length hr2
  rw [W.rows_len] at hl
  have e : decide ((ys.length : Int) ≤ 40) = true := decide_eq_true (by omega)
  show Q (.bl (decide ((ys.length : Int) ≤ 40))) H2
  rw [e]
  exact q H2 (s1.trans s2)
theorem sc_check_program : FnScope ["program", "number", "function"] ["program"] (defScope s_check_program) := ⟨rfl, rfl, rfl, by decide +kernel, rfl, by decide +kernel, by decide +kernel⟩
-- 0 program, 1 number, 2 function
theorem ok_check_program (T : Txt w K mg) : FnOk P w K mg base CX0 11 (He.ga K "check_program") (fdOf K d_check_program) ["program"] spCheckProgram := by
  have G_function_fits := ok_function_fits (P := P) (base := base) T
  refine T.F_check_program.ok sc_check_program (fun vs H Q E h => ?_) (fun cdv A outer s H vs Q E hr h => ?_)
  · obtain ⟨v, p, rfl, _⟩ := h
    rfl
  obtain ⟨v, p, rfl, ⟨a, vs, rfl, ha, hf⟩, ok, q⟩ := h
  have hl := Paired.length hf
  have l1 := ok.l1
  have l8 := ok.l8
  refine ⟨_, PSs.nox (pss_cons (ps_if (pt_cmpR op_eq (pe_callB (r := Evl.rLenS K) call_len_seq (by rfl) T.z_len PySem.boot_len (pa_cons (pv 0) pa_nil)) pe_int (nomark _)) (pss_one ps_never) pss_nil)
      (pss_one (ps_for PassesOwn.never rfl (Ov.pi_en (K := K) .t rfl (by rfl) T.z_enumerate (pa_cons (pv 0) pa_nil)) (Ov.pg_tupK (K := K) (n := 2) rfl rfl (pgs_cons (pg_name (i := 1) sc_check_program.nd rfl (by first | exact Or.inl rfl | exact Or.inr rfl)) (pgs_cons (pg_name (i := 2) sc_check_program.nd rfl (by first | exact Or.inl rfl | exact Or.inr rfl)) pgs_nil))) (pss_one (ps_if (PW.pt (pw_or (pt_cmpR op_ge (pv 1) (pe_glob (v := .int 8) (by rfl) T.i_MOST_FUNCTIONS.choose_spec ⟨_, rfl⟩) (nomark _)) (pw_or1 (pt_not (pt_val (pe_call G_function_fits (hr.mono (by omega)) (by rfl) T.g_function_fits T.kp_function_fits T.b_function_fits .nil pass0 (pa_cons (pv 2) (pa_cons (pe_callB (r := Evl.rLenS K) call_len_seq (by rfl) T.z_len PySem.boot_len (pa_cons (pv 0) pa_nil)) pa_nil)))))))) (pss_one ps_never) pss_nil))))), ?_⟩
  have e0 : decide (V.int ((vs.length : Nat) : Int) = V.int 0) = false := decide_eq_false fun z => by
    have z1 := V.int.inj z
    omega
  refine ⟨_, rfl, a, vs, rfl, .inr (SqT.of ha), rfl, _, rfl, ?_⟩
  rw [e0]
  refine iteF ?_
  refine ⟨_, rfl, a, vs, rfl, SqT.of ha, for_it (walk_en (K := K) (k := .t) (a := a) (xs := vs)) (fun i σ H' => ∃ y1 y2 : Option V, σ = [some (.ref a), y1, y2] ∧ Same H H') ⟨none, none, rfl, Same.refl H⟩ (fun i σ H' _ ⟨_, _, _, s⟩ => SqT.of (s _ _ ha)) ?_ ?_⟩
  · rintro i x σ H1 H2 hi ⟨y1, y2, rfl, s1⟩ ⟨t, x1, x2, rfl, ht, rfl, e1, e2⟩
    have e1' := Option.some.inj e1
    subst e1'
    have s2 := s1.trans (Same.new (o := .tup [.int (i : Nat), x2]) ht)
    obtain ⟨f, hf1, hf2⟩ := Paired.get2 hf e2
    refine ⟨t, _, rfl, SqT.of upd_same, rfl, _, _, rfl, _, _, rfl, rfl, ?_⟩
    have e8 : decide ((8 : Int) ≤ (i : Int)) = false := decide_eq_false (by omega)
    refine ⟨_, rfl, _, 8, rfl, rfl, _, rfl, ?_⟩
    rw [e8]
    refine iteF ?_
    refine ⟨_, rfl, _, rfl, a, vs, rfl, .inr (SqT.of (s2 _ _ ha)), x2, vs.length, f, rfl, hf2.keep (Keep.same s2), by rw [hl]; exact ok.f f (List.mem_of_getElem? hf1), fun H3 s3 => ⟨true, rfl, iteF ?_⟩⟩
    exact ⟨_, _, rfl, s2.trans s3⟩
  · rintro σ H1 ⟨y1, y2, rfl, s1⟩
    exact q H1 s1
end
end K18

namespace K18
open PySem PySem.Spec PyProof.Rows L2 Ov
section
variable {P : Program} {w : World} {K : PySem.W.Frag} {mg : Str → Option Value} {base : Heap}
theorem sc_check_function : FnScope ["function", "functions"] ["function", "functions"] (defScope s_check_function) := ⟨rfl, rfl, rfl, by decide +kernel, rfl, by decide +kernel, by decide +kernel⟩
-- 0 function, 1 functions
theorem ok_check_function (T : Txt w K mg) : FnOk P w K mg base CX0 2 (He.ga K "check_function") (fdOf K d_check_function) ["function", "functions"] spCheckFunction := by
  have G_between := ok_between (P := P) (base := base) T
  refine T.F_check_function.ok sc_check_function (fun vs H Q E h => ?_) (fun cdv A outer s H vs Q E hr h => ?_)
  · obtain ⟨f, n, rfl, _⟩ := h
    rfl
  obtain ⟨f, n, rfl, hlt, q⟩ := h
  refine ⟨_, PSs.nox (pss_one (ps_if (pt_not (pt_val (pe_call G_between (hr.mono (by omega)) (by rfl) T.g_between T.kp_between T.b_between .nil pass0 (pa_cons (pv 0) (pa_cons pe_int (pa_cons (pe_op op_sub (pv 1) pe_int) pa_nil)))))) (pss_one ps_never) pss_nil)), ?_⟩
  refine ⟨_, rfl, _, rfl, _, 1, rfl, rfl, f, 0, _, rfl, _, rfl, ?_⟩
  rw [decide_eq_true (show (0 : Int) ≤ (f : Int) ∧ (f : Int) ≤ (n : Int) - 1 from ⟨by omega, by omega⟩)]
  exact iteF q
end
end K18

namespace K18
open PySem PySem.Spec PyProof.Rows L2 Ov
section
variable {P : Program} {w : World} {K : PySem.W.Frag} {mg : Str → Option Value} {base : Heap}
theorem sc_rises : FnScope ["row", "low", "high"] ["row"] (defScope s_rises) := ⟨rfl, rfl, rfl, by decide +kernel, rfl, by decide +kernel, by decide +kernel⟩
-- 0 row, 1 low, 2 high
theorem ok_rises (T : Txt w K mg) : FnOk P w K mg base CX0 1 (He.ga K "rises") (fdOf K d_rises) ["row"] spRises := by
  refine T.F_rises.ok sc_rises (fun vs H Q E h => ?_) (fun cdv A outer s H vs Q E hr h => ?_)
  · obtain ⟨a, ns, rfl, _⟩ := h
    rfl
  obtain ⟨a, ns, rfl, ha, hp, hl, q⟩ := h
  have hn : ns.length - 1 = min (nV ns).length ((nV ns).drop 1).length := by rw [List.length_drop, nV_len]; omega
  have up : ∀ (i : Nat) (x y : V), (nV ns)[i]? = some x → ((nV ns).drop 1)[i]? = some y → ∃ u v : Nat, x = .int (u : Int) ∧ y = .int (v : Int) ∧ u < v := fun i x y hx hy => by
    rw [List.getElem?_drop] at hy
    obtain ⟨u, hu, rfl⟩ := nV_int hx
    obtain ⟨v, hv, rfl⟩ := nV_int hy
    obtain ⟨h1, e1⟩ := List.getElem?_eq_some_iff.mp hu
    obtain ⟨h2, e2⟩ := List.getElem?_eq_some_iff.mp hv
    have z := List.pairwise_iff_getElem.mp hp i (1 + i) h1 h2 (by omega)
    rw [e1, e2] at z
    exact ⟨u, v, rfl, rfl, z⟩
  rcases ha with ha | ⟨ha, hne⟩
  · refine ⟨_, PSs.nox (pss_one (ps_ret (pe_callB (r := rAll K) (cr_all rfl) (by rfl) T.z_all (by decide +kernel) (pa_cons (pe_lc (own := [("low", 1), ("high", 2)]) rfl sc_rises.nd (Ov.pi_zp (K := K) .l .l rfl (by rfl) T.z_zip (pa_cons (pv 0) (pa_cons (pe_slice (r := rSlL K) sl_list (pv 0) (po_some pe_int) po_none) pa_nil))) (blkOk_by (own := [("low", 1), ("high", 2)]) (N := ["row", "low", "high"]) (sc := defScope s_rises) (by decide +kernel)) (fun _ _ _ _ _ => (Ov.pg_tupK (K := K) (n := 2) rfl rfl (pgs_cons (pg_name (i := 1) sc_rises.nd rfl (by first | exact Or.inl rfl | exact Or.inr rfl)) (pgs_cons (pg_name (i := 2) sc_rises.nd rfl (by first | exact Or.inl rfl | exact Or.inr rfl)) pgs_nil)))) (fun _ _ _ _ _ => pts_nil) (fun _ _ _ _ _ => (pe_cmpR op_lt (pv 1) (pv 2) (nomark _)))) pa_nil)))), ?_⟩
    refine ⟨_, rfl, _, rfl, 1, rfl, a, nV ns, rfl, SqL.of ha, fun c hc => ?_⟩
    have s1 := Same.new (o := .lst (cutV (nV ns) (some 1) none)) hc
    refine ⟨a, c, nV ns, _, rfl, SqL.of (s1 _ _ ha), SqL.of upd_same, fun D hD => ?_⟩
    have ncD : c ≠ D := ne_of_none upd_same hD
    have fD := Same.free s1 hD
    have ecut : cutV (nV ns) (some 1) none = (nV ns).drop 1 := by
      cases ns with
      | nil => rfl
      | cons x r => exact cut_from _ 1 (by rw [nV_len]; exact Nat.succ_le_succ (Nat.zero_le _))
    rw [ecut] at hD s1 ⊢
    refine lc_itY (walk_zp (K := K) (k := .l) (m := .l) (a := a) (b := c) hn) (fun i H' => Same H H' ∧ H' c = some (.lst ((nV ns).drop 1)) ∧ H' D = some (.lst ((List.replicate i true).map V.bl))) ⟨s1.trans (Same.new hD), by rw [upd_ne ncD, upd_same], upd_same⟩ (fun i H' _ e => ⟨SqL.of (e.1 _ _ ha), SqL.of e.2.1⟩) ?_ ?_
    · rintro i z H1 H2 hi ⟨s2, c2, e2⟩ ⟨t, x, y, rfl, ht, rfl, hx, hy⟩
      obtain ⟨u, v, rfl, rfl, lt⟩ := up i x y hx hy
      have s3 := Same.new (o := .tup [.int (u : Int), .int (v : Int)]) ht
      refine ⟨t, _, rfl, SqT.of upd_same, rfl, _, _, rfl, _, _, rfl, rfl, rfl, _, rfl, _, rfl, _, _, rfl, rfl, _, s3 _ _ e2, sm _ (by rw [List.length_map, List.length_replicate]; omega), Ov.Same.updn (s2.trans s3) fD, by rw [upd_ne ncD]; exact s3 _ _ c2, ?_⟩
      have elt : decide (((u : Nat) : Int) < (v : Int)) = true := decide_eq_true (by omega)
      show upd _ D (.lst ((List.replicate i true).map V.bl ++ [.bl (decide (((u : Nat) : Int) < (v : Int)))])) D = _
      rw [upd_same, elt, rep_snoc]
    · rintro H1 ⟨s2, c2, e2⟩
      refine ⟨D, _, rfl, SqL.of e2, ?_⟩
      show Q (.bl ((List.replicate (ns.length - 1) true).all id)) H1
      rw [rep_all]
      exact q H1 s2
  · 
    refine ⟨_, PSs.nox (pss_one (ps_ret (pe_callB (r := rAll K) (cr_all rfl) (by rfl) T.z_all (by decide +kernel) (pa_cons (pe_lc (own := [("low", 1), ("high", 2)]) rfl sc_rises.nd (Ov.pi_zp (K := K) .t .t rfl (by rfl) T.z_zip (pa_cons (pv 0) (pa_cons (pe_slice (r := rSlA K) sl_tupA (pv 0) (po_some pe_int) po_none) pa_nil))) (blkOk_by (own := [("low", 1), ("high", 2)]) (N := ["row", "low", "high"]) (sc := defScope s_rises) (by decide +kernel)) (fun _ _ _ _ _ => (Ov.pg_tupK (K := K) (n := 2) rfl rfl (pgs_cons (pg_name (i := 1) sc_rises.nd rfl (by first | exact Or.inl rfl | exact Or.inr rfl)) (pgs_cons (pg_name (i := 2) sc_rises.nd rfl (by first | exact Or.inl rfl | exact Or.inr rfl)) pgs_nil)))) (fun _ _ _ _ _ => pts_nil) (fun _ _ _ _ _ => (pe_cmpR op_lt (pv 1) (pv 2) (nomark _)))) pa_nil)))), ?_⟩
    have hns : 1 ≤ ns.length := List.length_pos_iff.mpr hne
    have ecut : cutV (nV ns) (some 1) none = (nV ns).drop 1 := cut_from _ 1 (by rw [nV_len]; exact hns)
    refine ⟨_, rfl, _, rfl, 1, rfl, a, nV ns, rfl, SqT.of ha, fun z => ?_, fun _ c hc => ?_⟩
    · have z1 := z.1
      have z2 : HT.sIx (nV ns).length 0 (some 1) = min 1 (nV ns).length := HT.sIx_nat _ 0 1
      rw [nV_len] at z1 z2
      omega
    have s1 := Same.new (o := .tup (cutV (nV ns) (some 1) none)) hc
    refine ⟨a, c, nV ns, _, rfl, SqT.of (s1 _ _ ha), SqT.of upd_same, fun D hD => ?_⟩
    have ncD : c ≠ D := ne_of_none upd_same hD
    have fD := Same.free s1 hD
    rw [ecut] at hD s1 ⊢
    refine lc_itY (walk_zp (K := K) (k := .t) (m := .t) (a := a) (b := c) hn) (fun i H' => Same H H' ∧ H' c = some (.tup ((nV ns).drop 1)) ∧ H' D = some (.lst ((List.replicate i true).map V.bl))) ⟨s1.trans (Same.new hD), by rw [upd_ne ncD, upd_same], upd_same⟩ (fun i H' _ e => ⟨SqT.of (e.1 _ _ ha), SqT.of e.2.1⟩) ?_ ?_
    · rintro i z H1 H2 hi ⟨s2, c2, e2⟩ ⟨t, x, y, rfl, ht, rfl, hx, hy⟩
      obtain ⟨u, v, rfl, rfl, lt⟩ := up i x y hx hy
      have s3 := Same.new (o := .tup [.int (u : Int), .int (v : Int)]) ht
      refine ⟨t, _, rfl, SqT.of upd_same, rfl, _, _, rfl, _, _, rfl, rfl, rfl, _, rfl, _, rfl, _, _, rfl, rfl, _, s3 _ _ e2, sm _ (by rw [List.length_map, List.length_replicate]; omega), Ov.Same.updn (s2.trans s3) fD, by rw [upd_ne ncD]; exact s3 _ _ c2, ?_⟩
      have elt : decide (((u : Nat) : Int) < (v : Int)) = true := decide_eq_true (by omega)
      show upd _ D (.lst ((List.replicate i true).map V.bl ++ [.bl (decide (((u : Nat) : Int) < (v : Int)))])) D = _
      rw [upd_same, elt, rep_snoc]
    · rintro H1 ⟨s2, c2, e2⟩
      refine ⟨D, _, rfl, SqL.of e2, ?_⟩
      show Q (.bl ((List.replicate (ns.length - 1) true).all id)) H1
      rw [rep_all]
      exact q H1 s2
theorem sc_part_fits : FnScope ["part", "functions", "function"] ["part", "functions"] (defScope s_part_fits) := ⟨rfl, rfl, rfl, by decide +kernel, rfl, by decide +kernel, by decide +kernel⟩
-- 0 part, 1 functions, 2 function
theorem ok_part_fits (T : Txt w K mg) : FnOk P w K mg base CX0 2 (He.ga K "part_fits") (fdOf K d_part_fits) ["part", "functions"] spPartFits := by
  have G_between := ok_between (P := P) (base := base) T
  have G_rises := ok_rises (P := P) (base := base) T
  refine T.F_part_fits.ok sc_part_fits (fun vs H Q E h => ?_) (fun cdv A outer s H vs Q E hr h => ?_)
  · obtain ⟨v, n, p, rfl, _⟩ := h
    rfl
  obtain ⟨v, n, p, rfl, ⟨b, rfl, hb⟩, hne, hri, hlt, h8, q⟩ := h
  refine ⟨_, PSs.nox (pss_cons (ps_if (PW.pt (pw_or (pt_not (pt_val (pe_callB (r := rIsi K) call_isi (by rfl) T.z_isinstance (by decide +kernel) (pa_cons (pv 0) (pa_cons (pe_bltn (v := .ty "tuple") (by rfl) T.z_tuple (by decide +kernel) rfl) pa_nil))))) (pw_or1 (pt_cmpR op_eq (pe_callB (r := Evl.rLenS K) call_len_seq (by rfl) T.z_len PySem.boot_len (pa_cons (pv 0) pa_nil)) pe_int (nomark _))))) (pss_one (ps_ret pe_bl)) pss_nil)
      (pss_one (ps_ret (pe_and (pe_callB (r := rAll K) (cr_all rfl) (by rfl) T.z_all (by decide +kernel) (pa_cons (pe_lc (own := [("function", 2)]) rfl sc_part_fits.nd (Ov.pi_tupK (K := K) rfl (pv 0)) (blkOk_by (own := [("function", 2)]) (N := ["part", "functions", "function"]) (sc := defScope s_part_fits) (by decide +kernel)) (fun _ _ _ _ _ => (pg_name (i := 2) sc_part_fits.nd rfl (by first | exact Or.inl rfl | exact Or.inr rfl))) (fun _ _ _ _ _ => pts_nil) (fun _ _ _ _ _ => (pe_call G_between (hr.mono (by omega)) (by rfl) T.g_between T.kp_between T.b_between .nil pass0 (pa_cons (pv 2) (pa_cons pe_int (pa_cons (pe_op op_sub (pv 1) pe_int) pa_nil)))))) pa_nil)) (pe_one (pe_call G_rises (hr.mono (by omega)) (by rfl) T.g_rises T.kp_rises T.b_rises .nil pass0 (pa_cons (pv 0) pa_nil))))))), ?_⟩
  have e0 : decide (V.int (((nV p).length : Nat) : Int) = V.int 0) = false := decide_eq_false fun z => by
    have z1 := V.int.inj z
    have := List.length_pos_iff.mpr hne
    rw [nV_len] at z1
    omega
  refine ⟨_, rfl, _, .ty "tuple", .type "tuple", .type "tuple", true, rfl, .ty _, .base (.tup hb), k_tuple_tuple, true, rfl, iteF ⟨_, rfl, b, _, rfl, .inr (SqT.of hb), rfl, _, rfl, ?_⟩⟩
  rw [e0]
  refine iteF ⟨_, rfl, b, rfl, ⟨_, SqT.of hb⟩, fun D hD => ?_⟩
  refine lc_tupY (K := K) (a := b) (xs := nV p) (fun i H' => Same H H' ∧ H' D = some (.lst ((List.replicate i true).map V.bl))) ⟨Same.new hD, upd_same⟩ (fun i H' _ e => SqT.of (e.1 _ _ hb)) ?_ ?_
  · rintro i x H1 hi ⟨s1, e1⟩
    obtain ⟨y, hy, rfl⟩ := nV_int hi
    have hyn := hlt y (List.mem_of_getElem? hy)
    have hil := (List.getElem?_eq_some_iff.mp hy).1
    refine ⟨rfl, _, rfl, _, rfl, _, 1, rfl, rfl, (y : Int), 0, _, rfl, _, e1, sm _ (by rw [List.length_map, List.length_replicate]; omega), Ov.Same.updn s1 hD, ?_⟩
    rw [upd_same, decide_eq_true (show (0 : Int) ≤ (y : Int) ∧ (y : Int) ≤ (n : Int) - 1 from ⟨by omega, by omega⟩), rep_snoc]
  · rintro H1 ⟨s1, e1⟩
    refine ⟨D, _, rfl, SqL.of e1, _, rfl, ?_⟩
    show if (List.replicate (nV p).length true).all id = true then _ else _
    rw [rep_all]
    refine iteT ?_
    exact ⟨_, rfl, b, p, rfl, .inr ⟨s1 _ _ hb, hne⟩, hri, by omega, fun H2 s2 => q H2 (s1.trans s2)⟩
end
end K18

namespace K18
open PySem PySem.Spec PyProof.Rows L2 Ov
section
variable {P : Program} {w : World} {K : PySem.W.Frag} {mg : Str → Option Value} {base : Heap}
theorem sc_parts_fit : FnScope ["parts", "functions", "held", "part", "function"] ["parts", "functions"] (defScope s_parts_fit) := ⟨rfl, rfl, rfl, by decide +kernel, rfl, by decide +kernel, by decide +kernel⟩
-- 0 parts, 1 functions, 2 held, 3 part, 4 function
theorem ok_parts_fit (T : Txt w K mg) : FnOk P w K mg base CX0 3 (He.ga K "parts_fit") (fdOf K d_parts_fit) ["parts", "functions"] spPartsFit := by
  have G_part_fits := ok_part_fits (P := P) (base := base) T
  have G_rises := ok_rises (P := P) (base := base) T
  refine T.F_parts_fit.ok sc_parts_fit (fun vs H Q E h => ?_) (fun cdv A outer s H vs Q E hr h => ?_)
  · obtain ⟨a, n, us, ps, rfl, _⟩ := h
    rfl
  obtain ⟨a, n, us, ps, rfl, ha, hps, pi, n8, q⟩ := h
  have hl := Paired.length hps
  have hc := pi.count
  refine ⟨_, PSs.nox (pss_cons (ps_if (PW.pt (pw_or (pt_not (pt_val (pe_callB (r := rIsi K) call_isi (by rfl) T.z_isinstance (by decide +kernel) (pa_cons (pv 0) (pa_cons (pe_bltn (v := .ty "tuple") (by rfl) T.z_tuple (by decide +kernel) rfl) pa_nil))))) (pw_or1 (pt_not (pt_val (pe_callB (r := rAll K) (cr_all rfl) (by rfl) T.z_all (by decide +kernel) (pa_cons (pe_lc (own := [("part", 3)]) rfl sc_parts_fit.nd (Ov.pi_tupK (K := K) rfl (pv 0)) (blkOk_by (own := [("part", 3)]) (N := ["parts", "functions", "held", "part", "function"]) (sc := defScope s_parts_fit) (by decide +kernel)) (fun _ _ _ _ _ => (pg_name (i := 3) sc_parts_fit.nd rfl (by first | exact Or.inl rfl | exact Or.inr rfl))) (fun _ _ _ _ _ => pts_nil) (fun _ _ _ _ _ => (pe_call G_part_fits (hr.mono (by omega)) (by rfl) T.g_part_fits T.kp_part_fits T.b_part_fits .nil pass0 (pa_cons (pv 3) (pa_cons (pv 1) pa_nil))))) pa_nil))))))) (pss_one (ps_ret pe_bl)) pss_nil)
      (pss_cons (ps_setLc2 (i := 2) (own := [("part", 3), ("function", 4)]) (vs1 := [4]) rfl sc_parts_fit.nd rfl rfl (sw_true rfl rfl rfl (by decide +kernel)) (Ov.pi_tupK (K := K) rfl (pv 0)) (blkOk_by (own := [("part", 3), ("function", 4)]) (N := ["parts", "functions", "held", "part", "function"]) (sc := defScope s_parts_fit) (by decide +kernel)) (by decide) (fun _ _ _ _ _ => (pg_name (i := 3) sc_parts_fit.nd rfl (by first | exact Or.inl rfl | exact Or.inr rfl))) (fun _ _ _ _ _ => pts_nil) (fun _ _ _ _ _ => (Ov.pi_tupK (K := K) rfl (pv 3))) (fun _ _ _ _ _ => (pg_name (i := 4) sc_parts_fit.nd rfl (by first | exact Or.inl rfl | exact Or.inr rfl))) (fun _ _ _ _ _ => pts_nil) (fun _ _ _ _ _ => (pv 4)))
      (pss_one (ps_ret (pe_and (pe_call G_rises (hr.mono (by omega)) (by rfl) T.g_rises T.kp_rises T.b_rises .nil pass0 (pa_cons (pe_lc (own := [("part", 3)]) rfl sc_parts_fit.nd (Ov.pi_tupK (K := K) rfl (pv 0)) (blkOk_by (own := [("part", 3)]) (N := ["parts", "functions", "held", "part", "function"]) (sc := defScope s_parts_fit) (by decide +kernel)) (fun _ _ _ _ _ => (pg_name (i := 3) sc_parts_fit.nd rfl (by first | exact Or.inl rfl | exact Or.inr rfl))) (fun _ _ _ _ _ => pts_nil) (fun _ _ _ _ _ => (pe_ix (r := rIxT K) ix_tup (pv 3) pe_int (fun _ _ => rfl)))) pa_nil)) (pe_one (pe_cmpR (r := rEqD K) (op_eqD hr.units) (pe_callB (r := rSorted K) cr_sorted (by rfl) T.z_sorted (by decide +kernel) (pa_cons (pv 2) pa_nil)) (pe_listRg rfl (by rfl) T.z_list (prg_1 (by rfl) T.z_range (pv 1))) (nomark _)))))))), ?_⟩
  refine ⟨_, rfl, _, .ty "tuple", .type "tuple", .type "tuple", true, rfl, .ty _, .base (.tup ha), k_tuple_tuple, true, rfl, iteF ⟨_, rfl, a, rfl, ⟨_, SqT.of ha⟩, fun D hD => ?_⟩⟩
  refine lc_tupY (K := K) (a := a) (xs := us) (fun i H' => Same H H' ∧ H' D = some (.lst ((List.replicate i true).map V.bl))) ⟨Same.new hD, upd_same⟩ (fun i H' _ e => SqT.of (e.1 _ _ ha)) ?_ ?_
  · rintro i x H1 hi ⟨s1, e1⟩
    obtain ⟨p, hp, hx⟩ := Paired.get2 hps hi
    have hm := List.mem_of_getElem? hp
    have hil := (List.getElem?_eq_some_iff.mp hi).1
    refine ⟨rfl, _, rfl, _, rfl, x, n, p, rfl, hx.keep (Keep.same s1), pi.ne p hm, pi.rise p hm, fun y hy => pi.lt hm hy, by have := pi.plen hm; omega, fun H2 s2 => ⟨_, s2 _ _ e1, sm _ (by rw [List.length_map, List.length_replicate]; omega), Ov.Same.updn (s1.trans s2) hD, ?_⟩⟩
    rw [upd_same, rep_snoc]
  rintro H1 ⟨s1, e1⟩
  refine ⟨D, _, rfl, SqL.of e1, _, rfl, ?_⟩
  show if (!(List.replicate us.length true).all id) = true then _ else _
  rw [rep_all]
  refine iteF ?_
  -- held
  refine ⟨_, rfl, a, rfl, ⟨_, SqT.of (s1 _ _ ha)⟩, fun B hB => ?_⟩
  refine lc2_out (walk_tup (K := K) (a := a) (xs := us)) (fun i H' => Same H1 H' ∧ H' B = some (.lst (nV (ps.take i).flatten))) ⟨Same.new hB, upd_same⟩ (fun i H' _ e => SqT.of (e.1 _ _ (s1 _ _ ha))) ?_ ?_
  · rintro i x H2 H3 hi ⟨s2, e2⟩ ⟨rfl, hx⟩
    obtain ⟨p, hp, ⟨b, rfl, hb⟩⟩ := Paired.get2 hps hx
    have hm := List.mem_of_getElem? hp
    have hb2 := s2 _ _ (s1 _ _ hb)
    refine ⟨rfl, _, rfl, b, rfl, ⟨_, SqT.of hb2⟩, ?_⟩
    refine lc2_in (walk_tup (K := K) (a := b) (xs := nV p)) (fun j H' => Same H1 H' ∧ H' B = some (.lst (nV ((ps.take i).flatten ++ p.take j)))) ⟨s2, by rw [List.take_zero, List.append_nil]; exact e2⟩ (fun j H' _ e => SqT.of (e.1 _ _ (s1 _ _ hb))) ?_ ?_
    · rintro j y H4 H5 hj ⟨s4, e4⟩ ⟨rfl, hy⟩
      obtain ⟨z, hz, rfl⟩ := nV_int hy
      have hpl := pi.plen hm
      have hfl : (ps.take i).flatten.length ≤ n := by
        have z1 : ps.flatten.length = n := by rw [pi.perm.length_eq, List.length_range]
        have z2 : ps.flatten = (ps.take i).flatten ++ (ps.drop i).flatten := by rw [← List.flatten_append, List.take_append_drop]
        rw [z2, List.length_append] at z1
        omega
      refine ⟨rfl, _, rfl, _, e4, sm _ (by rw [nV_len, List.length_append, List.length_take]; omega), Ov.Same.updn s4 hB, ?_⟩
      rw [upd_same, List.take_add_one, hz, ← List.append_assoc]
      exact congrArg (fun l => some (HO.lst l)) (nV_app _ z).symm
    · rintro H4 ⟨s4, e4⟩
      refine ⟨s4, ?_⟩
      rw [nV_len, List.take_length] at e4
      rw [e4, List.take_add_one, hp]
      simp
  rintro H2 ⟨s2, e2⟩
  rw [hl, List.take_length] at e2
  have s02 := s1.trans s2
  -- rises of the firsts
  refine ⟨_, rfl, a, rfl, ⟨_, SqT.of (s02 _ _ ha)⟩, fun C hC => ?_⟩
  refine lc_tupY (K := K) (a := a) (xs := us) (fun i H' => Same H2 H' ∧ H' C = some (.lst (nV ((ps.take i).map (·.headD 0))))) ⟨Same.new hC, upd_same⟩ (fun i H' _ e => SqT.of (e.1 _ _ (s02 _ _ ha))) ?_ ?_
  · rintro i x H3 hi ⟨s3, e3⟩
    obtain ⟨p, hp, ⟨b, rfl, hb⟩⟩ := Paired.get2 hps hi
    have hm := List.mem_of_getElem? hp
    have hil := (List.getElem?_eq_some_iff.mp hi).1
    have hne := pi.ne p hm
    have h0 : (nV p)[0]? = some (.int ((p.headD 0 : Nat) : Int)) := by
      cases p with
      | nil => exact absurd rfl hne
      | cons x r => rfl
    refine ⟨rfl, _, rfl, b, _, 0, _, rfl, rfl, SqT.of (s3 _ _ (s02 _ _ hb)), atI_nat (j := 0) h0, _, e3, sm _ (by rw [nV_len, List.length_map, List.length_take]; omega), Ov.Same.updn s3 hC, ?_⟩
    rw [upd_same, List.take_add_one, hp, List.map_append]
    exact congrArg (fun l => some (HO.lst l)) (nV_app _ _).symm
  rintro H3 ⟨s3, e3⟩
  rw [hl, List.take_length] at e3
  refine ⟨C, _, rfl, .inl e3, pi.firsts, by rw [List.length_map]; omega, fun H4 s4 => ⟨true, rfl, iteT ?_⟩⟩
  -- sorted(held) == list(range(functions))
  have e4 := s4 _ _ (s3 _ _ e2)
  rw [nV_ints] at e4
  have hfl : ps.flatten.length = n := by rw [pi.perm.length_eq, List.length_range]
  refine ⟨_, rfl, B, _, rfl, SqL.of e4, by rw [List.length_map, hfl]; omega, fun ns p hperm hpw hp => ?_⟩
  have ens := pi.sorted hperm hpw
  refine ⟨_, rfl, _, rfl, RgOk.of_le (by omega) (by omega) (by omega) (by omega), fun r hr2 => ?_⟩
  have npr : p ≠ r := ne_of_none upd_same hr2
  have er : rgV 0 (n : Int) = ns.map V.int := by rw [rgV_nV, nV_ints, ens]
  have s5 := (Same.new (o := .lst (ns.map V.int)) hp).trans (Same.new (o := .lst (rgV 0 (n : Int))) hr2)
  refine ⟨.list (ns.map PyData.int), .list (ns.map PyData.int), .lst (SqL.of (by rw [upd_ne npr]; exact upd_same)) (dpInts ns), .lst (xs := ns.map V.int) (SqL.of (by rw [upd_same, er])) (dpInts ns), intsShaped ns, intsShaped ns, ?_⟩
  rw [eqvInts]
  exact q _ (s02.trans (s3.trans (s4.trans s5)))
theorem sc_has_end : FnScope ["stands", "part", "under", "_"] ["stands", "part"] (defScope s_has_end) := ⟨rfl, rfl, rfl, by decide +kernel, rfl, by decide +kernel, by decide +kernel⟩
-- 0 stands, 1 part, 2 under, 3 _
theorem ok_has_end (T : Txt w K mg) : FnOk P w K mg base CX0 1 (He.ga K "has_end") (fdOf K d_has_end) ["stands", "part"] spHasEnd := by
  refine T.F_has_end.ok sc_has_end (fun vs H Q E h => ?_) (fun cdv A outer s H vs Q E hr h => ?_)
  · obtain ⟨a, st, x, od, rfl, _⟩ := h
    rfl
  obtain ⟨a, st, x, od, rfl, ha, hod, sinv, hx, h8, q⟩ := h
  have hol : od.length = st.length := by rw [hod.length_eq, List.length_range]
  refine ⟨_, PSs.nox (pss_cons (ps_set (i := 2) sc_has_end.nd rfl (by first | exact Or.inl rfl | exact Or.inr rfl) (pv 1))
      (pss_cons (ps_for PassesOwn.never rfl (pi_range1 (by rfl) T.z_range (pa_cons (pe_callB (r := Evl.rLenS K) call_len_seq (by rfl) T.z_len PySem.boot_len (pa_cons (pv 0) pa_nil)) pa_nil)) (pg_name (i := 3) sc_has_end.nd rfl (by first | exact Or.inl rfl | exact Or.inr rfl)) (pss_one (ps_if (pt_cmpR op_ne (pv 2) (pe_glob (v := .int (-1)) (by rfl) T.i_NO_PART.choose_spec ⟨_, rfl⟩) (nomark _)) (pss_one (ps_set (i := 2) sc_has_end.nd rfl (by first | exact Or.inl rfl | exact Or.inr rfl) (pe_ix (r := rIxT K) ix_tup (pv 0) (pv 2) (fun _ _ => rfl)))) pss_nil)))
      (pss_one (ps_ret (pe_cmpR op_eq (pv 2) (pe_glob (v := .int (-1)) (by rfl) T.i_NO_PART.choose_spec ⟨_, rfl⟩) (nomark _)))))), ?_⟩
  refine ⟨_, rfl, _, rfl, a, _, rfl, .inr (SqT.of ha), _, rfl, by omega, by rw [List.length_map]; omega, for_range (lo := 0) (n := (((st.map V.int).length : Nat) : Int).toNat) (fun i σ H' => ∃ (z : Int) (y3 : Option V), σ = [some (.ref a), some (.int (x : Int)), some (.int z), y3] ∧ H' = H ∧ (z = -1 ∨ ∃ t y : Nat, od[t]? = some y ∧ z = (y : Int) ∧ t + i < st.length)) ⟨x, none, rfl, rfl, ?_⟩ ?_ ?_⟩
  · obtain ⟨t, ht⟩ := List.mem_iff_getElem?.mp (hod.mem_iff.mpr (List.mem_range.mpr hx))
    exact .inr ⟨t, x, ht, rfl, by have := (List.getElem?_eq_some_iff.mp ht).1; omega⟩
  · rintro i σ H1 hi ⟨z, y3, rfl, rfl, hz⟩
    refine ⟨_, rfl, rfl, _, rfl, ?_⟩
    rcases hz with rfl | ⟨t, y, ht, rfl, hti⟩
    · show if (!decide (V.int (-1) = V.int (-1))) = true then _ else _
      rw [decide_eq_true rfl]
      exact ⟨-1, _, rfl, rfl, .inl rfl⟩
    · have ne : decide (V.int (y : Int) = V.int (-1)) = false := decide_eq_false fun e => by
        have := V.int.inj e
        omega
      show if (!decide (V.int (y : Int) = V.int (-1))) = true then _ else _
      rw [ne]
      rcases sinv t y ht with e | ⟨j, u, hj, hu, e⟩
      · exact ⟨_, rfl, _, rfl, a, _, _, .int (-1), rfl, rfl, SqT.of ha, atI_nat (by rw [List.getElem?_map, e]; rfl), -1, _, rfl, rfl, .inl rfl⟩
      · exact ⟨_, rfl, _, rfl, a, _, _, .int ((u : Nat) : Int), rfl, rfl, SqT.of ha, atI_nat (by rw [List.getElem?_map, e]; rfl), _, _, rfl, rfl, .inr ⟨j, u, hu, rfl, by omega⟩⟩
  · rintro σ H1 ⟨z, y3, rfl, rfl, hz⟩
    rcases hz with rfl | ⟨t, y, ht, rfl, hti⟩
    · refine ⟨_, rfl, rfl, ?_⟩
      show Q (.bl (decide (V.int (-1) = V.int (-1)))) H1
      rw [decide_eq_true rfl]
      exact q
    · rw [Int.toNat_natCast, List.length_map] at hti
      omega
theorem sc_stands_fit : FnScope ["stands", "parts", "stand", "part"] ["stands", "parts"] (defScope s_stands_fit) := ⟨rfl, rfl, rfl, by decide +kernel, rfl, by decide +kernel, by decide +kernel⟩
-- 0 stands, 1 parts, 2 stand, 3 part
theorem ok_stands_fit (T : Txt w K mg) : FnOk P w K mg base CX0 2 (He.ga K "stands_fit") (fdOf K d_stands_fit) ["stands", "parts"] spStandsFit := by
  have G_between := ok_between (P := P) (base := base) T
  have G_has_end := ok_has_end (P := P) (base := base) T
  refine T.F_stands_fit.ok sc_stands_fit (fun vs H Q E h => ?_) (fun cdv A outer s H vs Q E hr h => ?_)
  · obtain ⟨a, st, m, od, rfl, _⟩ := h
    rfl
  obtain ⟨a, st, m, od, rfl, ha, hm, hod, sinv, h8, q⟩ := h
  have hol : od.length = m := by rw [hod.length_eq, List.length_range]
  have hlm : (st.map V.int).length = m := by rw [List.length_map, hm]
  refine ⟨_, PSs.nox (pss_cons (ps_if (PW.pt (pw_or (pt_not (pt_val (pe_callB (r := rIsi K) call_isi (by rfl) T.z_isinstance (by decide +kernel) (pa_cons (pv 0) (pa_cons (pe_bltn (v := .ty "tuple") (by rfl) T.z_tuple (by decide +kernel) rfl) pa_nil))))) (pw_or1 (pt_cmpR op_ne (pe_callB (r := Evl.rLenS K) call_len_seq (by rfl) T.z_len PySem.boot_len (pa_cons (pv 0) pa_nil)) (pv 1) (nomark _))))) (pss_one (ps_ret pe_bl)) pss_nil)
      (pss_cons (ps_if (pt_not (pt_val (pe_callB (r := rAll K) (cr_all rfl) (by rfl) T.z_all (by decide +kernel) (pa_cons (pe_lc (own := [("stand", 2)]) rfl sc_stands_fit.nd (Ov.pi_tupK (K := K) rfl (pv 0)) (blkOk_by (own := [("stand", 2)]) (N := ["stands", "parts", "stand", "part"]) (sc := defScope s_stands_fit) (by decide +kernel)) (fun _ _ _ _ _ => (pg_name (i := 2) sc_stands_fit.nd rfl (by first | exact Or.inl rfl | exact Or.inr rfl))) (fun _ _ _ _ _ => pts_nil) (fun _ _ _ _ _ => (pe_call G_between (hr.mono (by omega)) (by rfl) T.g_between T.kp_between T.b_between .nil pass0 (pa_cons (pv 2) (pa_cons (pe_glob (v := .int (-1)) (by rfl) T.i_NO_PART.choose_spec ⟨_, rfl⟩) (pa_cons (pe_op op_sub (pv 1) pe_int) pa_nil)))))) pa_nil)))) (pss_one (ps_ret pe_bl)) pss_nil)
      (pss_one (ps_ret (pe_callB (r := rAll K) (cr_all rfl) (by rfl) T.z_all (by decide +kernel) (pa_cons (pe_lc (own := [("part", 3)]) rfl sc_stands_fit.nd (pi_range1 (by rfl) T.z_range (pa_cons (pv 1) pa_nil)) (blkOk_by (own := [("part", 3)]) (N := ["stands", "parts", "stand", "part"]) (sc := defScope s_stands_fit) (by decide +kernel)) (fun _ _ _ _ _ => (pg_name (i := 3) sc_stands_fit.nd rfl (by first | exact Or.inl rfl | exact Or.inr rfl))) (fun _ _ _ _ _ => pts_nil) (fun _ _ _ _ _ => (pe_call G_has_end (hr.mono (by omega)) (by rfl) T.g_has_end T.kp_has_end T.b_has_end .nil pass0 (pa_cons (pv 0) (pa_cons (pv 3) pa_nil))))) pa_nil)))))), ?_⟩
  have enm : (!decide (V.int (((st.map V.int).length : Nat) : Int) = V.int (m : Int))) = false := by rw [hlm, decide_eq_true rfl]; rfl
  refine ⟨_, rfl, _, .ty "tuple", .type "tuple", .type "tuple", true, rfl, .ty _, .base (.tup ha), k_tuple_tuple, true, rfl, iteF ⟨_, rfl, a, _, rfl, .inr (SqT.of ha), _, rfl, rfl, _, rfl, ?_⟩⟩
  rw [enm]
  refine iteF ⟨_, rfl, a, rfl, ⟨_, SqT.of ha⟩, fun D hD => ?_⟩
  refine lc_tupY (K := K) (a := a) (xs := st.map V.int) (fun i H' => Same H H' ∧ H' D = some (.lst ((List.replicate i true).map V.bl))) ⟨Same.new hD, upd_same⟩ (fun i H' _ e => SqT.of (e.1 _ _ ha)) ?_ ?_
  · rintro i x H1 hi ⟨s1, e1⟩
    obtain ⟨y, hy, rfl⟩ := ints_int hi
    have hil := (List.getElem?_eq_some_iff.mp hy).1
    have hb : -1 ≤ y ∧ y ≤ (m : Int) - 1 := by
      obtain ⟨t, ht⟩ := List.mem_iff_getElem?.mp (hod.mem_iff.mpr (List.mem_range.mpr (by omega : i < m)))
      rcases sinv t i ht with e | ⟨j, u, hj, hu, e⟩
      · have := Option.some.inj (hy.symm.trans e)
        omega
      · have z1 := Option.some.inj (hy.symm.trans e)
        have z2 := List.mem_range.mp (hod.mem_iff.mp (List.mem_of_getElem? hu))
        omega
    refine ⟨rfl, _, rfl, _, rfl, _, 1, rfl, rfl, y, -1, _, rfl, _, e1, sm _ (by rw [List.length_map, List.length_replicate]; omega), Ov.Same.updn s1 hD, ?_⟩
    rw [upd_same, decide_eq_true hb, rep_snoc]
  rintro H1 ⟨s1, e1⟩
  refine ⟨D, _, rfl, SqL.of e1, true, ?_, iteF ?_⟩
  · show V.bl ((List.replicate (st.map V.int).length true).all id) = V.bl true
    rw [rep_all]
  refine ⟨_, rfl, _, rfl, by omega, by omega, fun B hB => ?_⟩
  refine lc_rangeY (lo := 0) (n := ((m : Nat) : Int).toNat) (fun i H' => Same H1 H' ∧ H' B = some (.lst ((List.replicate i true).map V.bl))) ⟨Same.new hB, upd_same⟩ ?_ ?_
  · rintro i H2 hi ⟨s2, e2⟩
    rw [Int.toNat_natCast] at hi
    refine ⟨rfl, _, rfl, _, rfl, a, st, i, od, ?_, s2 _ _ (s1 _ _ ha), by rw [hm]; exact hod, sinv, by omega, by omega, _, e2, sm _ (by rw [List.length_map, List.length_replicate]; omega), Ov.Same.updn s2 hB, ?_⟩
    · show [V.ref a, V.int (0 + (i : Int))] = _
      rw [Int.zero_add]
    · rw [upd_same, rep_snoc]
  · rintro H2 ⟨s2, e2⟩
    refine ⟨B, _, rfl, SqL.of e2, ?_⟩
    show Q (.bl ((List.replicate ((m : Nat) : Int).toNat true).all id)) H2
    rw [rep_all]
    exact q H2 (s1.trans s2)
theorem sc_check_tree : FnScope ["program", "tree"] ["program", "tree"] (defScope s_check_tree) := ⟨rfl, rfl, rfl, by decide +kernel, rfl, by decide +kernel, by decide +kernel⟩
-- 0 program, 1 tree
theorem ok_check_tree (T : Txt w K mg) : FnOk P w K mg base CX0 12 (He.ga K "check_tree") (fdOf K d_check_tree) ["program", "tree"] spCheckTree := by
  have G_check_program := ok_check_program (P := P) (base := base) T
  have G_parts_fit := ok_parts_fit (P := P) (base := base) T
  have G_stands_fit := ok_stands_fit (P := P) (base := base) T
  refine T.F_check_tree.ok sc_check_tree (fun vs H Q E h => ?_) (fun cdv A outer s H vs Q E hr h => ?_)
  · obtain ⟨v, t, pr, ps, st, rfl, _⟩ := h
    rfl
  obtain ⟨v, t, pr, ps, st, rfl, ⟨hpr, hok, ⟨a, pa, sa, us, rfl, ha, hpa, hus, hsa⟩, htr⟩, q⟩ := h
  obtain ⟨od, hod, sinv⟩ := htr.ord
  have l8 := hok.l8
  have hc := htr.p.count
  refine ⟨_, PSs.nox (pss_cons (ps_expr (pe_call G_check_program (hr.mono (by omega)) (by rfl) T.g_check_program T.kp_check_program T.b_check_program .nil pass0 (pa_cons (pv 0) pa_nil)))
      (pss_cons (ps_if (PW.pt (pw_or (pt_cmpR op_ne (pe_callB (r := Evl.rLenS K) call_len_seq (by rfl) T.z_len PySem.boot_len (pa_cons (pv 1) pa_nil)) pe_int (nomark _)) (pw_or1 (pt_not (pt_val (pe_call G_parts_fit (hr.mono (by omega)) (by rfl) T.g_parts_fit T.kp_parts_fit T.b_parts_fit .nil pass0 (pa_cons (pe_ix (r := rIxT K) ix_tup (pv 1) pe_int (fun _ _ => rfl)) (pa_cons (pe_callB (r := Evl.rLenS K) call_len_seq (by rfl) T.z_len PySem.boot_len (pa_cons (pv 0) pa_nil)) pa_nil)))))))) (pss_one ps_never) pss_nil)
      (pss_one (ps_if (pt_not (pt_val (pe_call G_stands_fit (hr.mono (by omega)) (by rfl) T.g_stands_fit T.kp_stands_fit T.b_stands_fit .nil pass0 (pa_cons (pe_ix (r := rIxT K) ix_tup (pv 1) pe_int (fun _ _ => rfl)) (pa_cons (pe_callB (r := Evl.rLenS K) call_len_seq (by rfl) T.z_len PySem.boot_len (pa_cons (pe_ix (r := rIxT K) ix_tup (pv 1) pe_int (fun _ _ => rfl)) pa_nil)) pa_nil))))) (pss_one ps_never) pss_nil)))), ?_⟩
  refine ⟨_, rfl, v, pr, rfl, hpr, hok, fun H1 s1 => ?_⟩
  obtain ⟨pp, pvs, rfl, hpp, hpf⟩ := hpr.keep (Keep.same s1)
  have hpl := Paired.length hpf
  have hul := Paired.length hus
  refine ⟨_, rfl, a, _, rfl, .inr (SqT.of (s1 _ _ ha)), rfl, _, rfl, iteNS rfl ?_⟩
  refine ⟨_, rfl, a, _, 0, _, rfl, rfl, SqT.of (s1 _ _ ha), atI_nat (j := 0) rfl, _, rfl, pp, _, rfl, .inr (SqT.of hpp), pa, pr.length, us, ps, by rw [hpl]; rfl, s1 _ _ hpa, L2.Paired.mapP hus fun _ _ z => z.keep (Keep.same s1), htr.p, l8, fun H2 s2 => ⟨true, rfl, iteF ?_⟩⟩
  have s02 := s1.trans s2
  refine ⟨_, rfl, a, _, 1, _, rfl, rfl, SqT.of (s02 _ _ ha), atI_nat (j := 1) rfl, _, rfl, a, _, 0, _, rfl, rfl, SqT.of (s02 _ _ ha), atI_nat (j := 0) rfl, pa, us, rfl, .inr (SqT.of (s02 _ _ hpa)), ?_⟩
  exact ⟨sa, st, us.length, od, rfl, s02 _ _ hsa, by rw [htr.len, hul], by rw [hul]; exact hod, sinv, by omega, fun H3 s3 => ⟨true, rfl, iteF (q H3 (s02.trans s3))⟩⟩
end
end K18

namespace K18
open PySem PySem.Spec PyProof.Rows L2 Ov
section
variable {P : Program} {w : World} {K : PySem.W.Frag} {mg : Str → Option Value} {base : Heap}
theorem sc_parts_below : FnScope ["stands", "part", "below", "under"] ["stands", "part"] (defScope s_parts_below) := ⟨rfl, rfl, rfl, by decide +kernel, rfl, by decide +kernel, by decide +kernel⟩
-- 0 stands, 1 part, 2 below, 3 under
theorem ok_parts_below (T : Txt w K mg) : FnOk P w K mg base CX0 1 (He.ga K "parts_below") (fdOf K d_parts_below) ["stands", "part"] spPartsBelow := by
  refine T.F_parts_below.ok sc_parts_below (fun vs H Q E h => ?_) (fun cdv A outer s H vs Q E hr h => ?_)
  · obtain ⟨a, st, x, l, rfl, _⟩ := h
    rfl
  obtain ⟨a, st, x, l, rfl, ha, hd, hl, q⟩ := h
  refine ⟨_, PSs.nox (pss_cons (ps_set (i := 2) sc_parts_below.nd rfl (by first | exact Or.inl rfl | exact Or.inr rfl) (pe_lst pa_nil))
      (pss_cons (ps_set (i := 3) sc_parts_below.nd rfl (by first | exact Or.inl rfl | exact Or.inr rfl) (pe_ix (r := rIxT K) ix_tup (pv 0) (pv 1) (fun _ _ => rfl)))
      (pss_cons (ps_while PassesOwn.never (pt_cmpR op_ne (pv 3) (pe_glob (v := .int (-1)) (by rfl) T.i_NO_PART.choose_spec ⟨_, rfl⟩) (nomark _)) (pss_cons (ps_expr (Ov.pe_bmK (K := K) rfl PySem.F.plainAttrs_list PySem.F.slot_list_append PySem.F.type_list_append mt_append (pv 2) (pa_cons (pv 3) pa_nil)))
      (pss_one (ps_set (i := 3) sc_parts_below.nd rfl (by first | exact Or.inl rfl | exact Or.inr rfl) (pe_ix (r := rIxT K) ix_tup (pv 0) (pv 3) (fun _ _ => rfl))))))
      (pss_one (ps_ret (Ov.pe_revLK (K := K) rfl (pv 2))))))), ?_⟩
  refine ⟨sml 0, fun D hD => ?_⟩
  have s1 := Same.new (o := .lst []) hD
  obtain ⟨z, hz⟩ := hd.get
  refine ⟨_, rfl, _, rfl, a, _, _, _, rfl, rfl, SqT.of (s1 _ _ ha), atI_nat (by rw [List.getElem?_map, hz]; rfl), ?_⟩
  refine ⟨fun m σ H' => ∃ (c : Nat) (z : Int) (l' acc : List Nat), σ = [some (.ref a), some (.int (x : Int)), some (.ref D), some (.int z)] ∧ Same H H' ∧ H' D = some (.lst (nV acc)) ∧ Down st c l' ∧ st[c]? = some z ∧ l = l' ++ acc.reverse ∧ m = l'.length, ⟨_, x, z, l, [], rfl, s1, upd_same, hd, hz, by rw [List.reverse_nil, List.append_nil], rfl⟩, ?_⟩
  rintro m σ H1 ⟨c, z, l', acc, rfl, s2, e2, d2, hz2, el, rfl⟩
  have hlen : l.length = l'.length + acc.length := by rw [el, List.length_append, List.length_reverse]
  refine ⟨_, rfl, rfl, _, rfl, ?_⟩
  cases d2 with
  | base e =>
    obtain rfl : z = -1 := Option.some.inj (hz2.symm.trans e)
    show if (!decide (V.int (-1) = V.int (-1))) = true then _ else _
    rw [decide_eq_true (rfl : V.int (-1) = V.int (-1))]
    refine iteF ?_
    refine ⟨_, rfl, D, _, rfl, SqL.of e2, fun p hp => ?_⟩
    have er : (nV acc).reverse = nV l := by rw [el]; unfold nV; rw [List.nil_append, List.map_reverse]
    rw [er]
    exact q _ p (s2.trans (Same.new hp)) (Same.free s2 hp) upd_same
  | @step _ y l2 e d3 =>
    obtain rfl : z = (y : Int) := Option.some.inj (hz2.symm.trans e)
    have ne : decide (V.int (y : Int) = V.int (-1)) = false := decide_eq_false fun e => by
      have := V.int.inj e
      omega
    show if (!decide (V.int (y : Int) = V.int (-1))) = true then _ else _
    rw [ne]
    obtain ⟨z3, hz3⟩ := d3.get
    have e1 := s2 _ _ ha
    rw [List.length_append, List.length_singleton] at hlen
    refine iteT ⟨_, fun σ' H' h => h, ?_⟩
    refine ⟨_, rfl, .inl ⟨rfl, _, SqL.of e2⟩, _, rfl, D, _, _, rfl, rfl, e2, sm _ (by rw [nV_len]; omega), ?_⟩
    refine ⟨_, rfl, _, rfl, a, _, _, _, rfl, rfl, SqT.of (Ov.Same.updn s2 hD _ _ ha), atI_nat (by rw [List.getElem?_map, hz3]; rfl), ?_⟩
    refine ⟨l2.length, by rw [List.length_append, List.length_singleton]; omega, y, z3, l2, acc ++ [y], rfl, Ov.Same.updn s2 hD, ?_, d3, hz3, ?_, rfl⟩
    · rw [upd_same, nV_app]
    · rw [el, List.reverse_append, List.append_assoc]
      rfl
theorem sc_size_of : FnScope ["program", "part", "function"] ["program", "part"] (defScope s_size_of) := ⟨rfl, rfl, rfl, by decide +kernel, rfl, by decide +kernel, by decide +kernel⟩
-- 0 program, 1 part, 2 function
theorem ok_size_of (T : Txt w K mg) : FnOk P w K mg base CX0 1 (He.ga K "size_of") (fdOf K d_size_of) ["program", "part"] spSizeOf := by
  refine T.F_size_of.ok sc_size_of (fun vs H Q E h => ?_) (fun cdv A outer s H vs Q E hr h => ?_)
  · obtain ⟨v, u, pr, p, rfl, _⟩ := h
    rfl
  obtain ⟨v, u, pr, p, rfl, ⟨a, vs, rfl, ha, hvs⟩, ⟨b, rfl, hb⟩, hlt, hl, q⟩ := h
  refine ⟨_, PSs.nox (pss_one (ps_ret (pe_callB (r := rSum K) (cr_sum rfl) (by rfl) T.z_sum (by decide +kernel) (pa_cons (pe_lc (own := [("function", 2)]) rfl sc_size_of.nd (Ov.pi_tupK (K := K) rfl (pv 1)) (blkOk_by (own := [("function", 2)]) (N := ["program", "part", "function"]) (sc := defScope s_size_of) (by decide +kernel)) (fun _ _ _ _ _ => (pg_name (i := 2) sc_size_of.nd rfl (by first | exact Or.inl rfl | exact Or.inr rfl))) (fun _ _ _ _ _ => pts_nil) (fun _ _ _ _ _ => (pe_ix (r := rIxT K) ix_tup (pe_ix (r := rIxT K) ix_tup (pv 0) (pv 2) (fun _ _ => rfl)) pe_int (fun _ _ => rfl)))) pa_nil)))), ?_⟩
  refine ⟨_, rfl, b, rfl, ⟨_, SqT.of hb⟩, fun D hD => ?_⟩
  refine lc_tupY (K := K) (a := b) (xs := nV p) (fun i H' => Same H H' ∧ H' D = some (.lst (((p.take i).map (fsz pr)).map V.int))) ⟨Same.new hD, upd_same⟩ (fun i H' _ e => SqT.of (e.1 _ _ hb)) ?_ ?_
  · rintro i x H1 hi ⟨s1, e1⟩
    obtain ⟨y, hy, rfl⟩ := nV_int hi
    have hyl := hlt y (List.mem_of_getElem? hy)
    obtain ⟨f, hf⟩ : ∃ f, pr[y]? = some f := ⟨_, List.getElem?_eq_getElem hyl⟩
    obtain ⟨u, hu, ⟨c, wv, rfl, hc, _⟩⟩ := Paired.got hvs hf
    have efs : fsz pr y = f.1 := by unfold fsz; rw [hf]; rfl
    refine ⟨rfl, _, rfl, _, rfl, a, _, _, _, rfl, rfl, SqT.of (s1 _ _ ha), atI_nat hu, c, _, 0, _, rfl, rfl, SqT.of (s1 _ _ hc), atI_nat (j := 0) rfl, _, e1, sm _ (by rw [List.length_map, List.length_map, List.length_take]; omega), Ov.Same.updn s1 hD, ?_⟩
    rw [upd_same, List.take_add_one, hy, List.map_append, List.map_append]
    show some (HO.lst (_ ++ [V.int f.1])) = some (HO.lst (_ ++ [V.int (fsz pr y)]))
    rw [efs]
  · rintro H1 ⟨s1, e1⟩
    rw [nV_len, List.take_length] at e1
    exact ⟨D, _, rfl, SqL.of e1, q H1 s1⟩
def osc_begins : Scope := { kind := .function, names := [(".0", .local), ("part", .local), ("sum", .globalImplicit), ("parts_below", .globalImplicit), ("sizes", .cell), ("stands", .cell)], isGenerator := false, isCoroutine := false }
theorem sc_begins : FnScope ["program", "tree", "parts", "stands", "sizes", "part", "under"] ["program", "tree"] (defScope s_begins) := ⟨rfl, rfl, rfl, by decide +kernel, rfl, by decide +kernel, by decide +kernel⟩
-- 0 program, 1 tree, 2 parts, 3 stands, 4 sizes, 5 part, 6 under
theorem ok_begins (T : Txt w K mg) : FnOk P w K mg base CX0 2 (He.ga K "begins") (fdOf K d_begins) ["program", "tree"] spBegins := by
  have G_parts_below := ok_parts_below (P := P) (base := base) T
  have G_size_of := ok_size_of (P := P) (base := base) T
  refine T.F_begins.ok sc_begins (fun vs H Q E h => ?_) (fun cdv A outer s H vs Q E hr h => ?_)
  · obtain ⟨v, t, pr, ps, st, dn, rfl, _⟩ := h
    rfl
  obtain ⟨v, t, pr, ps, st, dn, rfl, ⟨hpr, hok, ⟨a, pa, sa, us, rfl, ha, hpa, hus, hsa⟩, htr⟩, hdn, q⟩ := h
  have l8 := hok.l8
  have hc := htr.p.count
  have hul := Paired.length hus
  refine ⟨_, PSs.nox (pss_cons (ps_asg (pv 1) (Ov.pg_tupK (K := K) (n := 2) rfl rfl (pgs_cons (pg_name (i := 2) sc_begins.nd rfl (by first | exact Or.inl rfl | exact Or.inr rfl)) (pgs_cons (pg_name (i := 3) sc_begins.nd rfl (by first | exact Or.inl rfl | exact Or.inr rfl)) pgs_nil))))
      (pss_cons (ps_set (i := 4) sc_begins.nd rfl (by first | exact Or.inl rfl | exact Or.inr rfl) (pe_lc (own := [("part", 5)]) rfl sc_begins.nd (Ov.pi_tupK (K := K) rfl (pv 2)) (by first | exact blkOk_by (own := [("part", 5)]) (N := ["program", "tree", "parts", "stands", "sizes", "part", "under"]) (sc := defScope s_begins) (by decide +kernel) | exact blkOk_by (own := [("part", 5)]) (N := ["program", "tree", "parts", "stands", "sizes", "part", "under"]) (sc := osc_begins) (by decide +kernel)) (fun _ _ _ _ _ => (pg_name (i := 5) sc_begins.nd rfl (by first | exact Or.inl rfl | exact Or.inr rfl))) (fun _ _ _ _ _ => pts_nil) (fun _ _ _ _ _ => (pe_call G_size_of (hr.mono (by omega)) (by rfl) T.g_size_of T.kp_size_of T.b_size_of .nil pass0 (pa_cons (pv 0) (pa_cons (pv 5) pa_nil))))))
      (pss_one (ps_ret (pe_lc (own := [("part", 5)]) rfl sc_begins.nd (pi_range1 (by rfl) T.z_range (pa_cons (pe_callB (r := Evl.rLenS K) call_len_seq (by rfl) T.z_len PySem.boot_len (pa_cons (pv 2) pa_nil)) pa_nil)) (by first | exact blkOk_by (own := [("part", 5)]) (N := ["program", "tree", "parts", "stands", "sizes", "part", "under"]) (sc := defScope s_begins) (by decide +kernel) | exact blkOk_by (own := [("part", 5)]) (N := ["program", "tree", "parts", "stands", "sizes", "part", "under"]) (sc := osc_begins) (by decide +kernel)) (fun _ _ _ _ _ => (pg_name (i := 5) sc_begins.nd rfl (by first | exact Or.inl rfl | exact Or.inr rfl))) (fun _ _ _ _ _ => pts_nil) (fun _ _ _ _ _ => (pe_callB (r := rSum K) (cr_sum rfl) (by rfl) T.z_sum (by decide +kernel) (pa_cons (pe_lc (own := [("under", 6)]) rfl sc_begins.nd (Ov.pi_listK (K := K) rfl (pe_call G_parts_below (hr.mono (by omega)) (by rfl) T.g_parts_below T.kp_parts_below T.b_parts_below .nil pass0 (pa_cons (pv 3) (pa_cons (pv 5) pa_nil)))) (by first | exact blkOk_by (own := [("under", 6)]) (N := ["program", "tree", "parts", "stands", "sizes", "part", "under"]) (sc := defScope s_begins) (by decide +kernel) | exact blkOk_by (own := [("under", 6)]) (N := ["program", "tree", "parts", "stands", "sizes", "part", "under"]) (sc := osc_begins) (by decide +kernel)) (fun _ _ _ _ _ => (pg_name (i := 6) sc_begins.nd rfl (by first | exact Or.inl rfl | exact Or.inr rfl))) (fun _ _ _ _ _ => pts_nil) (fun _ _ _ _ _ => (pe_ix (r := rIxL K) ix_list (pv 4) (pv 6) (fun _ _ => rfl)))) pa_nil)))))))), ?_⟩
  refine ⟨_, rfl, a, _, rfl, SqT.of ha, rfl, _, _, rfl, _, _, rfl, rfl, _, rfl, pa, rfl, ⟨us, SqT.of hpa⟩, fun D hD => ?_⟩
  refine lc_tupY (K := K) (a := pa) (xs := us) (fun i H' => Same H H' ∧ H' D = some (.lst (((ps.take i).map (psz pr)).map V.int))) ⟨Same.new hD, upd_same⟩ (fun i H' _ e => SqT.of (e.1 _ _ hpa)) ?_ ?_
  · rintro i x H1 hi ⟨s1, e1⟩
    obtain ⟨p, hp, hx⟩ := Paired.get2 hus hi
    have hm := List.mem_of_getElem? hp
    have hil := (List.getElem?_eq_some_iff.mp hp).1
    refine ⟨rfl, _, rfl, _, rfl, v, x, pr, p, rfl, hpr.keep (Keep.same s1), hx.keep (Keep.same s1), fun y hy => htr.p.lt hm hy, by have := htr.p.plen hm; omega, fun H2 s2 => ⟨_, s2 _ _ e1, sm _ (by rw [List.length_map, List.length_map, List.length_take]; omega), Ov.Same.updn (s1.trans s2) hD, ?_⟩⟩
    rw [upd_same, List.take_add_one, hp, List.map_append, List.map_append]
    rfl
  rintro H1 ⟨s1, e1⟩
  rw [hul, List.take_length] at e1
  refine ⟨_, rfl, pa, _, rfl, .inr (SqT.of (s1 _ _ hpa)), _, rfl, by omega, by omega, fun B hB => ?_⟩
  refine lc_rangeY (lo := 0) (n := ((us.length : Nat) : Int).toNat) (fun i H' => Same H1 H' ∧ H' B = some (.lst (((List.range i).map (bgn pr ps dn)).map V.int))) ⟨Same.new hB, upd_same⟩ ?_ ?_
  · rintro i H2 hi ⟨s2, e2⟩
    rw [Int.toNat_natCast, hul] at hi
    have sz : ∀ y, y < ps.length → (((ps.map (psz pr)).map V.int))[y]? = some (.int (psz pr (ps[y]?.getD []))) := fun y hy => by
      rw [List.getElem?_map, List.getElem?_map, List.getElem?_eq_getElem hy]
      rfl
    refine ⟨rfl, _, rfl, _, rfl, sa, st, i, dn i, ?_, s2 _ _ (s1 _ _ hsa), hdn.down i hi, by have := hdn.len i hi; omega, fun H3 p s3 hp3 e3 => ?_⟩
    · show [V.ref sa, V.int (0 + (i : Int))] = _
      rw [Int.zero_add]
    refine ⟨p, rfl, ⟨_, SqL.of e3⟩, fun C hC => ?_⟩
    refine lc_listY (K := K) (a := p) (xs := nV (dn i)) (fun j H' => Same H3 H' ∧ H' C = some (.lst ((((dn i).take j).map fun y => psz pr (ps[y]?.getD [])).map V.int))) ⟨Same.new hC, upd_same⟩ (fun j H' _ e => SqL.of (e.1 _ _ e3)) ?_ ?_
    · rintro j x H4 hj ⟨s4, e4⟩
      obtain ⟨y, hy, rfl⟩ := nV_int hj
      have hjl := (List.getElem?_eq_some_iff.mp hy).1
      have hdl := hdn.len i hi
      refine ⟨rfl, _, rfl, _, rfl, D, _, _, _, rfl, rfl, SqL.of (s4 _ _ (s3 _ _ (s2 _ _ e1))), atI_nat (sz y (hdn.lt i hi y (List.mem_of_getElem? hy))), _, e4, sm _ (by rw [List.length_map, List.length_map, List.length_take]; omega), Ov.Same.updn s4 hC, ?_⟩
      rw [upd_same, List.take_add_one, hy, List.map_append, List.map_append]
      rfl
    · rintro H4 ⟨s4, e4⟩
      rw [nV_len, List.take_length] at e4
      refine ⟨C, _, rfl, SqL.of e4, _, s4 _ _ (s3 _ _ e2), sm _ (by rw [List.length_map, List.length_map, List.length_range]; omega), Ov.Same.updn (s2.trans (s3.trans s4)) hB, ?_⟩
      rw [upd_same, List.range_succ, List.map_append, List.map_append]
      rfl
  · rintro H2 ⟨s2, e2⟩
    rw [Int.toNat_natCast, hul] at e2
    exact q H2 B (s1.trans s2) (Same.free s1 hB) e2
end
end K18

namespace K18
open PySem PySem.Spec PyProof.Rows L2 Ov
section
variable {P : Program} {w : World} {K : PySem.W.Frag} {mg : Str → Option Value} {base : Heap}
theorem sc_firsts_of : FnScope ["program", "tree", "firsts", "part", "begin", "cell", "function"] ["program", "tree"] (defScope s_firsts_of) := ⟨rfl, rfl, rfl, by decide +kernel, rfl, by decide +kernel, by decide +kernel⟩
-- 0 program, 1 tree, 2 firsts, 3 part, 4 begin, 5 cell, 6 function
theorem ok_firsts_of (T : Txt w K mg) : FnOk P w K mg base CX0 3 (He.ga K "firsts_of") (fdOf K d_firsts_of) ["program", "tree"] spPlaces := by
  have G_begins := ok_begins (P := P) (base := base) T
  refine T.F_firsts_of.ok sc_firsts_of (fun vs H Q E h => ?_) (fun cdv A outer s H vs Q E hr h => ?_)
  · obtain ⟨v, t, pr, ps, st, dn, rfl, _⟩ := h
    rfl
  obtain ⟨v, t, pr, ps, st, dn, rfl, hpre, hdn, q⟩ := h
  refine ⟨_, PSs.nox (pss_cons (ps_set (i := 2) sc_firsts_of.nd rfl (by first | exact Or.inl rfl | exact Or.inr rfl) (pe_op op_rep (pe_lst (pa_cons pe_int pa_nil)) (pe_callB (r := Evl.rLenS K) call_len_seq (by rfl) T.z_len PySem.boot_len (pa_cons (pv 0) pa_nil))))
      (pss_cons (ps_for PassesOwn.never rfl (Ov.pi_zp (K := K) .t .l rfl (by rfl) T.z_zip (pa_cons (pe_ix (r := rIxT K) ix_tup (pv 1) pe_int (fun _ _ => rfl)) (pa_cons (pe_call G_begins (hr.mono (by omega)) (by rfl) T.g_begins T.kp_begins T.b_begins .nil pass0 (pa_cons (pv 0) (pa_cons (pv 1) pa_nil))) pa_nil))) (Ov.pg_tupK (K := K) (n := 2) rfl rfl (pgs_cons (pg_name (i := 3) sc_firsts_of.nd rfl (by first | exact Or.inl rfl | exact Or.inr rfl)) (pgs_cons (pg_name (i := 4) sc_firsts_of.nd rfl (by first | exact Or.inl rfl | exact Or.inr rfl)) pgs_nil))) (pss_cons (ps_set (i := 5) sc_firsts_of.nd rfl (by first | exact Or.inl rfl | exact Or.inr rfl) (pv 4))
      (pss_one (ps_for PassesOwn.never rfl (Ov.pi_tupK (K := K) rfl (pv 3)) (pg_name (i := 6) sc_firsts_of.nd rfl (by first | exact Or.inl rfl | exact Or.inr rfl)) (pss_cons (ps_asg (pv 5) (pg_sub (pv 2) (pv 6) set_list))
      (pss_one (ps_aug (i := 5) sc_firsts_of.nd rfl (by first | exact Or.inl rfl | exact Or.inr rfl) (pe_ix (r := rIxT K) ix_tup (pe_ix (r := rIxT K) ix_tup (pv 0) (pv 6) (fun _ _ => rfl)) pe_int (fun _ _ => rfl)) ip_add)))))))
      (pss_one (ps_ret (pv 2))))), ?_⟩
  have hpre1 := hpre
  obtain ⟨⟨pa, vp, rfl, hpa, hpf⟩, hok, ⟨a, qa, sa, us, rfl, ha, hqa, hus, hsa⟩, htr⟩ := hpre1
  have hpl := Paired.length hpf
  have hul := Paired.length hus
  have l8 := hok.l8
  have hc := htr.p.count
  refine ⟨sml 1, fun l2 hl2 => ⟨_, rfl, pa, _, rfl, .inr (SqT.of (Same.new hl2 _ _ hpa)), ?_⟩⟩
  refine ⟨l2, ((vp.length : Nat) : Int), _, rfl, rfl, upd_same, by omega, by omega, sml _ (by rw [List.length_singleton, Int.toNat_natCast]; omega), fun F hF => ?_⟩
  rw [rep_v]
  have s2 : Same H (upd (upd H l2 (.lst [V.int 0])) F (.lst (List.replicate vp.length (V.int 0)))) := (Same.new hl2).trans (Same.new hF)
  have fF := Same.free (Same.new (o := .lst [V.int 0]) hl2) hF
  have hpre2 := hpre.keep (Keep.same s2)
  refine ⟨_, rfl, a, _, 0, _, rfl, rfl, SqT.of (s2 _ _ ha), atI_nat (j := 0) rfl, _, rfl, _, rfl, .ref pa, .ref a, pr, ps, st, dn, rfl, hpre2, hdn, fun H2 p s3 hp2 e2 => ?_⟩
  have nFp : F ≠ p := ne_of_none upd_same hp2
  refine ⟨qa, p, us, _, rfl, SqT.of (s3 _ _ (s2 _ _ hqa)), SqL.of e2, ?_⟩
  refine for_it (walk_zp (K := K) (k := .t) (m := .l) (a := qa) (b := p) (n := ps.length) (by rw [List.length_map, List.length_map, List.length_range]; omega)) (fun i σ' H' => ∃ (y3 y4 y5 y6 : Option V) (cs : List Int), σ' = [some (.ref pa), some (.ref a), some (.ref F), y3, y4, y5, y6] ∧ Same H H' ∧ H' p = some (.lst (((List.range ps.length).map (bgn pr ps dn)).map V.int)) ∧ H' F = some (.lst (cs.map V.int)) ∧ Fill pr.length ps (IsCell pr ps dn) i 0 cs)
    ⟨none, none, none, none, List.replicate vp.length 0, rfl, s2.trans s3, e2, by rw [List.map_replicate]; exact s3 _ _ upd_same, Fill.start (by rw [List.length_replicate, hpl])⟩ (fun i σ' H' _ ⟨_, _, _, _, _, _, z1, z2, _⟩ => ⟨SqT.of (z1 _ _ hqa), SqL.of z2⟩) ?_ ?_
  · rintro i z σ' H3 H4 hi ⟨y3, y4, y5, y6, cs, rfl, s4, ep, eF, fl⟩ ⟨tt, x, y, rfl, ht, rfl, hx, hy⟩
    obtain ⟨pt, hpt, ⟨b, rfl, hb⟩⟩ := Paired.get2 hus hx
    obtain ⟨yb, hyb, rfl⟩ := ints_int hy
    rw [List.getElem?_map, List.getElem?_range hi] at hyb
    obtain rfl := Option.some.inj hyb
    have s5 := Same.new (o := .tup [.ref b, .int (bgn pr ps dn i)]) ht
    have s45 := s4.trans s5
    refine ⟨tt, _, rfl, SqT.of upd_same, rfl, _, _, rfl, _, _, rfl, rfl, _, rfl, _, rfl, b, rfl, ⟨_, SqT.of (s45 _ _ hb)⟩, ?_⟩
    refine for_tup (K := K) (a := b) (xs := nV pt) (fun j σ' H' => ∃ (y6 : Option V) (cs : List Int), σ' = [some (.ref pa), some (.ref a), some (.ref F), some (.ref b), some (.int (bgn pr ps dn i)), some (.int (bgn pr ps dn i + psz pr (pt.take j))), y6] ∧ Same H H' ∧ H' p = some (.lst (((List.range ps.length).map (bgn pr ps dn)).map V.int)) ∧ H' F = some (.lst (cs.map V.int)) ∧ Fill pr.length ps (IsCell pr ps dn) i j cs)
      ⟨y6, cs, ?_, s45, s5 _ _ ep, s5 _ _ eF, fl⟩ (fun j σ' H' _ ⟨_, _, _, z1, _⟩ => SqT.of (z1 _ _ hb)) ?_ ?_
    · have e0 : bgn pr ps dn i + psz pr (pt.take 0) = bgn pr ps dn i := by
        rw [List.take_zero]
        exact Int.add_zero _
      rw [e0]
      rfl
    · rintro j x σ' H5 hj ⟨y6, cs, rfl, s6, ep, eF, fl⟩
      obtain ⟨f, hf, rfl⟩ := nV_int hj
      have hm := List.mem_of_getElem? hpt
      have hfl := htr.p.lt hm (List.mem_of_getElem? hf)
      obtain ⟨g, hg⟩ : ∃ g, pr[f]? = some g := ⟨_, List.getElem?_eq_getElem hfl⟩
      obtain ⟨u, hu, ⟨c, wv, rfl, hc2, _⟩⟩ := Paired.got hpf hg
      have efs : fsz pr f = g.1 := by unfold fsz; rw [hg]; rfl
      have s7 := Ov.Same.updn (o := .lst ((cs.map V.int).set f (.int (bgn pr ps dn i + psz pr (pt.take j))))) s6 fF
      refine ⟨_, rfl, _, rfl, _, rfl, F, _, _, f, rfl, rfl, eF, ixN_nat (by rw [List.length_map, fl.1]; exact hfl), ?_⟩
      refine ⟨_, rfl, _, rfl, _, rfl, pa, _, _, _, rfl, rfl, SqT.of (s7 _ _ hpa), atI_nat hu, c, _, 0, _, rfl, rfl, SqT.of (s7 _ _ hc2), atI_nat (j := 0) rfl, _, _, rfl, rfl, some (.int (f : Int)), cs.set f (bgn pr ps dn i + psz pr (pt.take j)), ?_, s7, ?_, ?_, fl.step htr.p hpt hf ?_⟩
      · have ez : bgn pr ps dn i + psz pr (pt.take j) + g.1 = bgn pr ps dn i + psz pr (pt.take (j + 1)) := by
          rw [List.take_add_one, hf]
          show _ = bgn pr ps dn i + psz pr (pt.take j ++ [f])
          rw [psz_snoc, efs, Int.add_assoc]
        rw [← ez]
        rfl
      · rw [upd_ne nFp.symm]
        exact ep
      · rw [upd_same, List.map_set]
      · unfold IsCell
        rw [hpt]
        rfl
    · rintro σ' H5 ⟨y6, cs, rfl, s6, ep, eF, fl⟩
      rw [nV_len] at fl
      exact ⟨_, _, _, _, cs, rfl, s6, ep, eF, fl.next hpt⟩
  · rintro σ' H3 ⟨y3, y4, y5, y6, cs, rfl, s4, ep, eF, fl⟩
    exact ⟨_, rfl, q H3 F cs (s4) (fF) eF fl.cells⟩
theorem sc_end_of : FnScope ["program", "tree", "part", "begin"] ["program", "tree"] (defScope s_end_of) := ⟨rfl, rfl, rfl, by decide +kernel, rfl, by decide +kernel, by decide +kernel⟩
-- 0 program, 1 tree, 2 part, 3 begin
theorem ok_end_of (T : Txt w K mg) : FnOk P w K mg base CX0 3 (He.ga K "end_of") (fdOf K d_end_of) ["program", "tree"] spWanted := by
  have G_begins := ok_begins (P := P) (base := base) T
  have G_size_of := ok_size_of (P := P) (base := base) T
  refine T.F_end_of.ok sc_end_of (fun vs H Q E h => ?_) (fun cdv A outer s H vs Q E hr h => ?_)
  · obtain ⟨v, t, pr, ps, st, dn, rfl, _⟩ := h
    rfl
  obtain ⟨v, t, pr, ps, st, dn, rfl, hpre, hdn, q⟩ := h
  refine ⟨_, PSs.nox (pss_one (ps_ret (pe_callB (r := rMax K) (cr_max rfl) (by rfl) T.z_max (by decide +kernel) (pa_cons (pe_lc (own := [("part", 2), ("begin", 3)]) rfl sc_end_of.nd (Ov.pi_zp (K := K) .t .l rfl (by rfl) T.z_zip (pa_cons (pe_ix (r := rIxT K) ix_tup (pv 1) pe_int (fun _ _ => rfl)) (pa_cons (pe_call G_begins (hr.mono (by omega)) (by rfl) T.g_begins T.kp_begins T.b_begins .nil pass0 (pa_cons (pv 0) (pa_cons (pv 1) pa_nil))) pa_nil))) (blkOk_by (own := [("part", 2), ("begin", 3)]) (N := ["program", "tree", "part", "begin"]) (sc := defScope s_end_of) (by decide +kernel)) (fun _ _ _ _ _ => (Ov.pg_tupK (K := K) (n := 2) rfl rfl (pgs_cons (pg_name (i := 2) sc_end_of.nd rfl (by first | exact Or.inl rfl | exact Or.inr rfl)) (pgs_cons (pg_name (i := 3) sc_end_of.nd rfl (by first | exact Or.inl rfl | exact Or.inr rfl)) pgs_nil)))) (fun _ _ _ _ _ => pts_nil) (fun _ _ _ _ _ => (pe_op op_add (pv 3) (pe_call G_size_of (hr.mono (by omega)) (by rfl) T.g_size_of T.kp_size_of T.b_size_of .nil pass0 (pa_cons (pv 0) (pa_cons (pv 2) pa_nil)))))) pa_nil)))), ?_⟩
  have hpre1 := hpre
  have hpre1' := hpre1
  obtain ⟨hpr, hok, ⟨a, qa, sa, us, rfl, ha, hqa, hus, hsa⟩, htr⟩ := hpre1'
  have hul := Paired.length hus
  have l8 := hok.l8
  have hc := htr.p.count
  have hc1 := htr.p.pos hok.l1
  refine ⟨_, rfl, a, _, 0, _, rfl, rfl, SqT.of ha, atI_nat (j := 0) rfl, _, rfl, _, rfl, v, .ref a, pr, ps, st, dn, rfl, hpre1, hdn, fun H2 p s2 hp2 e2 => ?_⟩
  refine ⟨qa, p, us, _, rfl, SqT.of (s2 _ _ hqa), SqL.of e2, fun D hD => ?_⟩
  have npD : p ≠ D := ne_of_none e2 hD
  refine lc_itY (walk_zp (K := K) (k := .t) (m := .l) (a := qa) (b := p) (n := ps.length) (by rw [List.length_map, List.length_map, List.length_range]; omega)) (fun i H' => Same H2 H' ∧ H' D = some (.lst ((((List.range i).map fun k => bgn pr ps dn k + psz pr (ps[k]?.getD []))).map V.int)))
    ⟨Same.new hD, upd_same⟩ (fun i H' _ z => ⟨SqT.of (z.1 _ _ (s2 _ _ hqa)), SqL.of (z.1 _ _ e2)⟩) ?_ ?_
  · rintro i z H3 H4 hi ⟨s3, e3⟩ ⟨tt, x, y, rfl, ht, rfl, hx, hy⟩
    obtain ⟨pt, hpt, hxp⟩ := Paired.get2 hus hx
    obtain ⟨yb, hyb, rfl⟩ := ints_int hy
    rw [List.getElem?_map, List.getElem?_range hi] at hyb
    obtain rfl := Option.some.inj hyb
    have hm := List.mem_of_getElem? hpt
    have s5 := Same.new (o := .tup [x, .int (bgn pr ps dn i)]) ht
    have s35 := s2.trans (s3.trans s5)
    refine ⟨tt, _, rfl, SqT.of upd_same, rfl, _, _, rfl, _, _, rfl, rfl, rfl, _, rfl, _, rfl, _, rfl, v, x, pr, pt, rfl, hpr.keep (Keep.same s35), hxp.keep (Keep.same s35), fun f hf => htr.p.lt hm hf, by have := htr.p.plen hm; omega, fun H5 s6 => ?_⟩
    refine ⟨_, _, rfl, rfl, _, s6 _ _ (s5 _ _ e3), sm _ (by rw [List.length_map, List.length_map, List.length_range]; omega), Ov.Same.updn (s3.trans (s5.trans s6)) hD, ?_⟩
    rw [upd_same, List.range_succ, List.map_append, List.map_append]
    show some (HO.lst (_ ++ [V.int (bgn pr ps dn i + psz pr pt)])) = some (HO.lst (_ ++ [V.int (bgn pr ps dn i + psz pr (ps[i]?.getD []))]))
    rw [hpt]
    rfl
  · rintro H3 ⟨s3, e3⟩
    refine ⟨D, _, rfl, SqL.of e3, by rw [List.length_map, List.length_range]; omega, fun m hm hle => q H3 m (s2.trans s3) ⟨?_, fun i pt hpt => ?_⟩⟩
    · obtain ⟨k, hk, rfl⟩ := List.mem_map.mp hm
      have hk := List.mem_range.mp hk
      exact ⟨k, ps[k], List.getElem?_eq_getElem hk, by rw [List.getElem?_eq_getElem hk]; rfl⟩
    · have hi := (List.getElem?_eq_some_iff.mp hpt).1
      refine hle _ (List.mem_map.mpr ⟨i, List.mem_range.mpr hi, ?_⟩)
      rw [hpt]
      rfl
theorem sc_way_of : FnScope ["tree", "function", "parts", "stands", "own", "number", "part"] ["tree", "function"] (defScope s_way_of) := ⟨rfl, rfl, rfl, by decide +kernel, rfl, by decide +kernel, by decide +kernel⟩
-- 0 tree, 1 function, 2 parts, 3 stands, 4 own, 5 number, 6 part
theorem ok_way_of (T : Txt w K mg) : FnOk P w K mg base CX0 2 (He.ga K "way_of") (fdOf K d_way_of) ["tree", "function"] spWayOf := by
  have G_parts_below := ok_parts_below (P := P) (base := base) T
  refine T.F_way_of.ok sc_way_of (fun vs H Q E h => ?_) (fun cdv A outer s H vs Q E hr h => ?_)
  · obtain ⟨t, n, ps, st, dn, f, i, pt, rfl, _⟩ := h
    rfl
  obtain ⟨t, n, ps, st, dn, f, i, pt, rfl, ⟨a, qa, sa, us, rfl, ha, hqa, hus, hsa⟩, htr, l8, hdn, hpt, hf, q⟩ := h
  refine ⟨_, PSs.nox (pss_cons (ps_asg (pv 0) (Ov.pg_tupK (K := K) (n := 2) rfl rfl (pgs_cons (pg_name (i := 2) sc_way_of.nd rfl (by first | exact Or.inl rfl | exact Or.inr rfl)) (pgs_cons (pg_name (i := 3) sc_way_of.nd rfl (by first | exact Or.inl rfl | exact Or.inr rfl)) pgs_nil))))
      (pss_cons (ps_setLc (i := 4) (own := [("number", 5), ("part", 6)]) rfl sc_way_of.nd rfl rfl (sw_true rfl rfl rfl (by decide +kernel)) (Ov.pi_en (K := K) .t rfl (by rfl) T.z_enumerate (pa_cons (pv 2) pa_nil)) (blkOk_by (own := [("number", 5), ("part", 6)]) (N := ["tree", "function", "parts", "stands", "own", "number", "part"]) (sc := defScope s_way_of) (by decide +kernel)) (fun _ _ _ _ _ => (Ov.pg_tupK (K := K) (n := 2) rfl rfl (pgs_cons (pg_name (i := 5) sc_way_of.nd rfl (by first | exact Or.inl rfl | exact Or.inr rfl)) (pgs_cons (pg_name (i := 6) sc_way_of.nd rfl (by first | exact Or.inl rfl | exact Or.inr rfl)) pgs_nil)))) (fun _ _ _ _ _ => (pts_one (pt_cmpR (r := rIn K false) op_in_seq (pv 1) (pv 6) (by first | rfl | exact nomark _)))) (fun _ _ _ _ _ => (pv 5)))
      (pss_one (ps_ret (pe_op op_cat (pe_call G_parts_below (hr.mono (by omega)) (by rfl) T.g_parts_below T.kp_parts_below T.b_parts_below .nil pass0 (pa_cons (pv 3) (pa_cons (pe_ix (r := rIxL K) ix_list (pv 4) pe_int (fun _ _ => rfl)) pa_nil))) (pv 4)))))), ?_⟩
  have hul := Paired.length hus
  have hc := htr.p.count
  have hm := List.mem_of_getElem? hpt
  have hil := (List.getElem?_eq_some_iff.mp hpt).1
  refine ⟨_, rfl, a, _, rfl, SqT.of ha, rfl, _, _, rfl, _, _, rfl, rfl, _, rfl, qa, us, rfl, SqT.of hqa, fun D hD => ?_⟩
  refine lc_it (walk_en (K := K) (k := .t) (a := qa) (xs := us)) (fun k H' => Same H H' ∧ H' D = some (.lst (if i < k then [V.int (i : Int)] else [])))
    ⟨Same.new hD, upd_same⟩ (fun k H' _ z => SqT.of (z.1 _ _ hqa)) ?_ ?_
  · rintro k z H2 H3 hk ⟨s2, e2⟩ ⟨tt, x, y, rfl, ht, rfl, hx, hy⟩
    obtain rfl := Option.some.inj hx
    obtain ⟨pk, hpk, ⟨b, rfl, hb⟩⟩ := Paired.get2 hus hy
    have s3 := Same.new (o := .tup [.int (k : Nat), .ref b]) ht
    have hb3 := s3 _ _ (s2 _ _ hb)
    refine ⟨tt, _, rfl, SqT.of upd_same, rfl, _, _, rfl, _, _, rfl, rfl, rfl, _, rfl, _, rfl, b, _, rfl, .inr (SqT.of hb3), rfl, nVflat pk, ?_⟩
    refine ⟨_, rfl, ?_⟩
    have es := s3 _ _ e2
    by_cases ek : k = i
    · subst ek
      obtain rfl : pk = pt := Option.some.inj (hpk.symm.trans hpt)
      rw [if_neg (Nat.lt_irrefl _)] at es
      show if inV (.int (f : Int)) (nV pk) = true then _ else _
      rw [inVnat, decide_eq_true hf]
      refine iteT ⟨_, rfl, _, es, sm 0, Ov.Same.updn (s2.trans s3) hD, ?_⟩
      rw [upd_same, if_pos (Nat.lt_succ_self _)]
      rfl
    · have nin : ¬ f ∈ pk := fun z => by
        obtain ⟨j1, h1⟩ := List.mem_iff_getElem?.mp z
        obtain ⟨j2, h2⟩ := List.mem_iff_getElem?.mp hf
        exact ek (htr.p.uniq hpk h1 hpt h2).1
      show if inV (.int (f : Int)) (nV pk) = true then _ else _
      rw [inVnat, decide_eq_false nin]
      refine iteF ⟨s2.trans s3, ?_⟩
      rw [es]
      by_cases lt : i < k
      · rw [if_pos lt, if_pos (by omega)]
      · rw [if_neg lt, if_neg (by omega)]
  · rintro H2 ⟨s2, e2⟩
    rw [hul, if_pos hil] at e2
    refine ⟨_, rfl, _, rfl, D, _, 0, _, rfl, rfl, SqL.of e2, atI_nat (j := 0) rfl, sa, st, i, dn i, rfl, s2 _ _ hsa, hdn.down i hil, by have := hdn.len i hil; omega, fun H3 p s3 hp e3 => ?_⟩
    refine ⟨_, rfl, p, D, _, _, rfl, rfl, e3, s3 _ _ e2, sml _ (by rw [nV_len, List.length_singleton]; have := hdn.len i hil; omega), fun l hl => ?_⟩
    refine q _ l (s2.trans (s3.trans (Same.new hl))) (Same.free (s2.trans s3) hl) ?_
    rw [upd_same, nV_app]
end
end K18

namespace K18
open PySem PySem.Spec PyProof.Rows L2 Ov
section
variable {P : Program} {w : World} {K : PySem.W.Frag} {mg : Str → Option Value} {base : Heap}
theorem sc_check_room : FnScope ["room"] ["room"] (defScope s_check_room) := ⟨rfl, rfl, rfl, by decide +kernel, rfl, by decide +kernel, by decide +kernel⟩
-- 0 room
theorem ok_check_room (T : Txt w K mg) : FnOk P w K mg base CX0 2 (He.ga K "check_room") (fdOf K d_check_room) ["room"] spCheckRoom := by
  have G_between := ok_between (P := P) (base := base) T
  refine T.F_check_room.ok sc_check_room (fun vs H Q E h => ?_) (fun cdv A outer s H vs Q E hr h => ?_)
  · obtain ⟨r, rfl, _⟩ := h
    rfl
  obtain ⟨r, rfl, h1, h2, q⟩ := h
  refine ⟨_, PSs.nox (pss_one (ps_if (pt_not (pt_val (pe_call G_between (hr.mono (by omega)) (by rfl) T.g_between T.kp_between T.b_between .nil pass0 (pa_cons (pv 0) (pa_cons pe_int (pa_cons (pe_glob (v := .int 64) (by rfl) T.i_MOST_ROOM.choose_spec ⟨_, rfl⟩) pa_nil)))))) (pss_one ps_never) pss_nil)), ?_⟩
  refine ⟨_, rfl, r, 1, 64, rfl, _, rfl, ?_⟩
  rw [decide_eq_true (show (1 : Int) ≤ r ∧ r ≤ 64 from ⟨h1, h2⟩)]
  exact iteF q
def osc_lay : Scope := { kind := .function, names := [(".0", .local), ("part", .local), ("firsts", .cell), ("program", .cell)], isGenerator := false, isCoroutine := false }
theorem sc_layouts : FnScope ["program", "tree", "firsts", "part", "function", "number"] ["program", "tree"] (defScope s_layouts) := ⟨rfl, rfl, rfl, by decide +kernel, rfl, by decide +kernel, by decide +kernel⟩
-- 0 program, 1 tree, 2 firsts, 3 part, 4 function, 5 number
theorem ok_layouts (T : Txt w K mg) : FnOk P w K mg base CX0 4 (He.ga K "layouts") (fdOf K d_layouts) ["program", "tree"] spLayouts := by
  have G_firsts_of := ok_firsts_of (P := P) (base := base) T
  refine T.F_layouts.ok sc_layouts (fun vs H Q E h => ?_) (fun cdv A outer s H vs Q E hr h => ?_)
  · obtain ⟨v, t, pr, ps, st, dn, rfl, _⟩ := h
    rfl
  obtain ⟨v, t, pr, ps, st, dn, rfl, hpre, hdn, q⟩ := h
  refine ⟨_, PSs.nox (pss_cons (ps_set (i := 2) sc_layouts.nd rfl (by first | exact Or.inl rfl | exact Or.inr rfl) (pe_call G_firsts_of (hr.mono (by omega)) (by rfl) T.g_firsts_of T.kp_firsts_of T.b_firsts_of .nil pass0 (pa_cons (pv 0) (pa_cons (pv 1) pa_nil))))
      (pss_one (ps_ret (pe_lc (own := [("part", 3)]) rfl sc_layouts.nd (Ov.pi_tupK (K := K) rfl (pe_ix (r := rIxT K) ix_tup (pv 1) pe_int (fun _ _ => rfl))) (by first | exact blkOk_by (own := [("part", 3)]) (N := ["program", "tree", "firsts", "part", "function", "number"]) (sc := defScope s_layouts) (by decide +kernel) | exact blkOk_by (own := [("part", 3)]) (N := ["program", "tree", "firsts", "part", "function", "number"]) (sc := osc_lay) (by decide +kernel)) (fun _ _ _ _ _ => (pg_name (i := 3) sc_layouts.nd rfl (by first | exact Or.inl rfl | exact Or.inr rfl))) (fun _ _ _ _ _ => pts_nil) (fun _ _ _ _ _ => (pe_lc2 (own := [("function", 4), ("number", 5)]) (vs1 := [5]) rfl sc_layouts.nd (Ov.pi_tupK (K := K) rfl (pv 3)) (by first | exact blkOk_by (own := [("function", 4), ("number", 5)]) (N := ["program", "tree", "firsts", "part", "function", "number"]) (sc := defScope s_layouts) (by decide +kernel) | exact blkOk_by (own := [("function", 4), ("number", 5)]) (N := ["program", "tree", "firsts", "part", "function", "number"]) (sc := osc_lay) (by decide +kernel)) (by decide) (fun _ _ _ _ _ => (pg_name (i := 4) sc_layouts.nd rfl (by first | exact Or.inl rfl | exact Or.inr rfl))) (fun _ _ _ _ _ => pts_nil) (fun _ _ _ _ _ => (pi_range1 (by rfl) T.z_range (pa_cons (pe_ix (r := rIxT K) ix_tup (pe_ix (r := rIxT K) ix_tup (pv 0) (pv 4) (fun _ _ => rfl)) pe_int (fun _ _ => rfl)) pa_nil))) (fun _ _ _ _ _ => (pg_name (i := 5) sc_layouts.nd rfl (by first | exact Or.inl rfl | exact Or.inr rfl))) (fun _ _ _ _ _ => pts_nil) (fun _ _ _ _ _ => (pe_tup (pa_cons (pe_op op_add (pe_ix (r := rIxL K) ix_list (pv 2) (pv 4) (fun _ _ => rfl)) (pv 5)) (pa_cons (pe_tup (pa_cons (pv 4) (pa_cons (pv 5) pa_nil))) pa_nil)))))))))), ?_⟩
  refine ⟨_, rfl, _, rfl, v, t, pr, ps, st, dn, rfl, hpre, hdn, fun H1 F cs s1 hF eF hcs => ?_⟩
  obtain ⟨⟨pa, vp, rfl, hpa, hpf⟩, hok, ⟨a, qa, sa, us, rfl, ha, hqa, hus, hsa⟩, htr⟩ := hpre.keep (Keep.same s1)
  have hul := Paired.length hus
  have l8 := hok.l8
  have hc := htr.p.count
  refine ⟨_, rfl, a, _, 0, _, rfl, rfl, SqT.of ha, atI_nat (j := 0) rfl, qa, rfl, ⟨us, SqT.of hqa⟩, fun D hD => ?_⟩
  refine lc_tupY (K := K) (a := qa) (xs := us) (fun i H' => ∃ ls : List Addr, Same H1 H' ∧ H' D = some (.lst (ls.map V.ref)) ∧ Paired (fun b l => LayAt H' b l ∧ H b = none ∧ b ≠ D) ls ((ps.take i).map (layP pr cs))) ⟨[], Same.new hD, upd_same, .nil⟩ (fun i H' _ ⟨_, e, _⟩ => SqT.of (e _ _ hqa)) ?_ ?_
  · rintro i x H2 hi ⟨ls, s2, eD, hls⟩
    obtain ⟨p, hp, ⟨b, rfl, hb⟩⟩ := Paired.get2 hus hi
    have hil := (List.getElem?_eq_some_iff.mp hp).1
    have hm := List.mem_of_getElem? hp
    have hbl := Paired.length hls
    rw [List.length_map, List.length_take] at hbl
    refine ⟨rfl, _, rfl, b, rfl, ⟨_, SqT.of (s2 _ _ hb)⟩, fun B hB => ?_⟩
    have nDB : D ≠ B := ne_of_none eD hB
    have cell : ∀ {j f : Nat}, p[j]? = some f → cs[f]? = some (bgn pr ps dn i + psz pr (p.take j)) ∧ (layP pr cs (p.take j)).length ≤ 64 ∧ 0 ≤ bgn pr ps dn i + psz pr (p.take j) := fun {j f} hj => by
      have lj := (List.getElem?_eq_some_iff.mp hj).1
      have z := congrArg List.length (lay_cells hok htr.p hcs hp j (by omega))
      rw [List.length_map, List.length_map, List.length_range] at z
      have y := psz_nn hok (p := p.take j) fun x hx => htr.p.lt hm (List.mem_of_mem_take hx)
      have b0 := bgn_nn hok htr.p (dn := dn) (i := i)
      have := htr.p.plen hm
      have := List.length_take_le j p
      have : (p.take j).length ≤ 8 := by rw [List.length_take]; omega
      exact ⟨hcs.2 i p j f hp hj, by omega, by omega⟩
    refine lc2_out (walk_tup (K := K) (a := b) (xs := nV p)) (fun j H' => ∃ vs, Same H2 H' ∧ H' B = some (.lst vs) ∧ Paired (EntL H') vs (layP pr cs (p.take j))) ⟨[], Same.new hB, upd_same, .nil⟩ (fun j H' _ ⟨_, e, _⟩ => SqT.of (e _ _ (s2 _ _ hb))) ?_ ?_
    · rintro j y H3 H4 hj ⟨vs, s3, eB, hvs⟩ ⟨rfl, hy⟩
      obtain ⟨f, hf, rfl⟩ := nV_int hy
      have hfl := htr.p.lt hm (List.mem_of_getElem? hf)
      obtain ⟨hcf, l64, h0⟩ := cell hf
      obtain ⟨g, hg⟩ : ∃ g, pr[f]? = some g := ⟨_, List.getElem?_eq_getElem hfl⟩
      obtain ⟨u, hu, ⟨c, wv, rfl, hc2, _⟩⟩ := Paired.got hpf hg
      have efs : fsz pr f = g.1 := by unfold fsz; rw [hg]; rfl
      have f8 := fsz_pos hok hfl
      have s23 := s2.trans s3
      refine ⟨rfl, _, rfl, _, rfl, pa, _, _, _, rfl, rfl, SqT.of (s23 _ _ hpa), atI_nat hu, c, _, 0, _, rfl, rfl, SqT.of (s23 _ _ hc2), atI_nat (j := 0) rfl, g.1, rfl, by omega, by omega, ?_⟩
      refine lc2_in (walk_range (lo := 0) (n := g.1.toNat)) (fun n H' => ∃ vs, Same H2 H' ∧ H' B = some (.lst vs) ∧ Paired (EntL H') vs (layP pr cs (p.take j) ++ (List.range n).map fun n => ((cs[f]?.getD 0).toNat + n, (f, n)))) ⟨vs, s3, eB, by rw [List.range_zero, List.map_nil, List.append_nil]; exact hvs⟩ (fun _ _ _ _ => True.intro) ?_ ?_
      · rintro n z H5a H5 hn ⟨ws, s5, eB5, hws⟩ ⟨rfl, hz⟩
        obtain rfl : z = .int (0 + (n : Int)) := hz
        have s25 := s2.trans s5
        have hwl := Paired.length hws
        rw [List.length_append, List.length_map, List.length_range] at hwl
        refine ⟨rfl, _, rfl, _, rfl, F, _, _, _, rfl, rfl, SqL.of (s25 _ _ eF), atI_nat (by rw [List.getElem?_map, hcf]; rfl), _, rfl, _, _, rfl, rfl, _, rfl, _, rfl, sml 2, fun t ht => ?_⟩
        have s6 := Same.new (o := .tup [.int (f : Int), .int (0 + (n : Int))]) ht
        have e6 : upd H5 t (.tup [.int (f : Int), .int (0 + (n : Int))]) t = some (.tup [.int (f : Int), .int (0 + (n : Int))]) := upd_same
        have eB6 := s6 _ _ eB5
        generalize upd H5 t (.tup [.int (f : Int), .int (0 + (n : Int))]) = H6 at s6 e6 eB6 ⊢
        refine ⟨sml 2, fun t2 ht2 => ?_⟩
        have s7 := Same.new (o := .tup [.int (bgn pr ps dn i + psz pr (p.take j) + (0 + (n : Int))), .ref t]) ht2
        have e7 : upd H6 t2 (.tup [.int (bgn pr ps dn i + psz pr (p.take j) + (0 + (n : Int))), .ref t]) t2 = some (.tup [.int (bgn pr ps dn i + psz pr (p.take j) + (0 + (n : Int))), .ref t]) := upd_same
        have eB7 := s7 _ _ eB6
        have e67 := s7 _ _ e6
        generalize upd H6 t2 (.tup [.int (bgn pr ps dn i + psz pr (p.take j) + (0 + (n : Int))), .ref t]) = H7 at s7 e7 eB7 e67 ⊢
        have kB := Keep.updL (ys := ws ++ [.ref t2]) eB7
        refine ⟨_, eB7, sm _ (by omega), ws ++ [.ref t2], Ov.Same.updn (s5.trans (s6.trans s7)) hB, upd_same, ?_⟩
        rw [List.range_succ, List.map_append, ← List.append_assoc]
        refine PySem.Paired.snoc (L2.Paired.mapP hws fun _ _ z => (z.keep (Keep.same (s6.trans s7))).keep kB) ?_
        refine EntL.keep kB ⟨t2, .ref t, rfl, ?_, t, rfl, ?_⟩
        · rw [e7, hcf]
          show some (HO.tup [V.int _, V.ref t]) = some (HO.tup [V.int (((bgn pr ps dn i + psz pr (p.take j)).toNat + n : Nat) : Int), V.ref t])
          rw [show (((bgn pr ps dn i + psz pr (p.take j)).toNat + n : Nat) : Int) = bgn pr ps dn i + psz pr (p.take j) + (0 + (n : Int)) by omega]
        · rw [e67, show (0 : Int) + (n : Int) = (n : Int) by omega]
      · rintro H5 ⟨ws, s5, eB5, hws⟩
        refine ⟨ws, s5, eB5, ?_⟩
        rw [List.take_add_one, hf]
        show Paired _ ws (layP pr cs (p.take j ++ [f]))
        rw [layP_snoc, efs]
        exact hws
    · rintro H3 ⟨vs, s3, eB, hvs⟩
      rw [nV_len, List.take_length] at hvs
      have s23 := s2.trans s3
      have eD3 := s3 _ _ eD
      have kD := Keep.updL (ys := ls.map V.ref ++ [.ref B]) eD3
      refine ⟨_, eD3, sm _ (by rw [List.length_map]; omega), ls ++ [B], Ov.Same.updn s23 hD, by rw [upd_same, List.map_append]; rfl, ?_⟩
      rw [List.take_add_one, hp, List.map_append]
      refine PySem.Paired.snoc (L2.Paired.mapP hls fun b' l' ⟨⟨us', z1, z2⟩, z3, z4⟩ => ⟨⟨us', by rw [upd_ne z4]; exact s3 _ _ z1, L2.Paired.mapP z2 fun _ _ y => (y.keep (Keep.same s3)).keep kD⟩, z3, z4⟩) ?_
      exact ⟨⟨vs, by rw [upd_ne nDB.symm]; exact eB, L2.Paired.mapP hvs fun _ _ y => y.keep kD⟩, Same.free (s1.trans s2) hB, nDB.symm⟩
  · rintro H2 ⟨ls, s2, eD, hls⟩
    rw [hul, List.take_length] at hls
    exact q H2 D ls cs (s1.trans s2) (Same.free s1 hD) eD hcs (L2.Paired.mapP hls fun _ _ z => ⟨z.1, z.2.1⟩)
end
end K18

namespace K18
open PySem PySem.Spec PyProof.Rows L2 Ov
section
variable {P : Program} {w : World} {K : PySem.W.Frag} {mg : Str → Option Value} {base : Heap}
theorem sc_Hall_has_part : FnScope ["self", "part", "cell", "content"] ["self", "part"] (defScope s_Hall_has_part) := ⟨rfl, rfl, rfl, by decide +kernel, rfl, by decide +kernel, by decide +kernel⟩
-- 0 self, 1 part, 2 cell, 3 content
theorem ok_Hall_has_part (T : Txt w K mg) : FnOk P w K mg base CX0 1 (He.ma K (He.ga K "Hall") "has_part") (fdOf K d_Hall_has_part) ["self", "part"] (spHasPart K) := by
  refine T.F_Hall_has_part.ok sc_Hall_has_part (fun vs H Q E h => ?_) (fun cdv A outer s H vs Q E hr h => ?_)
  · obtain ⟨H0, x, wys, L, lc, mv, far, q, rfl, _⟩ := h
    rfl
  obtain ⟨H0, x, wys, L, lc, mv, far, q, rfl, ⟨hat, hok, hle⟩, hq, hQ⟩ := h
  refine ⟨_, PSs.nox (pss_one (ps_ret (pe_callB (r := rAll K) (cr_all rfl) (by rfl) T.z_all (by decide +kernel) (pa_cons (pe_lc (own := [("cell", 2), ("content", 3)]) rfl sc_Hall_has_part.nd (Ov.pi_listK (K := K) rfl (pe_ix (r := rIxL K) ix_list (Ov.pe_fldK (K := K) rfl (pv 0) rfl) (pv 1) (fun _ _ => rfl))) (blkOk_by (own := [("cell", 2), ("content", 3)]) (N := ["self", "part", "cell", "content"]) (sc := defScope s_Hall_has_part) (by decide +kernel)) (fun _ _ _ _ _ => (Ov.pg_tupK (K := K) (n := 2) rfl rfl (pgs_cons (pg_name (i := 2) sc_Hall_has_part.nd rfl (by first | exact Or.inl rfl | exact Or.inr rfl)) (pgs_cons (pg_name (i := 3) sc_Hall_has_part.nd rfl (by first | exact Or.inl rfl | exact Or.inr rfl)) pgs_nil)))) (fun _ _ _ _ _ => pts_nil) (fun _ _ _ _ _ => (pe_cmpR (r := rEqD K) (op_eqD hr.units) (pe_ix (r := rIxL K) ix_list (Ov.pe_fldK (K := K) rfl (pv 0) rfl) (pv 2) (fun _ _ => rfl)) (pv 3) (by first | rfl | exact nomark _)))) pa_nil)))), ?_⟩
  obtain ⟨ls, hlo, hls⟩ := hat.lo
  obtain ⟨us, hly, hus⟩ := hat.ly
  have hul := Paired.length hus
  obtain ⟨l, hl⟩ : ∃ l, L[q]? = some l := ⟨_, List.getElem?_eq_getElem hq⟩
  have el : lyr L q = l := by unfold lyr; rw [hl]; rfl
  obtain ⟨b, hb, ⟨es, hes, hent⟩, _, nbl⟩ := Paired.got hls hl
  have hel := Paired.length hent
  have h64 := hok.ln q
  have hlt := hok.lt q
  rw [el] at h64 hlt hQ
  refine ⟨_, rfl, x.a, _, _, _, _, rfl, hat.ob, T.c_Hall, T.a_Hall_layouts, rfl, _, rfl, x.lo, _, _, _, rfl, rfl, SqL.of hlo, atI_nat (by rw [List.getElem?_map, hb]; rfl), b, rfl, ⟨_, SqL.of hes⟩, fun D hD => ?_⟩
  refine lc_listY (K := K) (a := b) (xs := es) (fun i H' => Same H H' ∧ H' D = some (.lst (((l.take i).map fun e => decide (lc[e.1]? = some (some e.2))).map V.bl))) ⟨Same.new hD, upd_same⟩ (fun i H' _ e => SqL.of (e.1 _ _ hes)) ?_ ?_
  · rintro i y H1 hi ⟨s1, e1⟩
    obtain ⟨e, he, t, u, rfl, ht, hc⟩ := Paired.get2 hent hi
    have hem := hlt e (List.mem_of_getElem? he)
    obtain ⟨c, hcc⟩ : ∃ c, lc[e.1]? = some c := ⟨_, List.getElem?_eq_getElem (by omega)⟩
    obtain ⟨v, hv, hcell⟩ := Paired.got hus hcc
    refine ⟨t, _, rfl, SqT.of (s1 _ _ ht), rfl, _, _, rfl, _, _, rfl, rfl, rfl, _, rfl, x.a, _, _, _, _, rfl, s1 _ _ hat.ob, T.c_Hall, T.a_Hall_lying, rfl, _, rfl, x.ly, _, _, _, rfl, rfl, SqL.of (s1 _ _ hly), atI_nat hv, _, rfl, cellD c, cellD (some e.2), cell_dp (hcell.keep (Keep.same s1)), cell_dp (c := some e.2) (hc.keep (Keep.same s1)), cell_shaped _, cell_shaped _, ?_⟩
    rw [cell_eqv]
    refine ⟨_, e1, sm _ (by rw [List.length_map, List.length_map, List.length_take]; omega), Ov.Same.updn s1 hD, ?_⟩
    rw [upd_same, List.take_add_one, he, List.map_append, List.map_append]
    show some (HO.lst (_ ++ [V.bl (decide (c = some e.2))])) = some (HO.lst (_ ++ [V.bl (decide (lc[e.1]? = some (some e.2)))]))
    rw [hcc]
    congr 4
    refine congrArg V.bl (Bool.eq_iff_iff.mpr ?_)
    rw [decide_eq_true_iff, decide_eq_true_iff]
    exact ⟨fun z => by rw [z], fun z => Option.some.inj z⟩
  · rintro H1 ⟨s1, e1⟩
    rw [hel, List.take_length] at e1
    refine ⟨D, _, rfl, SqL.of e1, ?_⟩
    show Q (.bl ((l.map fun e => decide (lc[e.1]? = some (some e.2))).all id)) H1
    rw [List.all_map]
    exact hQ H1 s1
theorem sc_Hall_bring : FnScope ["self", "part", "cell", "content"] ["self", "part"] (defScope s_Hall_bring) := ⟨rfl, rfl, rfl, by decide +kernel, rfl, by decide +kernel, by decide +kernel⟩
-- 0 self, 1 part, 2 cell, 3 content
theorem ok_Hall_bring (T : Txt w K mg) : FnOk P w K mg base CX0 1 (He.ma K (He.ga K "Hall") "bring") (fdOf K d_Hall_bring) ["self", "part"] (spBring K) := by
  refine T.F_Hall_bring.ok sc_Hall_bring (fun vs H Q E h => ?_) (fun cdv A outer s H vs Q E hr h => ?_)
  · obtain ⟨H0, x, wys, L, lc, mv, far, q, rfl, _⟩ := h
    rfl
  obtain ⟨H0, x, wys, L, lc, mv, far, q, rfl, ⟨hat, hok, hle⟩, hq, hQ⟩ := h
  refine ⟨_, PSs.nox (pss_one (ps_for PassesOwn.never rfl (Ov.pi_listK (K := K) rfl (pe_ix (r := rIxL K) ix_list (Ov.pe_fldK (K := K) rfl (pv 0) rfl) (pv 1) (fun _ _ => rfl))) (Ov.pg_tupK (K := K) (n := 2) rfl rfl (pgs_cons (pg_name (i := 2) sc_Hall_bring.nd rfl (by first | exact Or.inl rfl | exact Or.inr rfl)) (pgs_cons (pg_name (i := 3) sc_Hall_bring.nd rfl (by first | exact Or.inl rfl | exact Or.inr rfl)) pgs_nil))) (pss_cons (ps_asg (pv 3) (pg_sub (Ov.pe_fldK (K := K) rfl (pv 0) rfl) (pv 2) set_list))
      (pss_one (ps_fldaug (pv 0) pe_int in_add))))), ?_⟩
  obtain ⟨ls, hlo, hls⟩ := hat.lo
  obtain ⟨l, hl⟩ : ∃ l, L[q]? = some l := ⟨_, List.getElem?_eq_getElem hq⟩
  have el : lyr L q = l := by unfold lyr; rw [hl]; rfl
  obtain ⟨b, hb, ⟨es, hes, hent⟩, _, nbl⟩ := Paired.got hls hl
  have hel := Paired.length hent
  have hlt := hok.lt q
  rw [el] at hlt hQ
  have nba : b ≠ x.a := ne_of hes hat.ob (by intro z; cases z)
  refine ⟨_, rfl, x.a, _, _, _, _, rfl, hat.ob, T.c_Hall, T.a_Hall_layouts, rfl, _, rfl, x.lo, _, _, _, rfl, rfl, SqL.of hlo, atI_nat (by rw [List.getElem?_map, hb]; rfl), b, rfl, ⟨_, SqL.of hes⟩, ?_⟩
  refine for_list (K := K) (a := b) (xs := es) (fun i σ' H' => ∃ y2 y3 : Option V, σ' = [some (.ref x.a), some (.int (q : Int)), y2, y3] ∧ ButHl x H H' ∧ HallAt K H0 H' x wys L (brg lc (l.take i)) (mv + (i : Int))) ⟨none, none, rfl, ButHl.refl, by rw [List.take_zero]; show HallAt K H0 H x wys L lc (mv + 0); rw [Int.add_zero]; exact hat⟩ (fun i σ' H' _ ⟨_, _, _, z, _⟩ => SqL.of (z _ _ nba nbl hes)) ?_ ?_
  · rintro i y σ' H1 hi ⟨y2, y3, rfl, b1, h1⟩
    obtain ⟨e, he, t, u, rfl, ht, hc⟩ := Paired.get2 hent hi
    have k1 := ButHl.keep hat b1
    have hem := hlt e (List.mem_of_getElem? he)
    obtain ⟨vs, hly, hvs⟩ := h1.ly
    have hvl := Paired.length hvs
    rw [brg_len] at hvl
    refine ⟨t, _, rfl, SqT.of (k1 _ _ ht), rfl, _, _, rfl, _, _, rfl, rfl, _, rfl, _, rfl, x.a, _, _, _, _, rfl, h1.ob, T.c_Hall, T.a_Hall_lying, rfl, _, rfl, x.ly, _, _, e.1, rfl, rfl, hly, ixN_nat (by omega), ?_⟩
    obtain ⟨h2, b2⟩ := h1.setc hly (hc.keep k1) e.1
    generalize upd H1 x.ly (.lst (vs.set e.1 u)) = H2 at h2 b2 ⊢
    refine ⟨_, rfl, x.a, _, _, _, _, rfl, h2.ob, T.c_Hall, T.a_Hall_moved, rfl, _, _, rfl, rfl, x.dx, _, h2.ob, by show 4 < 1000; decide, ?_⟩
    obtain ⟨h3, b3⟩ := h2.mvd (mv + (i : Int) + 1)
    refine ⟨_, _, rfl, b1.trans (b2.trans b3), ?_⟩
    rw [List.take_add_one, he]
    show HallAt K H0 _ x wys L (brg lc (l.take i ++ [e])) _
    rw [brg_snoc, show mv + ((i + 1 : Nat) : Int) = mv + (i : Int) + 1 by omega]
    exact h3
  · rintro σ' H1 ⟨y2, y3, rfl, b1, h1⟩
    rw [hel, List.take_length] at h1
    exact hQ H1 b1 ⟨h1, hok, by rw [brg_len]; exact hle⟩
theorem sc_Hall_look : FnScope ["self", "function", "missing", "part"] ["self", "function"] (defScope s_Hall_look) := ⟨rfl, rfl, rfl, by decide +kernel, rfl, by decide +kernel, by decide +kernel⟩
-- 0 self, 1 function, 2 missing, 3 part
theorem ok_Hall_look (T : Txt w K mg) : FnOk P w K mg base CX0 3 (He.ma K (He.ga K "Hall") "look") (fdOf K d_Hall_look) ["self", "function"] (spLook K) := by
  have G_check_function := ok_check_function (P := P) (base := base) T
  have G_Hall_has_part := ok_Hall_has_part (P := P) (base := base) T
  have G_Hall_bring := ok_Hall_bring (P := P) (base := base) T
  refine T.F_Hall_look.ok sc_Hall_look (fun vs H Q E h => ?_) (fun cdv A outer s H vs Q E hr h => ?_)
  · obtain ⟨H0, x, wys, L, lc, mv, far, f, w, rfl, _⟩ := h
    rfl
  obtain ⟨H0, x, wys, L, lc, mv, far, f, w, rfl, hin, hw, hQ⟩ := h
  refine ⟨_, PSs.nox (pss_cons (ps_expr (pe_call G_check_function (hr.mono (by omega)) (by rfl) T.g_check_function T.kp_check_function T.b_check_function .nil pass0 (pa_cons (pv 1) (pa_cons (pe_callB (r := Evl.rLenS K) call_len_seq (by rfl) T.z_len PySem.boot_len (pa_cons (Ov.pe_fldK (K := K) rfl (pv 0) rfl) pa_nil)) pa_nil))))
      (pss_cons (ps_setLc (i := 2) (own := [("part", 3)]) rfl sc_Hall_look.nd rfl rfl (sw_true rfl rfl rfl (by decide +kernel)) (Ov.pi_listK (K := K) rfl (pe_ix (r := rIxL K) ix_list (Ov.pe_fldK (K := K) rfl (pv 0) rfl) (pv 1) (fun _ _ => rfl))) (blkOk_by (own := [("part", 3)]) (N := ["self", "function", "missing", "part"]) (sc := defScope s_Hall_look) (by decide +kernel)) (fun _ _ _ _ _ => (pg_name (i := 3) sc_Hall_look.nd rfl (by first | exact Or.inl rfl | exact Or.inr rfl))) (fun _ _ _ _ _ => (pts_one (pt_not (pt_val (pe_meth (pv 0) T.c_Hall T.m_Hall_has_part G_Hall_has_part (hr.mono (by omega)) T.b_Hall_has_part .nil pass0 (pa_cons (pv 3) pa_nil)))))) (fun _ _ _ _ _ => (pv 3)))
      (pss_cons (ps_for PassesOwn.never rfl (Ov.pi_listK (K := K) rfl (pv 2)) (pg_name (i := 3) sc_Hall_look.nd rfl (by first | exact Or.inl rfl | exact Or.inr rfl)) (pss_one (ps_expr (pe_meth (pv 0) T.c_Hall T.m_Hall_bring G_Hall_bring (hr.mono (by omega)) T.b_Hall_bring .nil pass0 (pa_cons (pv 3) pa_nil)))))
      (pss_one (ps_ret (pv 2)))))), ?_⟩
  obtain ⟨hat, hok, hle⟩ := hin
  obtain ⟨ws, hwy, hws⟩ := hat.wy
  have hwl := Paired.length hws
  have hfl := (List.getElem?_eq_some_iff.mp hw).1
  obtain ⟨b, hb, hbw, _, nbl⟩ := Paired.got hws hw
  obtain ⟨w8, wlt⟩ := hok.wl w (List.mem_of_getElem? hw)
  refine ⟨_, rfl, _, rfl, x.a, _, _, _, _, rfl, hat.ob, T.c_Hall, T.a_Hall_ways, rfl, x.wy, _, rfl, .inl (SqL.of hwy), f, ws.length, ?_, by omega, ?_⟩
  · rw [List.length_map]
    rfl
  refine ⟨_, rfl, x.a, _, _, _, _, rfl, hat.ob, T.c_Hall, T.a_Hall_ways, rfl, _, rfl, x.wy, _, _, _, rfl, rfl, SqL.of hwy, atI_nat (by rw [List.getElem?_map, hb]; rfl), b, rfl, ⟨_, SqL.of hbw⟩, fun D hD => ?_⟩
  have nDy : D ≠ x.ly := by
    obtain ⟨us, hly, _⟩ := hat.ly
    exact (ne_of_none hly hD).symm
  refine lc_list (K := K) (a := b) (xs := nV w) (fun i H' => Same H H' ∧ H' D = some (.lst (nV (mis lc L (w.take i))))) ⟨Same.new hD, upd_same⟩ (fun i H' _ e => SqL.of (e.1 _ _ hbw)) ?_ ?_
  · rintro i y H1 hi ⟨s1, e1⟩
    obtain ⟨q, hq, rfl⟩ := nV_int hi
    have hil := (List.getElem?_eq_some_iff.mp hq).1
    have hml : (mis lc L (w.take i)).length ≤ 8 := Nat.le_trans (List.length_filter_le _ _) (by rw [List.length_take]; omega)
    have em : mis lc L (w.take (i + 1)) = mis lc L (w.take i) ++ (if Has lc (lyr L q) = true then [] else [q]) := by
      unfold mis
      rw [List.take_add_one, hq, List.filter_append]
      congr 1
      cases e : Has lc (lyr L q) <;> simp [e]
    refine ⟨rfl, _, rfl, x.a, _, _, rfl, s1 _ _ hat.ob, rfl, _, rfl, H0, x, wys, L, lc, mv, far, q, rfl, ⟨hat.same s1, hok, hle⟩, wlt q (List.mem_of_getElem? hq), fun H2 s2 => ?_⟩
    rw [em]
    cases hh : Has lc (lyr L q) with
    | true => exact ⟨_, rfl, iteF ⟨s1.trans s2, by rw [s2 _ _ e1]; simp⟩⟩
    | false =>
      refine ⟨_, rfl, iteT ⟨_, rfl, _, s2 _ _ e1, sm _ (by rw [nV_len]; omega), Ov.Same.updn (s1.trans s2) hD, ?_⟩⟩
      rw [upd_same, if_neg (by decide), nV_app]
  rintro H1 ⟨s1, e1⟩
  rw [nV_len, List.take_length] at e1
  have hat1 := hat.same s1
  generalize hms : mis lc L w = ms at e1 hQ
  have hmm : ∀ q ∈ ms, q < L.length := fun q hq => by
    rw [← hms] at hq
    exact wlt q (List.mem_filter.mp hq).1
  have nDa : D ≠ x.a := (ne_of_none hat.ob hD).symm
  refine ⟨_, rfl, D, rfl, ⟨_, SqL.of e1⟩, ?_⟩
  refine for_list (K := K) (a := D) (xs := nV ms) (fun i σ' H' => ∃ y3 : Option V, σ' = [some (.ref x.a), some (.int (f : Int)), some (.ref D), y3] ∧ ButHl x H1 H' ∧ HallIn K H0 H' x wys L (brgs lc L (ms.take i)) (mv + (siz L (ms.take i) : Nat)) far) ⟨none, rfl, ButHl.refl, by rw [List.take_zero]; show HallIn K H0 H1 x wys L lc (mv + 0) far; rw [Int.add_zero]; exact ⟨hat1, hok, hle⟩⟩ (fun i σ' H' _ ⟨_, _, z, _⟩ => SqL.of (z _ _ nDa nDy e1)) ?_ ?_
  · rintro i y σ' H2 hi ⟨y3, rfl, b2, h2⟩
    obtain ⟨q, hq, rfl⟩ := nV_int hi
    refine ⟨_, rfl, x.a, _, _, rfl, h2.at_.ob, rfl, _, rfl, H0, x, wys, L, _, _, far, q, rfl, h2, hmm q (List.mem_of_getElem? hq), fun H3 b3 h3 => ⟨_, rfl, b2.trans b3, ?_⟩⟩
    rw [List.take_add_one, hq]
    show HallIn K H0 H3 x wys L (brgs lc L (ms.take i ++ [q])) (mv + ((siz L (ms.take i ++ [q]) : Nat) : Int)) far
    rw [brgs_snoc, siz_snoc, Int.natCast_add, ← Int.add_assoc]
    exact h3
  · rintro σ' H2 ⟨y3, rfl, b2, h2⟩
    rw [nV_len, List.take_length] at h2
    refine ⟨_, rfl, hQ H2 D ((ButHl.same s1).trans b2) hD nDy (b2 _ _ nDa nDy e1) h2⟩
theorem sc_Hall_there : FnScope ["self", "function", "part"] ["self", "function"] (defScope s_Hall_there) := ⟨rfl, rfl, rfl, by decide +kernel, rfl, by decide +kernel, by decide +kernel⟩
-- 0 self, 1 function, 2 part
theorem ok_Hall_there (T : Txt w K mg) : FnOk P w K mg base CX0 3 (He.ma K (He.ga K "Hall") "there") (fdOf K d_Hall_there) ["self", "function"] (spThere K) := by
  have G_check_function := ok_check_function (P := P) (base := base) T
  have G_Hall_has_part := ok_Hall_has_part (P := P) (base := base) T
  refine T.F_Hall_there.ok sc_Hall_there (fun vs H Q E h => ?_) (fun cdv A outer s H vs Q E hr h => ?_)
  · obtain ⟨H0, x, wys, L, lc, mv, far, f, w, rfl, _⟩ := h
    rfl
  obtain ⟨H0, x, wys, L, lc, mv, far, f, w, rfl, hin, hw, hQ⟩ := h
  refine ⟨_, PSs.nox (pss_cons (ps_expr (pe_call G_check_function (hr.mono (by omega)) (by rfl) T.g_check_function T.kp_check_function T.b_check_function .nil pass0 (pa_cons (pv 1) (pa_cons (pe_callB (r := Evl.rLenS K) call_len_seq (by rfl) T.z_len PySem.boot_len (pa_cons (Ov.pe_fldK (K := K) rfl (pv 0) rfl) pa_nil)) pa_nil))))
      (pss_one (ps_ret (pe_callB (r := rAll K) (cr_all rfl) (by rfl) T.z_all (by decide +kernel) (pa_cons (pe_lc (own := [("part", 2)]) rfl sc_Hall_there.nd (Ov.pi_listK (K := K) rfl (pe_ix (r := rIxL K) ix_list (Ov.pe_fldK (K := K) rfl (pv 0) rfl) (pv 1) (fun _ _ => rfl))) (blkOk_by (own := [("part", 2)]) (N := ["self", "function", "part"]) (sc := defScope s_Hall_there) (by decide +kernel)) (fun _ _ _ _ _ => (pg_name (i := 2) sc_Hall_there.nd rfl (by first | exact Or.inl rfl | exact Or.inr rfl))) (fun _ _ _ _ _ => pts_nil) (fun _ _ _ _ _ => (pe_meth (pv 0) T.c_Hall T.m_Hall_has_part G_Hall_has_part (hr.mono (by omega)) T.b_Hall_has_part .nil pass0 (pa_cons (pv 2) pa_nil)))) pa_nil))))), ?_⟩
  obtain ⟨hat, hok, hle⟩ := hin
  obtain ⟨ws, hwy, hws⟩ := hat.wy
  have hwl := Paired.length hws
  have hfl := (List.getElem?_eq_some_iff.mp hw).1
  obtain ⟨b, hb, hbw, _, nbl⟩ := Paired.got hws hw
  obtain ⟨w8, wlt⟩ := hok.wl w (List.mem_of_getElem? hw)
  refine ⟨_, rfl, _, rfl, x.a, _, _, _, _, rfl, hat.ob, T.c_Hall, T.a_Hall_ways, rfl, x.wy, _, rfl, .inl (SqL.of hwy), f, ws.length, ?_, by omega, ?_⟩
  · rw [List.length_map]
    rfl
  refine ⟨_, rfl, x.a, _, _, _, _, rfl, hat.ob, T.c_Hall, T.a_Hall_ways, rfl, _, rfl, x.wy, _, _, _, rfl, rfl, SqL.of hwy, atI_nat (by rw [List.getElem?_map, hb]; rfl), b, rfl, ⟨_, SqL.of hbw⟩, fun D hD => ?_⟩
  refine lc_listY (K := K) (a := b) (xs := nV w) (fun i H' => Same H H' ∧ H' D = some (.lst (((w.take i).map fun q => Has lc (lyr L q)).map V.bl))) ⟨Same.new hD, upd_same⟩ (fun i H' _ e => SqL.of (e.1 _ _ hbw)) ?_ ?_
  · rintro i y H1 hi ⟨s1, e1⟩
    obtain ⟨q, hq, rfl⟩ := nV_int hi
    have hil := (List.getElem?_eq_some_iff.mp hq).1
    refine ⟨rfl, _, rfl, x.a, _, _, rfl, s1 _ _ hat.ob, rfl, _, rfl, H0, x, wys, L, lc, mv, far, q, rfl, ⟨hat.same s1, hok, hle⟩, wlt q (List.mem_of_getElem? hq), fun H2 s2 => ?_⟩
    refine ⟨_, s2 _ _ e1, sm _ (by rw [List.length_map, List.length_map, List.length_take]; omega), Ov.Same.updn (s1.trans s2) hD, ?_⟩
    rw [upd_same, List.take_add_one, hq, List.map_append, List.map_append]
    rfl
  · rintro H1 ⟨s1, e1⟩
    rw [nV_len, List.take_length] at e1
    refine ⟨D, _, rfl, SqL.of e1, ?_⟩
    show Q (.bl ((w.map fun q => Has lc (lyr L q)).all id)) H1
    rw [List.all_map]
    exact hQ H1 s1
theorem sc_Hall_cells : FnScope ["self"] ["self"] (defScope s_Hall_cells) := ⟨rfl, rfl, rfl, by decide +kernel, rfl, by decide +kernel, by decide +kernel⟩
-- 0 self
theorem ok_Hall_cells (T : Txt w K mg) : FnOk P w K mg base CX0 1 (He.ma K (He.ga K "Hall") "cells") (fdOf K d_Hall_cells) ["self"] (spCells K) := by
  refine T.F_Hall_cells.ok sc_Hall_cells (fun vs H Q E h => ?_) (fun cdv A outer s H vs Q E hr h => ?_)
  · obtain ⟨H0, x, wys, L, lc, mv, far, rfl, _⟩ := h
    rfl
  obtain ⟨H0, x, wys, L, lc, mv, far, rfl, ⟨hat, hok, hle⟩, hQ⟩ := h
  refine ⟨_, PSs.nox (pss_one (ps_ret (pe_callTy (r := Evl.rListS K) call_list_of (by rfl) T.z_list (by decide +kernel) (pa_cons (Ov.pe_fldK (K := K) rfl (pv 0) rfl) pa_nil)))), ?_⟩
  obtain ⟨us, hly, hus⟩ := hat.ly
  refine ⟨_, rfl, x.a, _, _, _, _, rfl, hat.ob, T.c_Hall, T.a_Hall_lying, rfl, x.ly, us, rfl, .inl (SqL.of hly), fun r hr2 => ?_⟩
  exact hQ _ r us (Same.new hr2) hr2 upd_same (L2.Paired.mapP hus fun _ _ z => z.keep (Keep.same (Same.new hr2)))
theorem sc_Hall_brought : FnScope ["self"] ["self"] (defScope s_Hall_brought) := ⟨rfl, rfl, rfl, by decide +kernel, rfl, by decide +kernel, by decide +kernel⟩
-- 0 self
theorem ok_Hall_brought (T : Txt w K mg) : FnOk P w K mg base CX0 1 (He.ma K (He.ga K "Hall") "brought") (fdOf K d_Hall_brought) ["self"] (spBrought K) := by
  refine T.F_Hall_brought.ok sc_Hall_brought (fun vs H Q E h => ?_) (fun cdv A outer s H vs Q E hr h => ?_)
  · obtain ⟨H0, x, wys, L, lc, mv, far, rfl, _⟩ := h
    rfl
  obtain ⟨H0, x, wys, L, lc, mv, far, rfl, ⟨hat, hok, hle⟩, hQ⟩ := h
  refine ⟨_, PSs.nox (pss_one (ps_ret (Ov.pe_fldK (K := K) rfl (pv 0) rfl))), ?_⟩
  exact ⟨_, rfl, x.a, _, _, _, _, rfl, hat.ob, T.c_Hall, T.a_Hall_moved, rfl, hQ⟩
end
end K18

namespace K18
open PySem PySem.Spec PyProof.Rows L2 Ov
section
variable {P : Program} {w : World} {K : PySem.W.Frag} {mg : Str → Option Value} {base : Heap}
theorem sc_Hall_init : FnScope ["self", "program", "tree", "room", "function"] ["self", "program", "tree", "room"] (defScope s_Hall_init) := ⟨rfl, rfl, rfl, by decide +kernel, rfl, by decide +kernel, by decide +kernel⟩
-- 0 self, 1 program, 2 tree, 3 room, 4 function
theorem ok_Hall_init (T : Txt w K mg) : FnOk P w K mg base CX0 13 (He.ma K (He.ga K "Hall") "__init__") (fdOf K d_Hall_init) ["self", "program", "tree", "room"] (spHallInit K) := by
  have G_check_tree := ok_check_tree (P := P) (base := base) T
  have G_check_room := ok_check_room (P := P) (base := base) T
  have G_end_of := ok_end_of (P := P) (base := base) T
  have G_way_of := ok_way_of (P := P) (base := base) T
  have G_layouts := ok_layouts (P := P) (base := base) T
  refine T.F_Hall_init.ok sc_Hall_init (fun vs H Q E h => ?_) (fun cdv A outer s H vs Q E hr h => ?_)
  · obtain ⟨H0, a, dx, v, t, pr, ps, st, dn, far, room, rfl, _⟩ := h
    rfl
  obtain ⟨H0, a, dx, v, t, pr, ps, st, dn, far, room, rfl, hea, h0a, h0, hpre, hdn, hfar, hle, h64, q⟩ := h
  refine ⟨_, PSs.nox (pss_cons (ps_expr (pe_call G_check_tree (hr.mono (by omega)) (by rfl) T.g_check_tree T.kp_check_tree T.b_check_tree .nil pass0 (pa_cons (pv 1) (pa_cons (pv 2) pa_nil))))
      (pss_cons (ps_expr (pe_call G_check_room (hr.mono (by omega)) (by rfl) T.g_check_room T.kp_check_room T.b_check_room .nil pass0 (pa_cons (pv 3) pa_nil)))
      (pss_cons (ps_if (pt_cmpR op_lt (pv 3) (pe_call G_end_of (hr.mono (by omega)) (by rfl) T.g_end_of T.kp_end_of T.b_end_of .nil pass0 (pa_cons (pv 1) (pa_cons (pv 2) pa_nil))) (nomark _)) (pss_one ps_never) pss_nil)
      (pss_cons (ps_fld (pv 0) (pe_lc (own := [("function", 4)]) rfl sc_Hall_init.nd (pi_range1 (by rfl) T.z_range (pa_cons (pe_callB (r := Evl.rLenS K) call_len_seq (by rfl) T.z_len PySem.boot_len (pa_cons (pv 1) pa_nil)) pa_nil)) (blkOk_by (own := [("function", 4)]) (N := ["self", "program", "tree", "room", "function"]) (sc := defScope s_Hall_init) (by decide +kernel)) (fun _ _ _ _ _ => (pg_name (i := 4) sc_Hall_init.nd rfl (by first | exact Or.inl rfl | exact Or.inr rfl))) (fun _ _ _ _ _ => pts_nil) (fun _ _ _ _ _ => (pe_call G_way_of (hr.mono (by omega)) (by rfl) T.g_way_of T.kp_way_of T.b_way_of .nil pass0 (pa_cons (pv 2) (pa_cons (pv 4) pa_nil))))) rfl)
      (pss_cons (ps_fld (pv 0) (pe_call G_layouts (hr.mono (by omega)) (by rfl) T.g_layouts T.kp_layouts T.b_layouts .nil pass0 (pa_cons (pv 1) (pa_cons (pv 2) pa_nil))) rfl)
      (pss_cons (ps_fld (pv 0) (pe_op op_rep (pe_lst (pa_cons pe_non pa_nil)) (pv 3)) rfl)
      (pss_one (ps_fld (pv 0) pe_int rfl)))))))), ?_⟩
  refine ⟨_, rfl, _, rfl, v, t, pr, ps, st, rfl, hpre, fun H1 s1 => ?_⟩
  have hok := hpre.2.1
  have htr := hpre.2.2.2
  have l8 := hok.l8
  have hc := htr.p.count
  have hfar1 : 1 ≤ far := by
    obtain ⟨i, p, hp, e⟩ := hfar.1
    have h1 := psz_nn hok (p := p) fun x hx => htr.p.lt (List.mem_of_getElem? hp) hx
    have h2 := List.length_pos_iff.mpr (htr.p.ne p (List.mem_of_getElem? hp))
    have h3 := bgn_nn hok htr.p (dn := dn) (i := i)
    omega
  refine ⟨_, rfl, (room : Int), rfl, by omega, by omega, ?_⟩
  refine ⟨_, rfl, _, rfl, _, rfl, v, t, pr, ps, st, dn, rfl, hpre.keep (Keep.same s1), hdn, fun H2 m s2 hm => ?_⟩
  obtain rfl : m = far := hm.uniq hfar
  refine ⟨_, _, rfl, rfl, _, rfl, ?_⟩
  rw [decide_eq_false (show ¬ (room : Int) < m by omega)]
  refine iteF ?_
  have s02 := s1.trans s2
  obtain ⟨⟨pa, vp, rfl, hpa, hpf⟩, _, htr2, _⟩ := hpre.keep (Keep.same s02)
  have hpl := Paired.length hpf
  refine ⟨_, rfl, pa, _, rfl, .inr (SqT.of hpa), _, rfl, by omega, by omega, fun D hD => ?_⟩
  refine lc_rangeY (lo := 0) (n := ((vp.length : Nat) : Int).toNat) (fun i H' => ∃ bs : List Addr, Same H2 H' ∧ H' D = some (.lst (bs.map V.ref)) ∧ Paired (fun b w => H' b = some (.lst (nV w)) ∧ H b = none ∧ b ≠ D) bs ((List.range i).map (wayF ps dn))) ⟨[], Same.new hD, upd_same, .nil⟩ ?_ ?_
  · rintro i H3 hi ⟨bs, s3, eD, hbs⟩
    rw [Int.toNat_natCast, hpl] at hi
    obtain ⟨k, p, j, e1, e2⟩ := htr.p.stands hi
    have hpm := List.mem_of_getElem? e2
    have hkl := (List.getElem?_eq_some_iff.mp e1).1
    have hbl := Paired.length hbs
    rw [List.length_map, List.length_range] at hbl
    refine ⟨rfl, _, rfl, _, rfl, t, pr.length, ps, st, dn, i, k, p, ?_, htr2.keep (Keep.same s3), htr, l8, hdn, e1, hpm, fun H4 r s4 hr4 e4 => ?_⟩
    · show [t, V.int (0 + (i : Int))] = _
      rw [Int.zero_add]
    have eD4 := s4 _ _ eD
    have nDr : D ≠ r := ne_of_none eD hr4
    refine ⟨_, eD4, sm _ (by rw [List.length_map]; omega), bs ++ [r], Ov.Same.updn (s3.trans s4) hD, by rw [upd_same, List.map_append]; rfl, ?_⟩
    rw [List.range_succ, List.map_append]
    refine PySem.Paired.snoc (L2.Paired.mapP hbs fun b w ⟨z1, z2, z3⟩ => ⟨by rw [upd_ne z3]; exact s4 _ _ z1, z2, z3⟩) ⟨?_, Same.free (s02.trans s3) hr4, nDr.symm⟩
    rw [upd_ne nDr.symm, e4]
    unfold wayF
    rw [prt_eq htr.p e1 hpm]
  rintro H3 ⟨bs, s3, eD, hbs⟩
  rw [Int.toNat_natCast, hpl] at hbs
  have s03 := s02.trans s3
  have ea3 := s03 _ _ hea
  have nDa : D ≠ a := (ne_of_none (s02 _ _ hea) hD).symm
  have hD0 := Same.free s02 hD
  refine ⟨_, rfl, a, _, dx, _, rfl, ea3, T.c_Hall, T.a_Hall_ways, by show 0 < 1000; decide, ?_⟩
  have ea4 : upd H3 a (.ins (He.ga K "Hall") dx (putF "ways" (.ref D) [])) a = some (.ins (He.ga K "Hall") dx (putF "ways" (.ref D) [])) := upd_same
  have b4 : ∀ b o, b ≠ a → H3 b = some o → upd H3 a (.ins (He.ga K "Hall") dx (putF "ways" (.ref D) [])) b = some o := fun b o n e => by rw [upd_ne n]; exact e
  generalize upd H3 a (.ins (He.ga K "Hall") dx (putF "ways" (.ref D) [])) = H4 at ea4 b4 ⊢
  have k04 : Keep H H4 := fun c xs e => b4 _ _ (ne_of e hea (by intro z; cases z)) (s03 _ _ e)
  refine ⟨_, rfl, _, rfl, .ref pa, t, pr, ps, st, dn, rfl, hpre.keep k04, hdn, fun H5 p ls cs s5 hp e5 hcs hls => ?_⟩
  have ea5 := s5 _ _ ea4
  have npa : p ≠ a := (ne_of_none ea4 hp).symm
  refine ⟨_, rfl, a, _, dx, _, rfl, ea5, T.c_Hall, T.a_Hall_layouts, by show 1 < 1000; decide, ?_⟩
  have ea6 : upd H5 a (.ins (He.ga K "Hall") dx (putF "layouts" (.ref p) (putF "ways" (.ref D) []))) a = some (.ins (He.ga K "Hall") dx (putF "layouts" (.ref p) (putF "ways" (.ref D) []))) := upd_same
  have b6 : ∀ b o, b ≠ a → H5 b = some o → upd H5 a (.ins (He.ga K "Hall") dx (putF "layouts" (.ref p) (putF "ways" (.ref D) []))) b = some o := fun b o n e => by rw [upd_ne n]; exact e
  generalize upd H5 a (.ins (He.ga K "Hall") dx (putF "layouts" (.ref p) (putF "ways" (.ref D) []))) = H6 at ea6 b6 ⊢
  refine ⟨sml 1, fun l2 hl2 => ⟨_, rfl, l2, ((room : Nat) : Int), _, rfl, rfl, upd_same, by omega, by omega, sml _ (by rw [List.length_singleton, Int.toNat_natCast]; omega), fun F hF => ?_⟩⟩
  rw [rep_v]
  have s68 : Same H6 (upd (upd H6 l2 (.lst [.non])) F (.lst (List.replicate room V.non))) := (Same.new hl2).trans (Same.new hF)
  have hF6 := Same.free (Same.new (o := .lst [.non]) hl2) hF
  have e8 : upd (upd H6 l2 (.lst [.non])) F (.lst (List.replicate room V.non)) F = some (.lst (List.replicate room V.non)) := upd_same
  generalize upd (upd H6 l2 (.lst [.non])) F (.lst (List.replicate room V.non)) = H8 at s68 e8 ⊢
  have nFa : F ≠ a := (ne_of_none ea6 hF6).symm
  refine ⟨_, rfl, a, _, dx, _, rfl, s68 _ _ ea6, T.c_Hall, T.a_Hall_lying, by show 2 < 1000; decide, ?_⟩
  refine ⟨_, rfl, a, _, dx, _, rfl, upd_same, T.c_Hall, T.a_Hall_moved, by show 3 < 1000; decide, ?_⟩
  have last : ∀ {b : Addr} {o : HO} {u1 u2 : HO}, b ≠ a → H8 b = some o → upd (upd H8 a u1) a u2 b = some o := fun n e => by
    rw [upd_ne n, upd_ne n]
    exact e
  have l5 : ∀ {b : Addr} {o : HO}, b ≠ a → H5 b = some o → H8 b = some o := fun n e => s68 _ _ (b6 _ _ n e)
  have l3 : ∀ {b : Addr} {o : HO}, b ≠ a → H3 b = some o → H8 b = some o := fun n e => l5 n (s5 _ _ (b4 _ _ n e))
  have nF3 : ∀ {b : Addr} {o : HO}, b ≠ a → H3 b = some o → b ≠ F := fun n e => ne_of_none (b6 _ _ n (s5 _ _ (b4 _ _ n e))) hF6
  have nF5 : ∀ {b : Addr} {o : HO}, b ≠ a → H5 b = some o → b ≠ F := fun n e => ne_of_none (b6 _ _ n e) hF6
  have fr4 : ∀ {b : Addr}, H4 b = none → H b = none := fun {b} hb => by
    cases e : H b with
    | none => rfl
    | some o =>
      exfalso
      by_cases n : b = a
      · subst n
        rw [ea4] at hb
        cases hb
      · rw [b4 _ _ n (s03 _ _ e)] at hb
        cases hb
  have fr6 : H F = none := by
    cases e : H F with
    | none => rfl
    | some o =>
      exfalso
      have z := b6 _ _ nFa (s5 _ _ (b4 _ _ nFa (s03 _ _ e)))
      rw [hF6] at z
      cases z
  have k8 : ∀ {u1 u2 : HO}, Keep H5 (upd (upd H8 a u1) a u2) := fun c xs e => by
    have n : c ≠ a := ne_of e ea5 (by intro z; cases z)
    exact last n (l5 n e)
  have hbl := Paired.length hbs
  have hneb : ∀ b ∈ bs, H b = none → b ≠ a := fun b _ hb z => by
    rw [z, hea] at hb
    cases hb
  refine q _ ⟨a, dx, D, p, F⟩ cs (fun b o n e => last n (l3 n (s03 _ _ e))) rfl rfl hcs ⟨⟨?_, ⟨bs, last nDa (l3 nDa eD), ?_⟩, ⟨ls, last npa (l5 npa e5), ?_⟩, ⟨List.replicate room V.non, last nFa e8, ?_⟩, h0a, ⟨h0 _ hD0, nF3 nDa eD⟩, ⟨h0 _ (fr4 hp), nF5 npa e5⟩, h0 _ fr6⟩, hall_ok hok htr hdn hcs hfar, ?_⟩
  · rw [upd_same]
    rfl
  · refine PairedMem.map hbs fun b w hb ⟨z1, z2, z3⟩ => ?_
    have nb := hneb b hb z2
    exact ⟨last nb (l3 nb z1), h0 _ z2, nF3 nb z1⟩
  · refine PairedMem.map hls fun b l hb ⟨⟨us, z1, z2⟩, z3⟩ => ?_
    have z4 := fr4 z3
    have nb : b ≠ a := fun z => by
      rw [z, hea] at z4
      cases z4
    exact ⟨⟨us, last nb (l5 nb z1), L2.Paired.mapP z2 fun _ _ y => y.keep k8⟩, h0 _ z4, nF5 nb z1⟩
  · exact cells_none room
  · rw [List.length_replicate]
    omega
end
end K18

namespace K18
open PySem PySem.Spec PyProof.Rows L2 Ov
section
variable {P : Program} {w : World} {K : PySem.W.Frag} {mg : Str → Option Value} {base : Heap}
theorem sc_numbered : FnScope ["program", "_", "body"] ["program"] (defScope s_numbered) := ⟨rfl, rfl, rfl, by decide +kernel, rfl, by decide +kernel, by decide +kernel⟩
-- 0 program, 1 _, 2 body
theorem ok_numbered (T : Txt w K mg) : FnOk P w K mg base CX0 10 (He.ga K "numbered") (fdOf K d_numbered) ["program"] spNumbered := by
  have G_words_of := ok_words_of (P := P) (base := base) T
  refine T.F_numbered.ok sc_numbered (fun vs H Q E h => ?_) (fun cdv A outer s H vs Q E hr h => ?_)
  · obtain ⟨v, pr, rfl, _⟩ := h
    rfl
  obtain ⟨v, pr, rfl, ⟨a, vs, rfl, ha, hvs⟩, hok, q⟩ := h
  have hpl := Paired.length hvs
  have l8 := hok.l8
  refine ⟨_, PSs.nox (pss_one (ps_ret (pe_lc (own := [("_", 1), ("body", 2)]) rfl sc_numbered.nd (Ov.pi_tupK (K := K) rfl (pv 0)) (blkOk_by (own := [("_", 1), ("body", 2)]) (N := ["program", "_", "body"]) (sc := defScope s_numbered) (by decide +kernel)) (fun _ _ _ _ _ => (Ov.pg_tupK (K := K) (n := 2) rfl rfl (pgs_cons (pg_name (i := 1) sc_numbered.nd rfl (by first | exact Or.inl rfl | exact Or.inr rfl)) (pgs_cons (pg_name (i := 2) sc_numbered.nd rfl (by first | exact Or.inl rfl | exact Or.inr rfl)) pgs_nil)))) (fun _ _ _ _ _ => pts_nil) (fun _ _ _ _ _ => (pe_call G_words_of (hr.mono (by omega)) (by rfl) T.g_words_of T.kp_words_of T.b_words_of .nil pass0 (pa_cons (pv 2) pa_nil)))))), ?_⟩
  refine ⟨_, rfl, a, rfl, ⟨_, SqT.of ha⟩, fun D hD => ?_⟩
  refine lc_tupY (K := K) (a := a) (xs := vs) (fun i H' => ∃ bs : List Addr, Same H H' ∧ H' D = some (.lst (bs.map V.ref)) ∧ Paired (BodyAt H') bs (pr.take i) ∧ (∀ b ∈ bs, H b = none ∧ b ≠ D)) ⟨[], Same.new hD, upd_same, .nil, (fun _ z => nomatch z)⟩ (fun i H' _ ⟨_, e, _⟩ => SqT.of (e _ _ ha)) ?_ ?_
  · rintro i x H1 hi ⟨bs, s1, e1, hb, hn⟩
    obtain ⟨f, hf, ⟨b, bv, rfl, hb1, hbv⟩⟩ := Paired.get2 hvs hi
    have hfo := hok.f f (List.mem_of_getElem? hf)
    have hbl := Paired.length hb
    rw [List.length_take] at hbl
    refine ⟨b, _, rfl, SqT.of (s1 _ _ hb1), rfl, _, _, rfl, _, _, rfl, rfl, rfl, _, rfl, bv, pr.length, f.2, rfl, hbv.keep (Keep.same s1), hfo.2.2.1, by have := hfo.2.2.2; omega, fun H2 p ys s2 hp e2 hys => ?_⟩
    have nDp : D ≠ p := ne_of_none e1 hp
    have kD := Keep.updL (ys := bs.map V.ref ++ [.ref p]) (s2 _ _ e1)
    have mono : ∀ {b : Addr} {g : Int × W}, b ≠ D → BodyAt H2 b g → BodyAt (upd H2 D (.lst (bs.map V.ref ++ [.ref p]))) b g := fun n ⟨zs, h1, h2⟩ => ⟨zs, by rw [upd_ne n]; exact h1, L2.Paired.mapP h2 fun _ _ z => z.keep kD⟩
    refine ⟨_, s2 _ _ e1, sm _ (by rw [List.length_map]; omega), bs ++ [p], Ov.Same.updn (s1.trans s2) hD, by rw [upd_same, List.map_append]; rfl, ?_, fun b' hb' => ?_⟩
    · rw [List.take_add_one, hf]
      refine PySem.Paired.snoc ?_ (mono nDp.symm ⟨ys, e2, hys⟩)
      exact PairedMem.map hb fun b' _ hm z => mono (hn b' hm).2 (z.same s2)
    · rcases List.mem_append.mp hb' with h | h
      · exact hn b' h
      · rw [List.mem_singleton.mp h]
        exact ⟨Same.free s1 hp, nDp.symm⟩
  · rintro H1 ⟨bs, s1, e1, hb, hn⟩
    rw [hpl, List.take_length] at hb
    exact q H1 D bs s1 hD e1 hb fun b h => (hn b h).1
theorem sc_reckoned : FnScope ["name", "left", "right", "number"] ["name", "left", "right"] (defScope s_reckoned) := ⟨rfl, rfl, rfl, by decide +kernel, rfl, by decide +kernel, by decide +kernel⟩
-- 0 name, 1 left, 2 right, 3 number
theorem ok_reckoned (T : Txt w K mg) : FnOk P w K mg base CX0 1 (He.ga K "reckoned") (fdOf K d_reckoned) ["name", "left", "right"] spReckoned := by
  refine T.F_reckoned.ok sc_reckoned (fun vs H Q E h => ?_) (fun cdv A outer s H vs Q E hr h => ?_)
  · obtain ⟨o, x, y, rfl, _⟩ := h
    rfl
  obtain ⟨o, x, y, rfl, ho, hx0, hx1, q⟩ := h
  refine ⟨_, PSs.nox (pss_cons (ps_if (pt_cmpR op_eq (pv 0) pe_str (nomark _)) (pss_one (ps_set (i := 3) sc_reckoned.nd rfl (by first | exact Or.inl rfl | exact Or.inr rfl) (pe_op op_add (pv 1) (pv 2)))) (pss_one (ps_if (pt_cmpR op_eq (pv 0) pe_str (nomark _)) (pss_one (ps_set (i := 3) sc_reckoned.nd rfl (by first | exact Or.inl rfl | exact Or.inr rfl) (pe_op op_sub (pv 1) (pv 2)))) (pss_one (ps_set (i := 3) sc_reckoned.nd rfl (by first | exact Or.inl rfl | exact Or.inr rfl) (pe_op op_mul (pv 1) (pv 2)))))))
      (pss_one (ps_ret (pe_tup (pa_cons pe_str (pa_cons (pe_op op_mod (pv 3) (pe_glob (v := .int 1000) (by rfl) T.i_NUMBERS.choose_spec ⟨_, rfl⟩)) pa_nil)))))), ?_⟩
  rcases ho with rfl | rfl | rfl
  · refine ⟨_, rfl, rfl, _, rfl, iteT ⟨_, rfl, _, rfl, _, _, rfl, rfl, ?_⟩⟩
    exact ⟨_, rfl, _, 1000, rfl, rfl, (by show (0 : Int) < 1000; decide), sml 2, fun t ht => q _ t _ (Same.new ht) ht upd_same fun _ _ _ => rfl⟩
  · refine ⟨_, rfl, rfl, _, rfl, iteF ⟨_, rfl, rfl, _, rfl, iteT ⟨_, rfl, _, rfl, _, _, rfl, rfl, ?_⟩⟩⟩
    exact ⟨_, rfl, _, 1000, rfl, rfl, (by show (0 : Int) < 1000; decide), sml 2, fun t ht => q _ t _ (Same.new ht) ht upd_same fun _ _ _ => rfl⟩
  · refine ⟨_, rfl, rfl, _, rfl, iteF ⟨_, rfl, rfl, _, rfl, iteF ⟨_, rfl, _, rfl, _, _, rfl, rfl, .inl ⟨by omega, by omega⟩, ?_⟩⟩⟩
    exact ⟨_, rfl, _, 1000, rfl, rfl, (by show (0 : Int) < 1000; decide), sml 2, fun t ht => q _ t _ (Same.new ht) ht upd_same fun _ _ _ => rfl⟩
end
end K18

namespace K18
open PySem PySem.Spec PyProof.Rows L2 Ov
section
variable {P : Program} {w : World} {K : PySem.W.Frag} {mg : Str → Option Value} {base : Heap}
theorem sc_number_in : FnScope ["worth", "kind", "number"] ["worth"] (defScope s_number_in) := ⟨rfl, rfl, rfl, by decide +kernel, rfl, by decide +kernel, by decide +kernel⟩
-- 0 worth, 1 kind, 2 number
theorem ok_number_in (T : Txt w K mg) : FnOk P w K mg base (L2.CX P w) 3 (He.ga K "number_in") (fdOf K d_number_in) ["worth"] (spNumIn K) := by
  refine T.F_number_in.ok sc_number_in (fun vs H Q E h => ?_) (fun cdv A outer s H vs Q E hr h => ?_)
  · obtain ⟨v, a, rfl, _⟩ := h
    rfl
  obtain ⟨v, a, rfl, ⟨t, rfl, ht⟩, q⟩ := h
  refine ⟨_, (pss_cons (ps_asg (pv 0) (Ov.pg_tupK (K := K) (n := 2) rfl rfl (pgs_cons (pg_name (i := 1) sc_number_in.nd rfl (by first | exact Or.inl rfl | exact Or.inr rfl)) (pgs_cons (pg_name (i := 2) sc_number_in.nd rfl (by first | exact Or.inl rfl | exact Or.inr rfl)) pgs_nil))))
      (pss_cons (ps_if (pt_cmpR op_ne (pv 1) pe_str (nomark _)) (pss_one (ps_raiseFlt rfl T.flt hr (takes_of rfl rfl rfl rfl) (by exact (pa_cons pe_str pa_nil)))) pss_nil)
      (pss_one (ps_ret (pv 2))))), ?_⟩
  cases a with
  | num z => exact ⟨_, rfl, t, _, rfl, SqT.of ht, rfl, _, _, rfl, _, _, rfl, rfl, _, rfl, rfl, _, rfl, iteF ⟨_, rfl, q⟩⟩
  | way f => exact ⟨_, rfl, t, _, rfl, SqT.of ht, rfl, _, _, rfl, _, _, rfl, rfl, _, rfl, rfl, _, rfl, iteT ⟨_, rfl, fun d hd => q _ d (Same.new hd) hd upd_same⟩⟩
theorem sc_end_of_way : FnScope ["worth", "kind", "function"] ["worth"] (defScope s_end_of_way) := ⟨rfl, rfl, rfl, by decide +kernel, rfl, by decide +kernel, by decide +kernel⟩
-- 0 worth, 1 kind, 2 function
theorem ok_end_of_way (T : Txt w K mg) : FnOk P w K mg base (L2.CX P w) 3 (He.ga K "end_of_way") (fdOf K d_end_of_way) ["worth"] (spEndIn K) := by
  refine T.F_end_of_way.ok sc_end_of_way (fun vs H Q E h => ?_) (fun cdv A outer s H vs Q E hr h => ?_)
  · obtain ⟨v, a, rfl, _⟩ := h
    rfl
  obtain ⟨v, a, rfl, ⟨t, rfl, ht⟩, q⟩ := h
  refine ⟨_, (pss_cons (ps_asg (pv 0) (Ov.pg_tupK (K := K) (n := 2) rfl rfl (pgs_cons (pg_name (i := 1) sc_end_of_way.nd rfl (by first | exact Or.inl rfl | exact Or.inr rfl)) (pgs_cons (pg_name (i := 2) sc_end_of_way.nd rfl (by first | exact Or.inl rfl | exact Or.inr rfl)) pgs_nil))))
      (pss_cons (ps_if (pt_cmpR op_ne (pv 1) pe_str (nomark _)) (pss_one (ps_raiseFlt rfl T.flt hr (takes_of rfl rfl rfl rfl) (by exact (pa_cons pe_str pa_nil)))) pss_nil)
      (pss_one (ps_ret (pv 2))))), ?_⟩
  cases a with
  | num z => exact ⟨_, rfl, t, _, rfl, SqT.of ht, rfl, _, _, rfl, _, _, rfl, rfl, _, rfl, rfl, _, rfl, iteT ⟨_, rfl, fun d hd => q _ d (Same.new hd) hd upd_same⟩⟩
  | way f => exact ⟨_, rfl, t, _, rfl, SqT.of ht, rfl, _, _, rfl, _, _, rfl, rfl, _, rfl, rfl, _, rfl, iteF ⟨_, rfl, q⟩⟩
end
end K18

namespace K18
open PySem PySem.Spec PyProof.Rows L2 Ov
section
variable {P : Program} {w : World} {K : PySem.W.Frag} {mg : Str → Option Value} {base : Heap}
theorem sc_Run_init : FnScope ["self", "program"] ["self", "program"] (defScope s_Run_init) := ⟨rfl, rfl, rfl, by decide +kernel, rfl, by decide +kernel, by decide +kernel⟩
-- 0 self, 1 program
theorem ok_Run_init (T : Txt w K mg) : FnOk P w K mg base CX0 11 (He.ma K (He.ga K "Run") "__init__") (fdOf K d_Run_init) ["self", "program"] (spRunInit K) := by
  have G_numbered := ok_numbered (P := P) (base := base) T
  refine T.F_Run_init.ok sc_Run_init (fun vs H Q E h => ?_) (fun cdv A outer s H vs Q E hr h => ?_)
  · obtain ⟨a, dx, v, pr, rfl, _⟩ := h
    rfl
  obtain ⟨a, dx, v, pr, rfl, ha, hpr, hok, q⟩ := h
  refine ⟨_, PSs.nox (pss_cons (ps_fld (pv 0) (pe_call G_numbered (hr.mono (by omega)) (by rfl) T.g_numbered T.kp_numbered T.b_numbered .nil pass0 (pa_cons (pv 1) pa_nil)) rfl)
      (pss_cons (ps_fld (pv 0) pe_non rfl)
      (pss_cons (ps_fld (pv 0) (pe_lst pa_nil) rfl)
      (pss_cons (ps_fld (pv 0) (pe_lst pa_nil) rfl)
      (pss_cons (ps_fld (pv 0) pe_int rfl)
      (pss_one (ps_fld (pv 0) pe_int rfl))))))), ?_⟩
  refine ⟨_, rfl, v, pr, rfl, hpr, hok, fun H1 bo bs s1 hbo ebo hbs hnb => ?_⟩
  refine ⟨_, rfl, a, _, dx, _, rfl, s1 _ _ ha, T.c_Run, T.a_Run_bodies, by show 0 < 1000; decide, ?_⟩
  refine ⟨_, rfl, a, _, dx, _, rfl, upd_same, T.c_Run, T.a_Run_told, by show 1 < 1000; decide, ?_⟩
  have na : ∀ {b : Addr}, H1 b = none → b ≠ a := fun hb z => by
    rw [z, s1 _ _ ha] at hb
    cases hb
  have ea2 : upd (upd H1 a (.ins (He.ga K "Run") dx (putF "bodies" (.ref bo) []))) a (.ins (He.ga K "Run") dx (putF "told" .non (putF "bodies" (.ref bo) []))) a = some (.ins (He.ga K "Run") dx (putF "told" .non (putF "bodies" (.ref bo) []))) := upd_same
  have fr2 : ∀ b o, b ≠ a → H1 b = some o → upd (upd H1 a (.ins (He.ga K "Run") dx (putF "bodies" (.ref bo) []))) a (.ins (He.ga K "Run") dx (putF "told" .non (putF "bodies" (.ref bo) []))) b = some o := fun b o n e => by
    rw [upd_ne n, upd_ne n]
    exact e
  generalize upd (upd H1 a (.ins (He.ga K "Run") dx (putF "bodies" (.ref bo) []))) a (.ins (He.ga K "Run") dx (putF "told" .non (putF "bodies" (.ref bo) []))) = H2 at ea2 fr2 ⊢
  refine ⟨sml 0, fun sa hsa => ?_⟩
  have nsa : sa ≠ a := (ne_of_none ea2 hsa).symm
  refine ⟨_, rfl, a, _, dx, _, rfl, Same.new hsa _ _ ea2, T.c_Run, T.a_Run_said, by show 2 < 1000; decide, ?_⟩
  have ea3 : upd (upd H2 sa (.lst [])) a (.ins (He.ga K "Run") dx (putF "said" (.ref sa) (putF "told" .non (putF "bodies" (.ref bo) [])))) a = some (.ins (He.ga K "Run") dx (putF "said" (.ref sa) (putF "told" .non (putF "bodies" (.ref bo) [])))) := upd_same
  have es3 : upd (upd H2 sa (.lst [])) a (.ins (He.ga K "Run") dx (putF "said" (.ref sa) (putF "told" .non (putF "bodies" (.ref bo) [])))) sa = some (.lst []) := by rw [upd_ne nsa, upd_same]
  have fr3 : ∀ b o, b ≠ a → H1 b = some o → upd (upd H2 sa (.lst [])) a (.ins (He.ga K "Run") dx (putF "said" (.ref sa) (putF "told" .non (putF "bodies" (.ref bo) [])))) b = some o := fun b o n e => by
    rw [upd_ne n]
    exact Same.new hsa _ _ (fr2 b o n e)
  have fsa : ∀ {b : Addr} {o : HO}, b ≠ a → H1 b = some o → b ≠ sa := fun n e => ne_of_none (fr2 _ _ n e) hsa
  generalize upd (upd H2 sa (.lst [])) a (.ins (He.ga K "Run") dx (putF "said" (.ref sa) (putF "told" .non (putF "bodies" (.ref bo) [])))) = H3 at ea3 es3 fr3 ⊢
  refine ⟨sml 0, fun ro hro => ?_⟩
  have nro : ro ≠ a := (ne_of_none ea3 hro).symm
  have nsr : sa ≠ ro := ne_of_none es3 hro
  refine ⟨_, rfl, a, _, dx, _, rfl, Same.new hro _ _ ea3, T.c_Run, T.a_Run_row, by show 3 < 1000; decide, ?_⟩
  refine ⟨_, rfl, a, _, dx, _, rfl, upd_same, T.c_Run, T.a_Run_calls, by show 4 < 1000; decide, ?_⟩
  refine ⟨_, rfl, a, _, dx, _, rfl, upd_same, T.c_Run, T.a_Run_others, by show 5 < 1000; decide, ?_⟩
  have last : ∀ {b : Addr} {o : HO} {u1 u2 u3 : HO}, b ≠ a → H3 b = some o → upd (upd (upd (upd H3 ro (.lst [])) a u1) a u2) a u3 b = some o := fun n e => by
    rw [upd_ne n, upd_ne n, upd_ne n]
    exact Same.new hro _ _ e
  have fbo : ∀ {b : Addr} {o : HO}, b ≠ a → H1 b = some o → b ≠ ro := fun n e => ne_of_none (fr3 _ _ n e) hro
  have nbo : bo ≠ a := (ne_of_none ha hbo).symm
  have z1 : H sa = none := by
    cases e : H sa with
    | none => rfl
    | some o =>
      have z := fr2 _ _ nsa (s1 _ _ e)
      rw [hsa] at z
      cases z
  have z2 : H ro = none := by
    cases e : H ro with
    | none => rfl
    | some o =>
      have z := fr3 _ _ nro (s1 _ _ e)
      rw [hro] at z
      cases z
  refine q _ ⟨a, dx, bo, sa, ro⟩ (fun b o n e => last n (fr3 _ _ n (s1 _ _ e))) rfl rfl z1 z2 ⟨?_, ⟨bs, last nbo (fr3 _ _ nbo ebo), ?_, fun b hb => ?_⟩, last nsa es3, ?_, fsa nbo ebo, fbo nbo ebo, nsr⟩
  · rw [upd_same]
    exact congrArg (fun l => some (HO.ins (He.ga K "Run") dx l)) (runFs_new (x := ⟨a, dx, bo, sa, ro⟩))
  · refine PairedMem.map hbs fun b f hb ⟨ys, z1, z2⟩ => ⟨ys, ?_, L2.Paired.mapP z2 fun _ _ z => z.keep fun c xs e => ?_⟩
    · have nb : b ≠ a := (ne_of_none ha (hnb b hb)).symm
      exact last nb (fr3 _ _ nb z1)
    · have nc : c ≠ a := ne_of e (s1 _ _ ha) (by intro z; cases z)
      exact last nc (fr3 _ _ nc e)
  · have nb : b ≠ a := (ne_of_none ha (hnb b hb)).symm
    obtain ⟨f, ys, z1, _⟩ := PairedMem.left hbs b hb
    exact ⟨fsa nb z1, fbo nb z1⟩
  · rw [upd_ne nro, upd_ne nro, upd_ne nro, upd_same]
    rfl
end
end K18

namespace K18
open PySem PySem.Spec PyProof.Rows L2 Ov
section
variable {P : Program} {w : World} {K : PySem.W.Frag} {mg : Str → Option Value} {base : Heap}
theorem sc_Run_say : FnScope ["self", "worth"] ["self", "worth"] (defScope s_Run_say) := ⟨rfl, rfl, rfl, by decide +kernel, rfl, by decide +kernel, by decide +kernel⟩
-- 0 self, 1 worth
theorem ok_Run_say (T : Txt w K mg) : FnOk P w K mg base (L2.CX P w) 4 (He.ma K (He.ga K "Run") "say") (fdOf K d_Run_say) ["self", "worth"] (spSay K) := by
  have G_number_in := ok_number_in (P := P) (base := base) T
  refine T.F_Run_say.ok sc_Run_say (fun vs H Q E h => ?_) (fun cdv A outer s H vs Q E hr h => ?_)
  · obtain ⟨x, pr, told, v, s, oth, a, rfl, _⟩ := h
    rfl
  obtain ⟨x, pr, told, v, s, oth, a, rfl, hR, hv, hsz, q⟩ := h
  refine ⟨_, (pss_cons (ps_expr (Ov.pe_bmK (K := K) rfl PySem.F.plainAttrs_list PySem.F.slot_list_append PySem.F.type_list_append mt_append (Ov.pe_fldK (K := K) rfl (pv 0) rfl) (pa_cons (pe_callS G_number_in (hr.mono (by omega)) (by rfl) T.g_number_in T.kp_number_in T.b_number_in (fun σ => passAt (takes_of rfl rfl rfl rfl) σ) (pa_cons (pv 1) pa_nil)) pa_nil)))
      (pss_one (ps_ret (pv 1)))), ?_⟩
  refine ⟨_, rfl, x.a, _, _, _, _, rfl, hR.ob, T.c_Run, T.a_Run_said, rfl, .inl ⟨rfl, _, SqL.of hR.sa⟩, _, rfl, v, a, rfl, hv, ?_⟩
  cases a with
  | num z => exact ⟨x.sa, _, _, rfl, rfl, hR.sa, Nat.lt_of_le_of_lt (by rw [List.length_map]; exact hsz) (by decide), _, rfl, q _ (fun b o _ n _ e => by rw [upd_ne n]; exact e) hR.updS⟩
  | way f => exact q
end
end K18

namespace K18
open PySem PySem.Spec PyProof.Rows L2 Ov
section
variable {P : Program} {w : World} {K : PySem.W.Frag} {mg : Str → Option Value} {base : Heap}
theorem sc_Run_enter : FnScope ["self", "place", "called"] ["self", "place", "called"] (defScope s_Run_enter) := ⟨rfl, rfl, rfl, by decide +kernel, rfl, by decide +kernel, by decide +kernel⟩
-- 0 self, 1 place, 2 called
theorem ok_Run_enter (T : Txt w K mg) : FnOk P w K mg base CX0 1 (He.ma K (He.ga K "Run") "enter") (fdOf K d_Run_enter) ["self", "place", "called"] (spEnter K) := by
  refine T.F_Run_enter.ok sc_Run_enter (fun vs H Q E h => ?_) (fun cdv A outer s H vs Q E hr h => ?_)
  · obtain ⟨x, pr, told, v, s, oth, f, rfl, _⟩ := h
    rfl
  obtain ⟨x, pr, told, v, s, oth, f, rfl, hR, hsz, q⟩ := h
  refine ⟨_, PSs.nox (pss_one (ps_expr (Ov.pe_bmK (K := K) rfl PySem.F.plainAttrs_list PySem.F.slot_list_append PySem.F.type_list_append mt_append (Ov.pe_fldK (K := K) rfl (pv 0) rfl) (pa_cons (pv 2) pa_nil)))), ?_⟩
  exact ⟨_, rfl, x.a, _, _, _, _, rfl, hR.ob, T.c_Run, T.a_Run_row, rfl, .inl ⟨rfl, _, SqL.of hR.ro⟩, _, rfl, x.ro, _, _, rfl, rfl, hR.ro, Nat.lt_of_le_of_lt (by rw [nV_len]; exact hsz) (by decide), q _ (fun b o _ _ n e => by rw [upd_ne n]; exact e) hR.updR⟩
theorem sc_Run_come_back : FnScope ["self", "place"] ["self", "place"] (defScope s_Run_come_back) := ⟨rfl, rfl, rfl, by decide +kernel, rfl, by decide +kernel, by decide +kernel⟩
-- 0 self, 1 place
theorem ok_Run_come_back (T : Txt w K mg) : FnOk P w K mg base CX0 1 (He.ma K (He.ga K "Run") "come_back") (fdOf K d_Run_come_back) ["self", "place"] (spBack K) := by
  refine T.F_Run_come_back.ok sc_Run_come_back (fun vs H Q E h => ?_) (fun cdv A outer s H vs Q E hr h => ?_)
  · obtain ⟨x, pr, told, s, oth, p, f, wi, rfl, _⟩ := h
    rfl
  obtain ⟨x, pr, told, s, oth, p, f, wi, rfl, hp, hR, hsz, q⟩ := h
  refine ⟨_, PSs.nox (pss_one (ps_expr (Ov.pe_bmK (K := K) rfl PySem.F.plainAttrs_list PySem.F.slot_list_append PySem.F.type_list_append mt_append (Ov.pe_fldK (K := K) rfl (pv 0) rfl) (pa_cons (pe_ix (r := rIxT K) ix_tup (pv 1) pe_int (fun _ _ => rfl)) pa_nil)))), ?_⟩
  exact ⟨_, rfl, x.a, _, _, _, _, rfl, hR.ob, T.c_Run, T.a_Run_row, rfl, .inl ⟨rfl, _, SqL.of hR.ro⟩, _, rfl, p, _, 0, _, rfl, rfl, SqT.of hp, atI_nat (j := 0) rfl, x.ro, _, _, rfl, rfl, hR.ro, Nat.lt_of_le_of_lt (by rw [nV_len]; exact hsz) (by decide), q _ (fun b o _ _ n e => by rw [upd_ne n]; exact e) hR.updR⟩
theorem sc_Run_call : FnScope ["self", "place", "called", "argument", "told"] ["self", "place", "called", "argument"] (defScope s_Run_call) := ⟨rfl, rfl, rfl, by decide +kernel, rfl, by decide +kernel, by decide +kernel⟩
-- 0 self, 1 place, 2 called, 3 argument, 4 told
theorem ok_Run_call0 (T : Txt w K mg) {pr : List (Int × W)} (G_Run_worth : FnOk P w K mg base (L2.CX P w) 0 (He.ma K (He.ga K "Run") "worth") (fdOf K d_Run_worth) ["self", "function", "word", "argument"] fun _ _ _ _ => False) : FnOk P w K mg base (L2.CX P w) 5 (He.ma K (He.ga K "Run") "call") (fdOf K d_Run_call) ["self", "place", "called", "argument"] (spCallP K pr 0) := by
  have G_Run_enter := ok_Run_enter (P := P) (base := base) T
  have G_Run_come_back := ok_Run_come_back (P := P) (base := base) T
  refine T.F_Run_call.ok sc_Run_call (fun vs H Q E h => ?_) (fun cdv A outer s H vs Q E hr h => ?_)
  · obtain ⟨x, told, v, s, oth, p, c, wi, f, a, rfl, _⟩ := h
    rfl
  obtain ⟨x, told, v, s, oth, p, c, wi, f, a, rfl, hp, hR, hok, hc, hf, hv, ha, hphi, hoth, q⟩ := h
  refine ⟨_, (pss_cons (ps_if (pt_cmpR op_ge (Ov.pe_fldK (K := K) rfl (pv 0) rfl) (pe_glob (v := .int 12) (by rfl) T.i_MOST_OTHERS.choose_spec ⟨_, rfl⟩) (nomark _)) (pss_one (ps_raiseFlt rfl T.flt hr (takes_of rfl rfl rfl rfl) (by exact (pa_cons pe_str pa_nil)))) pss_nil)
      (pss_cons (ps_if (pt_cmpR op_ge (Ov.pe_fldK (K := K) rfl (pv 0) rfl) (pe_glob (v := .int 200) (by rfl) T.i_MOST_CALLS.choose_spec ⟨_, rfl⟩) (nomark _)) (pss_one (ps_raiseFlt rfl T.flt hr (takes_of rfl rfl rfl rfl) (by exact (pa_cons pe_str pa_nil)))) pss_nil)
      (pss_cons (ps_fldaug (pv 0) pe_int in_add)
      (pss_cons (ps_fldaug (pv 0) pe_int in_add)
      (pss_cons (ps_expr (pe_meth (pv 0) T.c_Run T.m_Run_enter G_Run_enter (hr.mono (by omega)) T.b_Run_enter .nil pass0 (pa_cons (pv 1) (pa_cons (pv 2) pa_nil))))
      (pss_cons (ps_set (i := 4) sc_Run_call.nd rfl (by first | exact Or.inl rfl | exact Or.inr rfl) (pe_meth (pv 0) T.c_Run T.m_Run_worth G_Run_worth (hr.mono (by omega)) T.b_Run_worth .nil (passes_call (takes_of rfl rfl rfl rfl) (fun _ _ _ _ z => z)) (pa_cons (pv 2) (pa_cons pe_int (pa_cons (pv 3) pa_nil)))))
      (pss_cons (ps_expr (pe_meth (pv 0) T.c_Run T.m_Run_come_back G_Run_come_back (hr.mono (by omega)) T.b_Run_come_back .nil pass0 (pa_cons (pv 1) pa_nil)))
      (pss_cons (ps_fldaug (pv 0) pe_int in_sub)
      (pss_one (ps_ret (pv 4))))))))))), ?_⟩
  refine ⟨_, rfl, x.a, _, _, _, _, rfl, hR.ob, T.c_Run, T.a_Run_others, rfl, _, _, rfl, rfl, _, rfl, ?_⟩
  rw [decide_eq_true (show (12 : Int) ≤ oth by omega)]
  exact iteT ⟨_, rfl, fun d hd => q.out ButP.refl hR _ d (Same.new hd) hd upd_same⟩
theorem ok_Run_callS (T : Txt w K mg) {pr : List (Int × W)} {n k : Nat} (G_Run_worth : FnOk P w K mg base (L2.CX P w) k (He.ma K (He.ga K "Run") "worth") (fdOf K d_Run_worth) ["self", "function", "word", "argument"] (spWorth K pr n 7)) (hk : 4 ≤ k) : FnOk P w K mg base (L2.CX P w) (k + 1) (He.ma K (He.ga K "Run") "call") (fdOf K d_Run_call) ["self", "place", "called", "argument"] (spCallP K pr (n + 1)) := by
  have G_Run_enter := ok_Run_enter (P := P) (base := base) T
  have G_Run_come_back := ok_Run_come_back (P := P) (base := base) T
  refine T.F_Run_call.ok sc_Run_call (fun vs H Q E h => ?_) (fun cdv A outer s H vs Q E hr h => ?_)
  · obtain ⟨x, told, v, s, oth, p, c, wi, f, a, rfl, _⟩ := h
    rfl
  obtain ⟨x, told, v, s, oth, p, c, wi, f, a, rfl, hp, hR, hok, hc, hf, hv, ha, hphi, hoth, q⟩ := h
  refine ⟨_, (pss_cons (ps_if (pt_cmpR op_ge (Ov.pe_fldK (K := K) rfl (pv 0) rfl) (pe_glob (v := .int 12) (by rfl) T.i_MOST_OTHERS.choose_spec ⟨_, rfl⟩) (nomark _)) (pss_one (ps_raiseFlt rfl T.flt hr (takes_of rfl rfl rfl rfl) (by exact (pa_cons pe_str pa_nil)))) pss_nil)
      (pss_cons (ps_if (pt_cmpR op_ge (Ov.pe_fldK (K := K) rfl (pv 0) rfl) (pe_glob (v := .int 200) (by rfl) T.i_MOST_CALLS.choose_spec ⟨_, rfl⟩) (nomark _)) (pss_one (ps_raiseFlt rfl T.flt hr (takes_of rfl rfl rfl rfl) (by exact (pa_cons pe_str pa_nil)))) pss_nil)
      (pss_cons (ps_fldaug (pv 0) pe_int in_add)
      (pss_cons (ps_fldaug (pv 0) pe_int in_add)
      (pss_cons (ps_expr (pe_meth (pv 0) T.c_Run T.m_Run_enter G_Run_enter (hr.mono (by omega)) T.b_Run_enter .nil pass0 (pa_cons (pv 1) (pa_cons (pv 2) pa_nil))))
      (pss_cons (ps_set (i := 4) sc_Run_call.nd rfl (by first | exact Or.inl rfl | exact Or.inr rfl) (pe_meth (pv 0) T.c_Run T.m_Run_worth G_Run_worth (hr.mono (by omega)) T.b_Run_worth .nil (passes_call (takes_of rfl rfl rfl rfl) (fun _ _ _ _ z => z)) (pa_cons (pv 2) (pa_cons pe_int (pa_cons (pv 3) pa_nil)))))
      (pss_cons (ps_expr (pe_meth (pv 0) T.c_Run T.m_Run_come_back G_Run_come_back (hr.mono (by omega)) T.b_Run_come_back .nil pass0 (pa_cons (pv 1) pa_nil)))
      (pss_cons (ps_fldaug (pv 0) pe_int in_sub)
      (pss_one (ps_ret (pv 4))))))))))), ?_⟩
  refine ⟨_, rfl, x.a, _, _, _, _, rfl, hR.ob, T.c_Run, T.a_Run_others, rfl, _, _, rfl, rfl, _, rfl, ?_⟩
  rw [decide_eq_false (show ¬ (12 : Int) ≤ oth by omega)]
  refine iteF ⟨_, rfl, x.a, _, _, _, _, rfl, hR.ob, T.c_Run, T.a_Run_calls, rfl, _, _, rfl, rfl, _, rfl, ?_⟩
  obtain ⟨pf, hpf⟩ : ∃ p, pr[f]? = some p := ⟨_, List.getElem?_eq_getElem hf⟩
  rw [evC, hpf] at q
  by_cases h200 : 200 ≤ s.calls
  · rw [decide_eq_true (show (200 : Int) ≤ (s.calls : Int) by omega)]
    rw [if_pos h200] at q
    exact iteT ⟨_, rfl, fun d hd => q.out ButP.refl hR _ d (Same.new hd) hd upd_same⟩
  rw [decide_eq_false (show ¬ (200 : Int) ≤ (s.calls : Int) by omega)]
  rw [if_neg h200] at q
  refine iteF ?_
  have hse : s.row.length ≤ s.phi := by unfold RS.phi; omega
  refine ⟨_, rfl, x.a, _, _, _, _, rfl, hR.ob, T.c_Run, T.a_Run_calls, rfl, _, _, rfl, rfl, x.dx, _, hR.ob, by show 6 < 1000; decide, ?_⟩
  obtain ⟨r1, b1⟩ := hR.wr (told' := told) (oth' := oth) (c := s.calls + 1)
  rw [runFs_calls, show (s.calls : Int) + 1 = ((s.calls + 1 : Nat) : Int) by omega]
  generalize upd H x.a (.ins (He.ga K "Run") x.dx (runFs x told ((s.calls + 1 : Nat) : Int) oth)) = H1 at r1 b1 ⊢
  refine ⟨_, rfl, x.a, _, _, _, _, rfl, r1.ob, T.c_Run, T.a_Run_others, rfl, _, _, rfl, rfl, x.dx, _, r1.ob, by show 6 < 1000; decide, ?_⟩
  obtain ⟨r2, b2⟩ := r1.wr (told' := told) (oth' := oth + 1) (c := s.calls + 1)
  rw [runFs_others]
  generalize upd H1 x.a (.ins (He.ga K "Run") x.dx (runFs x told ((s.calls + 1 : Nat) : Int) (oth + 1))) = H2 at r2 b2 ⊢
  have b12 := b1.trans b2
  refine ⟨_, rfl, x.a, _, _, rfl, r2.ob, rfl, _, rfl, _, rfl, x, pr, told, .ref p, _, _, f, rfl, r2, Nat.le_trans hse hphi, fun H3 b3 r3 => ?_⟩
  have b13 := b12.trans b3
  have k13 := hR.keep b13
  have hbd := hok.f pf (List.mem_of_getElem? hpf)
  have hph : ({ said := s.said, calls := s.calls + 1, row := s.row ++ [f], came := s.came ++ [(f, a)], told := s.told } : RS).phi + pf.2.size ≤ s.phi - 2 ∧ 2 ≤ s.phi := by
    have := hbd.2.2.2
    unfold RS.phi
    simp only [List.length_append, List.length_singleton]
    omega
  have gd := evB_good (n := pr.length) (call := evC pr n f) (a := a) (fun f' u' s' h1 h2 => evC_good hok n f f' u' s' h1 h2) ha 7 pf.2 { said := s.said, calls := s.calls + 1, row := s.row ++ [f], came := s.came ++ [(f, a)], told := s.told } hbd.2.2.1
  replace gd := Good.le hph.1 gd
  simp only at q
  have r3' : RunAt K H3 x pr told { said := s.said, calls := s.calls + 1, row := s.row ++ [f], came := s.came ++ [(f, a)], told := s.told } (oth + 1) := ⟨r3.ob, r3.bo, r3.sa, r3.ro, r3.nd⟩
  refine ⟨_, rfl, x.a, _, _, rfl, r3.ob, rfl, _, rfl, _, rfl, x, told, v, _, oth + 1, f, 0, pf, pf.2, a, rfl, r3', hok, hpf, SubAt.all _, hbd.2.2.1, hv.keep k13, ha, by omega, by omega, ?_⟩
  generalize evB (evC pr n f) a 7 pf.2 _ = rs at q gd ⊢
  cases rs with
  | bad e s2 => exact fun H5 d oth' b5 r5 e5 => q H5 d oth' (b13.trans b5) r5 e5
  | ok v2 s2 =>
    intro H5 y b5 r5 hy
    have hs2 : s2.phi ≤ s.phi - 2 := gd.2
    have hse2 : s2.row.length ≤ s2.phi := by unfold RS.phi; omega
    have b15 := b13.trans b5
    refine ⟨_, rfl, x.a, _, _, rfl, r5.ob, rfl, _, rfl, x, pr, told, s2, oth + 1, p, c, wi, rfl, (hR.keep b15) _ _ hp, r5, by omega, fun H6 b6 r6 => ?_⟩
    have k6 := r5.keep b6
    refine ⟨_, rfl, x.a, _, _, _, _, rfl, r6.ob, T.c_Run, T.a_Run_others, rfl, _, _, rfl, rfl, x.dx, _, r6.ob, by show 6 < 1000; decide, ?_⟩
    obtain ⟨r7, b7⟩ := r6.wr (told' := told) (oth' := oth) (c := s2.calls)
    have k7 := r6.keep b7
    rw [runFs_others, show oth + 1 - 1 = oth by omega]
    exact ⟨_, rfl, q _ y (b15.trans (b6.trans b7)) ⟨r7.ob, r7.bo, r7.sa, r7.ro, r7.nd⟩ ((hy.keep k6).keep k7)⟩
end
end K18

namespace K18
open PySem PySem.Spec PyProof.Rows L2 Ov
section
variable {P : Program} {w : World} {K : PySem.W.Frag} {mg : Str → Option Value} {base : Heap}
theorem sc_Run_worth : FnScope ["self", "function", "word", "argument", "name", "given", "arms", "first", "worths", "arm"] ["self", "function", "word", "argument"] (defScope s_Run_worth) := ⟨rfl, rfl, rfl, by decide +kernel, rfl, by decide +kernel, by decide +kernel⟩
-- 0 self, 1 function, 2 word, 3 argument, 4 name, 5 given, 6 arms, 7 first, 8 worths, 9 arm
theorem ok_Run_worthS (T : Txt w K mg) {pr : List (Int × W)} {n d k : Nat} (G_Run_worth : FnOk P w K mg base (L2.CX P w) k (He.ma K (He.ga K "Run") "worth") (fdOf K d_Run_worth) ["self", "function", "word", "argument"] (spWorth K pr n d))
    (G_Run_call : FnOk P w K mg base (L2.CX P w) (8 * n + 5) (He.ma K (He.ga K "Run") "call") (fdOf K d_Run_call) ["self", "place", "called", "argument"] (spCallP K pr n)) (hk : 8 * n + 5 ≤ k) :
    FnOk P w K mg base (L2.CX P w) (k + 1) (He.ma K (He.ga K "Run") "worth") (fdOf K d_Run_worth) ["self", "function", "word", "argument"] (spWorth K pr n (d + 1)) := by
  have G_number_in := ok_number_in (P := P) (base := base) T
  have G_end_of_way := ok_end_of_way (P := P) (base := base) T
  have G_reckoned := ok_reckoned (P := P) (base := base) T
  have G_Run_say := ok_Run_say (P := P) (base := base) T
  refine T.F_Run_worth.ok sc_Run_worth (fun vs H Q E h => ?_) (fun cdv A outer s H vs Q E hr h => ?_)
  · obtain ⟨x, told, v, s, oth, f, wi, p, u, a, rfl, _⟩ := h
    rfl
  obtain ⟨x, told, v, s, oth, f, wi, p, u, a, rfl, hR, hok, hpf, hsub, hwk, hv, ha, hphi, hoth, q⟩ := h
  refine ⟨_, (pss_cons (ps_asg (pe_ix (r := rIxL K) ix_list (pe_ix (r := rIxL K) ix_list (Ov.pe_fldK (K := K) rfl (pv 0) rfl) (pv 1) (fun _ _ => rfl)) (pv 2) (fun _ _ => rfl)) (Ov.pg_tupK (K := K) (n := 3) rfl rfl (pgs_cons (pg_name (i := 4) sc_Run_worth.nd rfl (by first | exact Or.inl rfl | exact Or.inr rfl)) (pgs_cons (pg_name (i := 5) sc_Run_worth.nd rfl (by first | exact Or.inl rfl | exact Or.inr rfl)) (pgs_cons (pg_name (i := 6) sc_Run_worth.nd rfl (by first | exact Or.inl rfl | exact Or.inr rfl)) pgs_nil)))))
      (pss_cons (ps_if (pt_cmpR op_eq (pv 4) pe_str (nomark _)) (pss_one (ps_ret (pe_tup (pa_cons pe_str (pa_cons (pv 5) pa_nil))))) pss_nil)
      (pss_cons (ps_if (pt_cmpR op_eq (pv 4) pe_str (nomark _)) (pss_one (ps_ret (pe_tup (pa_cons pe_str (pa_cons (pv 5) pa_nil))))) pss_nil)
      (pss_cons (ps_if (pt_cmpR op_eq (pv 4) pe_str (nomark _)) (pss_one (ps_ret (pv 3))) pss_nil)
      (pss_cons (ps_if (pt_cmpR op_eq (pv 4) pe_str (nomark _)) (pss_cons (ps_set (i := 7) sc_Run_worth.nd rfl (by first | exact Or.inl rfl | exact Or.inr rfl) (pe_callS G_number_in (hr.mono (by omega)) (by rfl) T.g_number_in T.kp_number_in T.b_number_in (fun σ => passAt (takes_of rfl rfl rfl rfl) σ) (pa_cons (pe_meth (pv 0) T.c_Run T.m_Run_worth G_Run_worth (hr.mono (by omega)) T.b_Run_worth .nil (passes_call (takes_of rfl rfl rfl rfl) (fun _ _ _ _ z => z)) (pa_cons (pv 1) (pa_cons (pe_ix (r := rIxT K) ix_tup (pv 6) pe_int (fun _ _ => rfl)) (pa_cons (pv 3) pa_nil)))) pa_nil)))
      (pss_one (ps_ret (pe_meth (pv 0) T.c_Run T.m_Run_worth G_Run_worth (hr.mono (by omega)) T.b_Run_worth .nil (passes_call (takes_of rfl rfl rfl rfl) (fun _ _ _ _ z => z)) (pa_cons (pv 1) (pa_cons (pe_ifExp (pt_cmpR op_ne (pv 7) pe_int (nomark _)) (pe_ix (r := rIxT K) ix_tup (pv 6) pe_int (fun _ _ => rfl)) (pe_ix (r := rIxT K) ix_tup (pv 6) pe_int (fun _ _ => rfl))) (pa_cons (pv 3) pa_nil))))))) pss_nil)
      (pss_cons (Ov.ps_setLcX (i := 8) (own := [("arm", 9)]) (takes_of rfl rfl rfl rfl) (fun _ _ _ _ z => z) rfl rfl rfl sc_Run_worth.nd rfl rfl (sw_true rfl rfl rfl (by decide +kernel)) (Ov.pi_tupK (K := K) rfl (pv 6)) (blkOk_by (own := [("arm", 9)]) (N := ["self", "function", "word", "argument", "name", "given", "arms", "first", "worths", "arm"]) (sc := defScope s_Run_worth) (by decide +kernel)) (fun _ _ _ _ _ => (pg_name (i := 9) sc_Run_worth.nd rfl (by first | exact Or.inl rfl | exact Or.inr rfl))) (fun _ _ _ _ _ _ hx => (pe_meth (pv 0) T.c_Run T.m_Run_worth G_Run_worth (hr.mono (by omega)) T.b_Run_worth .nil hx (pa_cons (pv 1) (pa_cons (pv 9) (pa_cons (pv 3) pa_nil))))))
      (pss_cons (ps_if (pt_cmpR op_eq (pv 4) pe_str (nomark _)) (pss_one (ps_ret (pe_ix (r := rIxL K) ix_list (pv 8) pe_int (fun _ _ => rfl)))) pss_nil)
      (pss_cons (ps_if (pt_cmpR op_eq (pv 4) pe_str (nomark _)) (pss_one (ps_ret (pe_meth (pv 0) T.c_Run T.m_Run_say G_Run_say (hr.mono (by omega)) T.b_Run_say .nil (passes_call (takes_of rfl rfl rfl rfl) (fun _ _ _ _ z => z)) (pa_cons (pe_ix (r := rIxL K) ix_list (pv 8) pe_int (fun _ _ => rfl)) pa_nil)))) pss_nil)
      (pss_cons (ps_if (pt_cmpR op_eq (pv 4) pe_str (nomark _)) (pss_one (ps_ret (pe_meth (pv 0) T.c_Run T.m_Run_call G_Run_call (hr.mono (by omega)) T.b_Run_call .nil (passes_call (takes_of rfl rfl rfl rfl) (fun _ _ _ _ z => z)) (pa_cons (pe_tup (pa_cons (pv 1) (pa_cons (pv 2) pa_nil))) (pa_cons (pv 5) (pa_cons (pe_ix (r := rIxL K) ix_list (pv 8) pe_int (fun _ _ => rfl)) pa_nil)))))) pss_nil)
      (pss_cons (ps_if (pt_cmpR op_eq (pv 4) pe_str (nomark _)) (pss_one (ps_ret (pe_meth (pv 0) T.c_Run T.m_Run_call G_Run_call (hr.mono (by omega)) T.b_Run_call .nil (passes_call (takes_of rfl rfl rfl rfl) (fun _ _ _ _ z => z)) (pa_cons (pe_tup (pa_cons (pv 1) (pa_cons (pv 2) pa_nil))) (pa_cons (pe_callS G_end_of_way (hr.mono (by omega)) (by rfl) T.g_end_of_way T.kp_end_of_way T.b_end_of_way (fun σ => passAt (takes_of rfl rfl rfl rfl) σ) (pa_cons (pe_ix (r := rIxL K) ix_list (pv 8) pe_int (fun _ _ => rfl)) pa_nil)) (pa_cons (pe_ix (r := rIxL K) ix_list (pv 8) pe_int (fun _ _ => rfl)) pa_nil)))))) pss_nil)
      (pss_one (ps_ret (pe_call G_reckoned (hr.mono (by omega)) (by rfl) T.g_reckoned T.kp_reckoned T.b_reckoned .nil pass0 (pa_cons (pv 4) (pa_cons (pe_callS G_number_in (hr.mono (by omega)) (by rfl) T.g_number_in T.kp_number_in T.b_number_in (fun σ => passAt (takes_of rfl rfl rfl rfl) σ) (pa_cons (pe_ix (r := rIxL K) ix_list (pv 8) pe_int (fun _ _ => rfl)) pa_nil)) (pa_cons (pe_callS G_number_in (hr.mono (by omega)) (by rfl) T.g_number_in T.kp_number_in T.b_number_in (fun σ => passAt (takes_of rfl rfl rfl rfl) σ) (pa_cons (pe_ix (r := rIxL K) ix_list (pv 8) pe_int (fun _ _ => rfl)) pa_nil)) pa_nil)))))))))))))))), ?_⟩
  obtain ⟨o, g, as⟩ := u
  cases hwk with
  | mk h1 h2 h3 =>
  obtain ⟨bs, hbo, hbs, hbn⟩ := hR.bo
  obtain ⟨b, hb, ys, hys, hrows⟩ := Paired.got hbs hpf
  have hrow := hsub.row
  obtain ⟨rv, hrv, t, aa, rfl, ht, haa⟩ := Paired.got hrows hrow
  have hfl := (List.getElem?_eq_some_iff.mp hpf).1
  refine ⟨_, rfl, x.a, _, _, _, _, rfl, hR.ob, T.c_Run, T.a_Run_bodies, rfl, _, rfl, x.bo, _, _, _, rfl, rfl, SqL.of hbo, atI_nat (by rw [List.getElem?_map, hb]; rfl), _, rfl, b, _, _, _, rfl, rfl, SqL.of hys, atI_nat hrv, t, _, rfl, SqT.of ht, rfl, _, _, rfl, _, _, rfl, _, _, rfl, rfl, ?_⟩
  have hal : as.length = o.arity := h1
  -- words without arms
  by_cases c1 : o = .num
  · subst c1
    refine ⟨_, rfl, rfl, _, rfl, iteT ⟨_, rfl, sml 2, fun t2 ht2 => ?_⟩⟩
    exact q _ _ (ButP.same (Same.new ht2)) (hR.same (Same.new ht2)) ⟨t2, rfl, upd_same⟩
  refine ⟨_, rfl, rfl, _, rfl, ?_⟩
  rw [show decide (V.str o.name = V.str "num") = false by cases o <;> first | decide +kernel | exact absurd rfl c1]
  refine iteF ?_
  by_cases c2 : o = .way
  · subst c2
    refine ⟨_, rfl, rfl, _, rfl, iteT ⟨_, rfl, sml 2, fun t2 ht2 => ?_⟩⟩
    refine q _ _ (ButP.same (Same.new ht2)) (hR.same (Same.new ht2)) ⟨t2, rfl, ?_⟩
    have hg : 0 ≤ g ∧ g < pr.length := h2
    rw [upd_same]
    show some (HO.tup [V.str "way", V.int g]) = some (HO.tup [V.str "way", V.int ((g.toNat : Nat) : Int)])
    rw [show ((g.toNat : Nat) : Int) = g by omega]
  refine ⟨_, rfl, rfl, _, rfl, ?_⟩
  rw [show decide (V.str o.name = V.str "way") = false by cases o <;> first | decide +kernel | exact absurd rfl c2]
  refine iteF ?_
  by_cases c3 : o = .arg
  · subst c3
    exact ⟨_, rfl, rfl, _, rfl, iteT ⟨_, rfl, q _ _ ButP.refl hR hv⟩⟩
  refine ⟨_, rfl, rfl, _, rfl, ?_⟩
  rw [show decide (V.str o.name = V.str "argument") = false by cases o <;> first | decide +kernel | exact absurd rfl c3]
  refine iteF ?_
  have ssz : 1 + W.sizes as = (W.mk o g as).size := (W.size_mk o g as).symm
  by_cases c4 : o = .ife
  · subst c4
    obtain ⟨wt, wx, wy, rfl⟩ := three_of hal
    obtain ⟨k0, e0, s0⟩ := hsub.arm (j := 0) (a := wt) rfl
    obtain ⟨k1, e1, s1⟩ := hsub.arm (j := 1) (a := wx) rfl
    obtain ⟨k2, e2, s2⟩ := hsub.arm (j := 2) (a := wy) rfl
    have szs : W.sizes [wt, wx, wy] = wt.size + (wx.size + (wy.size + 0)) := by simp only [W.sizes]
    rw [evB_if] at q
    refine ⟨_, rfl, rfl, _, rfl, iteT ?_⟩
    have gd := evB_good (n := pr.length) (call := evC pr n f) (a := a) (fun f' u' s' h1 h2 => evC_good hok n f f' u' s' h1 h2) ha d wt s (h3 wt (by simp))
    refine ⟨_, rfl, x.a, _, _, rfl, hR.ob, rfl, _, rfl, _, rfl, aa, _, 0, _, rfl, rfl, SqT.of haa, atI_nat (nV_get e0), _, rfl, x, told, v, s, oth, f, k0, p, wt, a, rfl, hR, hok, hpf, s0, h3 wt (by simp), hv, ha, by omega, hoth, ?_⟩
    generalize evB (evC pr n f) a d wt s = r0 at q gd ⊢
    cases r0 with
    | bad e s5 => exact fun H5 dd oth' b5 r5 e5 => q H5 dd oth' b5 r5 e5
    | ok v0 s5 =>
      intro H5 y b5 r5 hy
      have hs5 : s5.phi ≤ s.phi + wt.size := gd.2
      refine ⟨y, v0, rfl, hy, ?_⟩
      have k5 := hR.keep b5
      cases v0 with
      | way f' => exact AnsP.out (f := .kind) (s := s5) q b5 r5
      | num z =>
        have q : AnsP K x pr told oth H Q E (if z ≠ 0 then evB (evC pr n f) a d wx s5 else evB (evC pr n f) a d wy s5) := q
        refine ⟨_, rfl, x.a, _, _, rfl, r5.ob, rfl, _, rfl, _, rfl, rfl, _, rfl, ?_⟩
        show if (!decide (V.int z = V.int 0)) = true then _ else _
        by_cases hz : z = 0
        · subst hz
          rw [if_neg (by simp)] at q
          rw [decide_eq_true (rfl : V.int 0 = V.int 0)]
          exact iteF ⟨_, rfl, aa, _, 2, _, rfl, rfl, SqT.of (k5 _ _ haa), atI_nat (nV_get e2), _, rfl, x, told, v, s5, oth, f, k2, p, wy, a, rfl, r5, hok, hpf, s2, h3 wy (by simp), hv.keep k5, ha, by omega, hoth, AnsP.but b5 q⟩
        · rw [if_pos hz] at q
          rw [decide_eq_false (fun e => hz (V.int.inj e) : ¬ V.int z = V.int 0)]
          exact iteT ⟨_, rfl, aa, _, 1, _, rfl, rfl, SqT.of (k5 _ _ haa), atI_nat (nV_get e1), _, rfl, x, told, v, s5, oth, f, k1, p, wx, a, rfl, r5, hok, hpf, s1, h3 wx (by simp), hv.keep k5, ha, by omega, hoth, AnsP.but b5 q⟩
  refine ⟨_, rfl, rfl, _, rfl, ?_⟩
  rw [show decide (V.str o.name = V.str "if") = false by cases o <;> first | decide +kernel | exact absurd rfl c4]
  refine iteF ?_
  rw [evB_gen c1 c2 c3 c4] at q
  -- the arms
  refine ⟨_, rfl, aa, rfl, ⟨_, SqT.of haa⟩, fun D hD => ?_⟩
  have nDa : D ≠ x.a := (ne_of_none hR.ob hD).symm
  have nDs : D ≠ x.sa := (ne_of_none hR.sa hD).symm
  have nDr : D ≠ x.ro := (ne_of_none hR.ro hD).symm
  have stl : (nV (starts (wi + 1) as)).length = as.length := by rw [nV_len, starts_len]
  refine lc_tupY (K := K) (a := aa) (xs := nV (starts (wi + 1) as)) (fun i H' => ∃ (si : RS) (vsi : List Wt) (us : List V), ButP x H H' ∧ RunAt K H' x pr told si oth ∧ H' D = some (.lst us) ∧ Paired (PV H') us vsi ∧ vsi.length = i ∧ (∀ u ∈ vsi, WtOk pr.length u) ∧ si.phi ≤ s.phi + W.sizes (as.take i) ∧ AnsP K x pr told oth H Q E (evArms (evB (evC pr n f) a d) (as.drop i) vsi si (fin (evC pr n f) o g)))
    ⟨s, [], [], ButP.same (Same.new hD), hR.same (Same.new hD), upd_same, .nil, rfl, (fun _ z => nomatch z), by rw [List.take_zero, W.sizes]; exact Nat.le_refl _, by rw [List.drop_zero]; exact q⟩ (fun i H' _ ⟨_, _, _, b, _⟩ => SqT.of (hR.keep b _ _ haa)) ?_ ?_
  · rintro i y Hi hi ⟨si, vsi, us, bi, ri, eDi, hvi, hvl, hvo, hsi, qi⟩
    have hil : i < as.length := by
      have := (List.getElem?_eq_some_iff.mp hi).1
      rw [stl] at this
      exact this
    obtain ⟨ai, hai⟩ : ∃ ai, as[i]? = some ai := ⟨_, List.getElem?_eq_getElem hil⟩
    obtain ⟨ki, eki, subi⟩ := hsub.arm (j := i) (a := ai) hai
    obtain rfl : y = .int (ki : Int) := Option.some.inj (hi.symm.trans (nV_get eki))
    have wki := h3 ai (List.mem_of_getElem? hai)
    have szi := size_get as i ai hai
    have ki' := hR.keep bi
    rw [drop_get hai] at qi
    have gd := evB_good (n := pr.length) (call := evC pr n f) (a := a) (fun f' u' s' h1 h2 => evC_good hok n f f' u' s' h1 h2) ha d ai si wki
    refine ⟨rfl, _, rfl, x.a, _, _, rfl, ri.ob, rfl, _, rfl, _, rfl, _, rfl, x, told, v, si, oth, f, ki, p, ai, a, rfl, ri, hok, hpf, subi, wki, hv.keep ki', ha, by omega, hoth, ?_⟩
    have qi : AnsP K x pr told oth H Q E ((evB (evC pr n f) a d ai si).bind fun v s => evArms (evB (evC pr n f) a d) (as.drop (i + 1)) (vsi ++ [v]) s (fin (evC pr n f) o g)) := qi
    generalize evB (evC pr n f) a d ai si = r0 at qi gd ⊢
    cases r0 with
    | bad e s5 => exact fun H5 dd oth' b5 r5 e5 => qi H5 dd oth' (bi.trans b5) r5 e5
    | ok v0 s5 =>
      intro H5 y b5 r5 hy
      have hs5 : s5.phi ≤ si.phi + ai.size := gd.2
      have eD5 := b5 _ _ nDa nDs nDr eDi
      have k5 := ri.keep b5
      have bi5 := bi.trans b5
      have kD := Keep.updL (ys := us ++ [y]) eD5
      have ul := Paired.length hvi
      have ar3 : o.arity ≤ 3 := by cases o <;> decide
      refine ⟨us, eD5, sm _ (by omega), s5, vsi ++ [v0], us ++ [y], bi5.updn hD, RunAt.fresh hR hD bi5 r5 eD5, upd_same, PySem.Paired.snoc (L2.Paired.mapP hvi fun _ _ z => (z.keep k5).keep kD) (hy.keep kD), by rw [List.length_append, List.length_singleton, hvl], fun u hu => ?_, ?_, qi⟩
      · rcases List.mem_append.mp hu with hu | hu
        · exact hvo u hu
        · rw [List.mem_singleton.mp hu]
          exact gd.1
      · have : as.take (i + 1) = as.take i ++ [ai] := by
          rw [List.take_add_one, hai]
          rfl
        rw [this, W.sizes_snoc]
        omega
  rintro Hn ⟨sn, vs, us, bn, rn, eD, hvs, hvl, hvo, hsn, qn⟩
  rw [stl] at hvl hsn qn
  rw [List.take_length] at hsn
  rw [List.drop_length] at qn
  have q : AnsP K x pr told oth H Q E (fin (evC pr n f) o g vs sn) := qn
  clear qn
  have kn := hR.keep bn
  have hvk : PV Hn v a := hv.keep kn
  have phn : sn.phi ≤ most := by omega
  have at0 : ∀ {u : V} {r : List V}, us = u :: r → atI us (0 : Int) = some u := fun e => by
    rw [e]
    exact atI_nat (j := 0) rfl
  by_cases c5 : o = .thn
  · subst c5
    obtain ⟨l1, l2, u1, u2, rfl, rfl, hp1, hp2⟩ := paired_two hvs (by rw [hvl, hal]; rfl)
    exact ⟨_, rfl, rfl, _, rfl, iteT ⟨_, rfl, D, _, 1, _, rfl, rfl, SqL.of eD, atI_nat (j := 1) rfl, q Hn l2 bn rn hp2⟩⟩
  refine ⟨_, rfl, rfl, _, rfl, ?_⟩
  rw [show decide (V.str o.name = V.str "then") = false by cases o <;> first | decide +kernel | exact absurd rfl c5]
  refine iteF ?_
  by_cases c6 : o = .say
  · subst c6
    obtain ⟨l1, u1, rfl, rfl, hp1⟩ := one_of hvs (by rw [hvl, hal]; rfl)
    have hsl : sn.said.length ≤ sn.phi := by unfold RS.phi; omega
    refine ⟨_, rfl, rfl, _, rfl, iteT ⟨_, rfl, x.a, _, _, rfl, rn.ob, rfl, _, rfl, D, _, 0, _, rfl, rfl, SqL.of eD, atI_nat (j := 0) rfl, x, pr, told, l1, sn, oth, u1, rfl, rn, hp1, by omega, ?_⟩⟩
    cases u1 with
    | num z => exact fun H' b r => q H' l1 (bn.trans b) r (hp1.keep (rn.keep b))
    | way f' => exact AnsP.out (f := .kind) (s := sn) q bn rn
  refine ⟨_, rfl, rfl, _, rfl, ?_⟩
  rw [show decide (V.str o.name = V.str "say") = false by cases o <;> first | decide +kernel | exact absurd rfl c6]
  refine iteF ?_
  by_cases c7 : o = .call
  · subst c7
    obtain ⟨l1, u1, rfl, rfl, hp1⟩ := one_of hvs (by rw [hvl, hal]; rfl)
    have hg : 0 ≤ g ∧ g < pr.length := h2
    refine ⟨_, rfl, rfl, _, rfl, iteT ⟨_, rfl, x.a, _, _, rfl, rn.ob, rfl, _, rfl, _, rfl, sml 2, fun t2 ht2 => ?_⟩⟩
    have s2 := Same.new (o := .tup [.int (f : Int), .int (wi : Int)]) ht2
    refine ⟨_, rfl, _, rfl, D, _, 0, _, rfl, rfl, SqL.of (s2 _ _ eD), atI_nat (j := 0) rfl, x, told, l1, sn, oth, t2, f, wi, g.toNat, u1, ?_, upd_same, rn.same s2, hok, hfl, by omega, hp1.keep (Keep.same s2), hvo u1 (by simp), phn, hoth, AnsP.but (bn.trans (ButP.same s2)) q⟩
    show [V.ref x.a, V.ref t2, V.int g, l1] = [V.ref x.a, V.ref t2, V.int ((g.toNat : Nat) : Int), l1]
    rw [show ((g.toNat : Nat) : Int) = g by omega]
  refine ⟨_, rfl, rfl, _, rfl, ?_⟩
  rw [show decide (V.str o.name = V.str "call") = false by cases o <;> first | decide +kernel | exact absurd rfl c7]
  refine iteF ?_
  by_cases c8 : o = .through
  · subst c8
    obtain ⟨l1, l2, u1, u2, rfl, rfl, hp1, hp2⟩ := paired_two hvs (by rw [hvl, hal]; rfl)
    refine ⟨_, rfl, rfl, _, rfl, iteT ⟨_, rfl, x.a, _, _, rfl, rn.ob, rfl, _, rfl, _, rfl, sml 2, fun t2 ht2 => ?_⟩⟩
    have s2 := Same.new (o := .tup [.int (f : Int), .int (wi : Int)]) ht2
    refine ⟨_, rfl, D, _, 0, _, rfl, rfl, SqL.of (s2 _ _ eD), atI_nat (j := 0) rfl, l1, u1, rfl, hp1.keep (Keep.same s2), ?_⟩
    cases u1 with
    | num z => exact AnsP.out (f := .kind) (s := sn) q (bn.trans (ButP.same s2)) (rn.same s2)
    | way f' => exact ⟨_, rfl, D, _, 1, _, rfl, rfl, SqL.of (s2 _ _ eD), atI_nat (j := 1) rfl, x, told, l2, sn, oth, t2, f, wi, f', u2, rfl, upd_same, rn.same s2, hok, hfl, hvo (.way f') (by simp), hp2.keep (Keep.same s2), hvo u2 (by simp), phn, hoth, AnsP.but (bn.trans (ButP.same s2)) q⟩
  refine ⟨_, rfl, rfl, _, rfl, ?_⟩
  rw [show decide (V.str o.name = V.str "through") = false by cases o <;> first | decide +kernel | exact absurd rfl c8]
  refine iteF ?_
  have ho : o = .plus ∨ o = .less ∨ o = .times := by cases o <;> simp_all
  have har : o.arity = 2 := by rcases ho with rfl | rfl | rfl <;> rfl
  obtain ⟨l1, l2, u1, u2, rfl, rfl, hp1, hp2⟩ := paired_two hvs (by rw [hvl, hal, har])
  have hbad : ∀ {f' : Nat}, Wt.way f' ∈ [u1, u2] → fin (evC pr n f) o g [u1, u2] sn = .bad .kind sn := fun h => fin_bad h (Nat.le_refl 2) (.inr ho)
  refine ⟨_, rfl, _, rfl, D, _, 0, _, rfl, rfl, SqL.of eD, atI_nat (j := 0) rfl, l1, u1, rfl, hp1, ?_⟩
  cases u1 with
  | way f' =>
    rw [hbad (f' := f') (by simp)] at q
    exact AnsP.out (f := .kind) (s := sn) q bn rn
  | num z1 =>
    refine ⟨_, rfl, D, _, 1, _, rfl, rfl, SqL.of eD, atI_nat (j := 1) rfl, l2, u2, rfl, hp2, ?_⟩
    cases u2 with
    | way f' =>
      rw [hbad (f' := f') (by simp)] at q
      exact AnsP.out (f := .kind) (s := sn) q bn rn
    | num z2 =>
      have w1 : 0 ≤ z1 ∧ z1 < 1000 := hvo (.num z1) (by simp)
      refine ⟨o, z1, z2, rfl, ho, w1.1, w1.2, fun H' t2 z s2 ht2 e2 hfin => ?_⟩
      rw [hfin] at q
      exact q H' _ (bn.trans (ButP.same s2)) (rn.same s2) ⟨t2, rfl, e2⟩
theorem ok_Run_worth0 (T : Txt w K mg) {pr : List (Int × W)} {n k : Nat} : FnOk P w K mg base (L2.CX P w) k (He.ma K (He.ga K "Run") "worth") (fdOf K d_Run_worth) ["self", "function", "word", "argument"] (spWorth K pr n 0) :=
  ⟨fun vs H Q E ⟨_, _, _, _, _, _, _, _, _, _, _, _, _, _, _, h, _⟩ => absurd h wok0, fun _ _ _ _ _ _ _ _ _ _ _ _ _ ⟨_, _, _, _, _, _, _, _, _, _, _, _, _, _, _, h, _⟩ => absurd h wok0⟩
theorem ok_Run_worthD (T : Txt w K mg) {pr : List (Int × W)} {n : Nat} (G : FnOk P w K mg base (L2.CX P w) (8 * n + 5) (He.ma K (He.ga K "Run") "call") (fdOf K d_Run_call) ["self", "place", "called", "argument"] (spCallP K pr n)) : ∀ d, FnOk P w K mg base (L2.CX P w) (8 * n + 5 + d) (He.ma K (He.ga K "Run") "worth") (fdOf K d_Run_worth) ["self", "function", "word", "argument"] (spWorth K pr n d)
  | 0 => ok_Run_worth0 T
  | d + 1 => ok_Run_worthS T (ok_Run_worthD T G d) G (Nat.le_add_right _ _)
theorem ok_Run_callN (T : Txt w K mg) {pr : List (Int × W)} : ∀ n, FnOk P w K mg base (L2.CX P w) (8 * n + 5) (He.ma K (He.ga K "Run") "call") (fdOf K d_Run_call) ["self", "place", "called", "argument"] (spCallP K pr n)
  | 0 => ok_Run_call0 T ⟨fun _ _ _ _ h => h.elim, fun _ _ _ _ _ _ _ _ _ _ _ _ _ h => h.elim⟩
  | n + 1 => ok_Run_callS T (ok_Run_worthD T (ok_Run_callN T n) 7) (by omega)
/-- function 0's body, twelve more within one another -/
theorem ok_Run_worth (T : Txt w K mg) {pr : List (Int × W)} : FnOk P w K mg base (L2.CX P w) 108 (He.ma K (He.ga K "Run") "worth") (fdOf K d_Run_worth) ["self", "function", "word", "argument"] (spWorth K pr 12 7) := ok_Run_worthD T (ok_Run_callN T 12) 7
end
end K18

namespace K18
open PySem PySem.Spec PyProof.Rows L2 Ov
section
variable {P : Program} {w : World} {K : PySem.W.Frag} {mg : Str → Option Value} {base : Heap}
theorem sc_Run_begin : FnScope ["self", "number", "fault"] ["self", "number"] (defScope s_Run_begin) := ⟨rfl, rfl, rfl, by decide +kernel, rfl, by decide +kernel, by decide +kernel⟩
-- 0 self, 1 number, 2 fault
theorem ok_Run_begin (T : Txt w K mg) : FnOk P w K mg base CX0 109 (He.ma K (He.ga K "Run") "begin") (fdOf K d_Run_begin) ["self", "number"] (spBegin K) := by
  refine ⟨fun vs H Q E h => ?_, ?_⟩
  · obtain ⟨x, pr, z, rfl, _⟩ := h
    rfl
  intro A outer s H args us vs Q E hr h1 h2 h3 h4
  obtain ⟨x, pr, z, e, r⟩ := h4
  have G_Run_enter := ok_Run_enter (P := P) (base := base) T
  have G_Run_worth := ok_Run_worth (P := P) (base := base) T (pr := pr)
  refine FnOk.run (sp := fun vs H Q E => ∃ (x : PA) (z : Int), vs = [.ref x.a, .int z] ∧ RunAt K H x pr .non ⟨[], 0, [], [], []⟩ 0 ∧ PrOk pr ∧ 0 ≤ z ∧ z < 1000 ∧
    ∀ H' t oth, ButP x H H' → RunAt K H' x pr (.ref t) (evR pr z).st oth → H' t = some (.tup [.str (endD (evR pr z)).1, (endD (evR pr z)).2]) → Q .non H') (T.F_Run_begin.ok sc_Run_begin (fun vs H Q E h => ?_) (fun cdv A outer s H vs Q E hr h => ?_)) A outer s H args us vs Q E hr h1 h2 h3 ⟨x, z, e, r⟩
  · obtain ⟨x, z, rfl, _⟩ := h
    rfl
  obtain ⟨x, z, rfl, hR, hok, hz0, hz1, q⟩ := h
  refine ⟨_, PSs.nox (pss_one (ps_try_as (i := 2) rfl rfl sc_Run_begin.nd rfl rfl ⟨rfl, by decide, .inl T.g_Fault⟩ takes0 (fun W pn xe tk _ => (pss_cons (ps_expr (pe_meth (pv 0) T.c_Run T.m_Run_enter G_Run_enter (hr.mono (by omega)) T.b_Run_enter .nil pass0 (pa_cons pe_non (pa_cons pe_int pa_nil))))
      (pss_one (Ov.ps_fldK (K := K) rfl (pv 0) (Ov.pe_methAt (pv 0) T.c_Run T.m_Run_worth G_Run_worth (hr.mono (by omega)) T.b_Run_worth (fun σ => passAt tk σ) (pa_cons pe_int (pa_cons pe_int (pa_cons (pe_tup (pa_cons pe_str (pa_cons (pv 1) pa_nil))) pa_nil)))) rfl)))) (fun a oe cls d pn hz hf => (pss_one (Ov.ps_fldK (K := K) rfl (pv 0) (pe_tup (pa_cons pe_str (pa_cons (pe_byFlt T.flt hz hf (pv 2)) pa_nil))) rfl))))), ?_⟩
  obtain ⟨p, hp⟩ : ∃ p, pr[0]? = some p := ⟨_, List.getElem?_eq_getElem (by have := hok.l1; omega)⟩
  have hbd := hok.f p (List.mem_of_getElem? hp)
  unfold evR at q
  rw [hp] at q
  refine ⟨_, rfl, x.a, _, _, rfl, hR.ob, rfl, x, pr, .non, .non, _, 0, 0, rfl, hR, Nat.zero_le _, fun H1 b1 r1 => ?_⟩
  have b0 : ({ said := [], calls := 0, row := [0], came := [(0, .num z)], told := [] } : RS).phi + p.2.size ≤ most := by
    have := hbd.2.2.2
    unfold RS.phi most
    simp only [List.length_cons, List.length_nil]
    omega
  refine ⟨_, rfl, x.a, _, _, rfl, r1.ob, rfl, _, rfl, sml 2, fun t ht => ?_⟩
  have st := Same.new (o := .tup [.str "number", .int z]) ht
  have et : upd H1 t (.tup [.str "number", .int z]) t = some (.tup [.str "number", .int z]) := upd_same
  have r2 := r1.same st
  generalize upd H1 t (.tup [.str "number", .int z]) = H2 at st et r2 ⊢
  have b2 := b1.trans (ButP.same st)
  have r2' : RunAt K H2 x pr .non { said := [], calls := 0, row := [0], came := [(0, .num z)], told := [] } 0 := ⟨r2.ob, r2.bo, r2.sa, r2.ro, r2.nd⟩
  refine ⟨x, .non, .ref t, _, 0, 0, 0, p, p.2, .num z, rfl, r2', hok, hp, SubAt.all _, hbd.2.2.1, ⟨t, rfl, et⟩, ⟨hz0, hz1⟩, b0, rfl, ?_⟩
  simp only at q
  generalize evB (evC pr 12 0) (.num z) 7 p.2 _ = rs at q ⊢
  cases rs with
  | ok v s2 =>
    intro H5 y b5 r5 hy
    obtain ⟨r6, b6⟩ := r5.wr (told' := y) (oth' := 0) (c := s2.calls)
    have k6 := r5.keep b6
    obtain ⟨t5, rfl, e5⟩ := hy
    refine ⟨_, rfl, x.a, _, x.dx, _, rfl, r5.ob, T.c_Run, T.a_Run_told, by show 6 < 1000; decide, ?_⟩
    rw [runFs_told]
    refine q _ t5 0 (b2.trans (b5.trans b6)) ⟨r6.ob, r6.bo, r6.sa, r6.ro, r6.nd⟩ ?_
    rw [k6 _ _ e5]
    cases v <;> rfl
  | bad f s2 =>
    intro H5 d oth' b5 r5 e5
    refine ⟨true, T.flt.te, fun _ ea hea => ?_, fun z => nomatch z⟩
    refine ⟨_, rfl, rfl, rfl, d, _, rfl, e5, sml 2, fun t6 ht6 => ?_⟩
    have s6 := Same.new (o := .tup [.str "fault", .str f.name]) ht6
    have e6 : upd H5 t6 (.tup [.str "fault", .str f.name]) t6 = some (.tup [.str "fault", .str f.name]) := upd_same
    have r6 := r5.same s6
    generalize upd H5 t6 (.tup [.str "fault", .str f.name]) = H6 at s6 e6 r6 ⊢
    obtain ⟨r7, b7⟩ := r6.wr (told' := .ref t6) (oth' := oth') (c := s2.calls)
    have k7 := r6.keep b7
    refine ⟨_, rfl, x.a, _, x.dx, _, rfl, r6.ob, T.c_Run, T.a_Run_told, by show 6 < 1000; decide, ?_⟩
    rw [runFs_told]
    exact q _ t6 oth' (b2.trans (b5.trans ((ButP.same s6).trans b7))) ⟨r7.ob, r7.bo, r7.sa, r7.ro, r7.nd⟩ (k7 _ _ e6)
end
end K18

namespace K18
open PySem PySem.Spec PyProof.Rows L2 Ov
section
variable {P : Program} {w : World} {K : PySem.W.Frag} {mg : Str → Option Value} {base : Heap}
theorem sc_check_number : FnScope ["number"] ["number"] (defScope s_check_number) := ⟨rfl, rfl, rfl, by decide +kernel, rfl, by decide +kernel, by decide +kernel⟩
-- 0 number
theorem ok_check_number (T : Txt w K mg) : FnOk P w K mg base CX0 2 (He.ga K "check_number") (fdOf K d_check_number) ["number"] spCheckNumber := by
  have G_between := ok_between (P := P) (base := base) T
  refine T.F_check_number.ok sc_check_number (fun vs H Q E h => ?_) (fun cdv A outer s H vs Q E hr h => ?_)
  · obtain ⟨z, rfl, _⟩ := h
    rfl
  obtain ⟨z, rfl, h1, h2, q⟩ := h
  refine ⟨_, PSs.nox (pss_one (ps_if (pt_not (pt_val (pe_call G_between (hr.mono (by omega)) (by rfl) T.g_between T.kp_between T.b_between .nil pass0 (pa_cons (pv 0) (pa_cons pe_int (pa_cons (pe_op op_sub (pe_glob (v := .int 1000) (by rfl) T.i_NUMBERS.choose_spec ⟨_, rfl⟩) pe_int) pa_nil)))))) (pss_one ps_never) pss_nil)), ?_⟩
  refine ⟨_, rfl, 1000, 1, rfl, rfl, z, 0, _, rfl, _, rfl, ?_⟩
  rw [decide_eq_true (show (0 : Int) ≤ z ∧ z ≤ 1000 - 1 from ⟨h1, by omega⟩)]
  exact iteF q
theorem sc_plain_run : FnScope ["program", "number", "done"] ["program", "number"] (defScope s_plain_run) := ⟨rfl, rfl, rfl, by decide +kernel, rfl, by decide +kernel, by decide +kernel⟩
-- 0 program, 1 number, 2 done
theorem ok_plain_run (T : Txt w K mg) : FnOk P w K mg base CX0 110 (He.ga K "plain_run") (fdOf K d_plain_run) ["program", "number"] (spPlainRun K) := by
  have G_check_program := ok_check_program (P := P) (base := base) T
  have G_check_number := ok_check_number (P := P) (base := base) T
  have G_Run_init := ok_Run_init (P := P) (base := base) T
  have G_Run_begin := ok_Run_begin (P := P) (base := base) T
  refine T.F_plain_run.ok sc_plain_run (fun vs H Q E h => ?_) (fun cdv A outer s H vs Q E hr h => ?_)
  · obtain ⟨v, pr, z, rfl, _⟩ := h
    rfl
  obtain ⟨v, pr, z, rfl, hpr, hok, hz0, hz1, q⟩ := h
  refine ⟨_, PSs.nox (pss_cons (ps_expr (pe_call G_check_program (hr.mono (by omega)) (by rfl) T.g_check_program T.kp_check_program T.b_check_program .nil pass0 (pa_cons (pv 0) pa_nil)))
      (pss_cons (ps_expr (pe_call G_check_number (hr.mono (by omega)) (by rfl) T.g_check_number T.kp_check_number T.b_check_number .nil pass0 (pa_cons (pv 1) pa_nil)))
      (pss_cons (ps_set (i := 2) sc_plain_run.nd rfl (by first | exact Or.inl rfl | exact Or.inr rfl) (pe_make T.k_Run G_Run_init (hr.mono (by omega)) (by rfl) T.g_Run T.b_Run_init .nil pass0 (pa_cons (pv 0) pa_nil)))
      (pss_cons (ps_expr (pe_meth (pv 2) T.c_Run T.m_Run_begin G_Run_begin (hr.mono (by omega)) T.b_Run_begin .nil pass0 (pa_cons (pv 1) pa_nil)))
      (pss_one (ps_ret (pv 2))))))), ?_⟩
  refine ⟨_, rfl, v, pr, rfl, hpr, hok, fun H1 s1 => ?_⟩
  refine ⟨_, rfl, z, rfl, hz0, hz1, ?_⟩
  refine ⟨_, rfl, fun a dx ha hdx nd => ?_⟩
  have sH : Same H1 (upd (upd H1 dx (.own a)) a (.ins (He.ga K "Run") dx [])) := (Same.new hdx).trans (Same.new (by rw [upd_ne nd.symm]; exact ha))
  refine ⟨a, dx, v, pr, rfl, upd_same, hpr.keep (Keep.same (s1.trans sH)), hok, fun H2 x f2 ex edx h1 h2 hR => ⟨rfl, ?_⟩⟩
  have s2 : Same H1 H2 := fun b o e => f2 b o (ne_of_none e ha) (sH _ _ e)
  have g1 := Same.free sH h1
  have g2 := Same.free sH h2
  clear f2 sH h1 h2
  subst ex
  refine ⟨_, rfl, x.a, _, _, rfl, hR.ob, rfl, _, rfl, x, pr, z, rfl, hR, hok, hz0, hz1, fun H3 t oth b3 r3 e3 => ?_⟩
  have s3 : Same H H3 := fun b o e => b3 b o (ne_of_none (s1 _ _ e) ha) (ne_of_none (s1 _ _ e) g1) (ne_of_none (s1 _ _ e) g2) (s2 _ _ (s1 _ _ e))
  exact ⟨_, rfl, q H3 x t oth s3 (Same.free s1 g1) (Same.free s1 g2) r3 e3⟩
end
end K18

namespace K18
open PySem PySem.Spec PyProof.Rows L2 Ov
section
variable {P : Program} {w : World} {K : PySem.W.Frag} {mg : Str → Option Value} {base : Heap}
theorem sc_run : FnScope ["program", "number", "done"] ["program", "number"] (defScope s_run) := ⟨rfl, rfl, rfl, by decide +kernel, rfl, by decide +kernel, by decide +kernel⟩
-- 0 program, 1 number, 2 done
theorem ok_run (T : Txt w K mg) : FnOk P w K mg base CX0 111 (He.ga K "run") (fdOf K d_run) ["program", "number"] spRunTold := by
  have G_plain_run := ok_plain_run (P := P) (base := base) T
  refine T.F_run.ok sc_run (fun vs H Q E h => ?_) (fun cdv A outer s H vs Q E hr h => ?_)
  · obtain ⟨v, pr, z, rfl, _⟩ := h
    rfl
  obtain ⟨v, pr, z, rfl, hpr, hok, hz0, hz1, q⟩ := h
  refine ⟨_, PSs.nox (pss_cons (ps_set (i := 2) sc_run.nd rfl (by first | exact Or.inl rfl | exact Or.inr rfl) (pe_call G_plain_run (hr.mono (by omega)) (by rfl) T.g_plain_run T.kp_plain_run T.b_plain_run .nil pass0 (pa_cons (pv 0) (pa_cons (pv 1) pa_nil))))
      (pss_one (ps_ret (pe_tup (pa_cons (Ov.pe_fldK (K := K) rfl (pv 2) rfl) (pa_cons (Ov.pe_fldK (K := K) rfl (pv 2) rfl) pa_nil)))))), ?_⟩
  refine ⟨_, rfl, _, rfl, v, pr, z, rfl, hpr, hok, hz0, hz1, fun H1 x t oth s1 f1 f2 r1 e1 => ?_⟩
  refine ⟨_, rfl, x.a, _, _, _, _, rfl, r1.ob, T.c_Run, T.a_Run_told, rfl, _, rfl, x.a, _, _, _, _, rfl, r1.ob, T.c_Run, T.a_Run_said, rfl, sml 2, fun r hr2 => ?_⟩
  have s2 := Same.new (o := .tup [.ref t, .ref x.sa]) hr2
  exact q _ r t x.sa (s1.trans s2) f1 upd_same (s2 _ _ e1) (s2 _ _ r1.sa)
end
end K18

namespace K18
open PySem PySem.Spec PyProof.Rows L2 Ov
section
variable {P : Program} {w : World} {K : PySem.W.Frag} {mg : Str → Option Value} {base : Heap}
theorem Txt.b_RoomRun_worth (T : Txt w K mg) : Binds K (fdOf K d_Run_worth) ["self", "function", "word", "argument"] [] := T.b_Run_worth
theorem Txt.b_RoomRun_call (T : Txt w K mg) : Binds K (fdOf K d_Run_call) ["self", "place", "called", "argument"] [] := T.b_Run_call
theorem Txt.b_RoomRun_say (T : Txt w K mg) : Binds K (fdOf K d_Run_say) ["self", "worth"] [] := T.b_Run_say
theorem ok_RoomRun_say (T : Txt w K mg) : FnOk P w K mg base (L2.CX P w) 4 (He.ma K (He.ga K "RoomRun") "say") (fdOf K d_Run_say) ["self", "worth"] (spSayR K) := by
  rw [T.inh_RoomRun_say]
  have G_number_in := ok_number_in (P := P) (base := base) T
  refine T.F_Run_say.ok sc_Run_say (fun vs H Q E h => ?_) (fun cdv A outer s H vs Q E hr h => ?_)
  · obtain ⟨x, pr, told, v, s, oth, a, rfl, _⟩ := h
    rfl
  obtain ⟨x, pr, told, v, s, oth, a, rfl, hR, hv, hsz, q⟩ := h
  refine ⟨_, (pss_cons (ps_expr (Ov.pe_bmK (K := K) rfl PySem.F.plainAttrs_list PySem.F.slot_list_append PySem.F.type_list_append mt_append (Ov.pe_fldK (K := K) rfl (pv 0) rfl) (pa_cons (pe_callS G_number_in (hr.mono (by omega)) (by rfl) T.g_number_in T.kp_number_in T.b_number_in (fun σ => passAt (takes_of rfl rfl rfl rfl) σ) (pa_cons (pv 1) pa_nil)) pa_nil)))
      (pss_one (ps_ret (pv 1)))), ?_⟩
  refine ⟨_, rfl, x.a, _, _, _, _, rfl, hR.ob, T.c_RoomRun, T.a_RoomRun_said, rfl, .inl ⟨rfl, _, SqL.of hR.sa⟩, _, rfl, v, a, rfl, hv, ?_⟩
  cases a with
  | num z => exact ⟨x.sa, _, _, rfl, rfl, hR.sa, Nat.lt_of_le_of_lt (by rw [List.length_map]; exact hsz) (by decide), _, rfl, q _ hR.updS.2 hR.updS.1⟩
  | way f => exact q
end
end K18

namespace K18
open PySem PySem.Spec PyProof.Rows L2 Ov
section
variable {P : Program} {w : World} {K : PySem.W.Frag} {mg : Str → Option Value} {base : Heap}
theorem ok_Run_initB (T : Txt w K mg) : FnOk P w K mg base CX0 11 (He.ma K (He.ga K "Run") "__init__") (fdOf K d_Run_init) ["self", "program"] (spRunInitB K) := by
  have G_numbered := ok_numbered (P := P) (base := base) T
  refine T.F_Run_init.ok sc_Run_init (fun vs H Q E h => ?_) (fun cdv A outer s H vs Q E hr h => ?_)
  · obtain ⟨a, dx, v, pr, rfl, _⟩ := h
    rfl
  obtain ⟨a, dx, v, pr, rfl, ha, hpr, hok, q⟩ := h
  refine ⟨_, PSs.nox (pss_cons (ps_fld (pv 0) (pe_call G_numbered (hr.mono (by omega)) (by rfl) T.g_numbered T.kp_numbered T.b_numbered .nil pass0 (pa_cons (pv 1) pa_nil)) rfl)
      (pss_cons (ps_fld (pv 0) pe_non rfl)
      (pss_cons (ps_fld (pv 0) (pe_lst pa_nil) rfl)
      (pss_cons (ps_fld (pv 0) (pe_lst pa_nil) rfl)
      (pss_cons (ps_fld (pv 0) pe_int rfl)
      (pss_one (ps_fld (pv 0) pe_int rfl))))))), ?_⟩
  refine ⟨_, rfl, v, pr, rfl, hpr, hok, fun H1 bo bs s1 hbo ebo hbs hnb => ?_⟩
  refine ⟨_, rfl, a, _, dx, _, rfl, s1 _ _ ha, T.c_RoomRun, T.a_RoomRun_bodies, by show 0 < 1000; decide, ?_⟩
  refine ⟨_, rfl, a, _, dx, _, rfl, upd_same, T.c_RoomRun, T.a_RoomRun_told, by show 1 < 1000; decide, ?_⟩
  have na : ∀ {b : Addr}, H1 b = none → b ≠ a := fun hb z => by
    rw [z, s1 _ _ ha] at hb
    cases hb
  have ea2 : upd (upd H1 a (.ins (He.ga K "RoomRun") dx (putF "bodies" (.ref bo) []))) a (.ins (He.ga K "RoomRun") dx (putF "told" .non (putF "bodies" (.ref bo) []))) a = some (.ins (He.ga K "RoomRun") dx (putF "told" .non (putF "bodies" (.ref bo) []))) := upd_same
  have fr2 : ∀ b o, b ≠ a → H1 b = some o → upd (upd H1 a (.ins (He.ga K "RoomRun") dx (putF "bodies" (.ref bo) []))) a (.ins (He.ga K "RoomRun") dx (putF "told" .non (putF "bodies" (.ref bo) []))) b = some o := fun b o n e => by
    rw [upd_ne n, upd_ne n]
    exact e
  generalize upd (upd H1 a (.ins (He.ga K "RoomRun") dx (putF "bodies" (.ref bo) []))) a (.ins (He.ga K "RoomRun") dx (putF "told" .non (putF "bodies" (.ref bo) []))) = H2 at ea2 fr2 ⊢
  refine ⟨sml 0, fun sa hsa => ?_⟩
  have nsa : sa ≠ a := (ne_of_none ea2 hsa).symm
  refine ⟨_, rfl, a, _, dx, _, rfl, Same.new hsa _ _ ea2, T.c_RoomRun, T.a_RoomRun_said, by show 2 < 1000; decide, ?_⟩
  have ea3 : upd (upd H2 sa (.lst [])) a (.ins (He.ga K "RoomRun") dx (putF "said" (.ref sa) (putF "told" .non (putF "bodies" (.ref bo) [])))) a = some (.ins (He.ga K "RoomRun") dx (putF "said" (.ref sa) (putF "told" .non (putF "bodies" (.ref bo) [])))) := upd_same
  have es3 : upd (upd H2 sa (.lst [])) a (.ins (He.ga K "RoomRun") dx (putF "said" (.ref sa) (putF "told" .non (putF "bodies" (.ref bo) [])))) sa = some (.lst []) := by rw [upd_ne nsa, upd_same]
  have fr3 : ∀ b o, b ≠ a → H1 b = some o → upd (upd H2 sa (.lst [])) a (.ins (He.ga K "RoomRun") dx (putF "said" (.ref sa) (putF "told" .non (putF "bodies" (.ref bo) [])))) b = some o := fun b o n e => by
    rw [upd_ne n]
    exact Same.new hsa _ _ (fr2 b o n e)
  have fsa : ∀ {b : Addr} {o : HO}, b ≠ a → H1 b = some o → b ≠ sa := fun n e => ne_of_none (fr2 _ _ n e) hsa
  generalize upd (upd H2 sa (.lst [])) a (.ins (He.ga K "RoomRun") dx (putF "said" (.ref sa) (putF "told" .non (putF "bodies" (.ref bo) [])))) = H3 at ea3 es3 fr3 ⊢
  refine ⟨sml 0, fun ro hro => ?_⟩
  have nro : ro ≠ a := (ne_of_none ea3 hro).symm
  have nsr : sa ≠ ro := ne_of_none es3 hro
  refine ⟨_, rfl, a, _, dx, _, rfl, Same.new hro _ _ ea3, T.c_RoomRun, T.a_RoomRun_row, by show 3 < 1000; decide, ?_⟩
  refine ⟨_, rfl, a, _, dx, _, rfl, upd_same, T.c_RoomRun, T.a_RoomRun_calls, by show 4 < 1000; decide, ?_⟩
  refine ⟨_, rfl, a, _, dx, _, rfl, upd_same, T.c_RoomRun, T.a_RoomRun_others, by show 5 < 1000; decide, ?_⟩
  have last : ∀ {b : Addr} {o : HO} {u1 u2 u3 : HO}, b ≠ a → H3 b = some o → upd (upd (upd (upd H3 ro (.lst [])) a u1) a u2) a u3 b = some o := fun n e => by
    rw [upd_ne n, upd_ne n, upd_ne n]
    exact Same.new hro _ _ e
  have fbo : ∀ {b : Addr} {o : HO}, b ≠ a → H1 b = some o → b ≠ ro := fun n e => ne_of_none (fr3 _ _ n e) hro
  have nbo : bo ≠ a := (ne_of_none ha hbo).symm
  have z1 : H sa = none := by
    cases e : H sa with
    | none => rfl
    | some o =>
      have z := fr2 _ _ nsa (s1 _ _ e)
      rw [hsa] at z
      cases z
  have z2 : H ro = none := by
    cases e : H ro with
    | none => rfl
    | some o =>
      have z := fr3 _ _ nro (s1 _ _ e)
      rw [hro] at z
      cases z
  refine q _ ⟨a, dx, bo, sa, ro⟩ (fun b o n e => last n (fr3 _ _ n (s1 _ _ e))) rfl rfl z1 z2 hbo ⟨?_, ⟨bs, last nbo (fr3 _ _ nbo ebo), ?_, fun b hb => ?_⟩, last nsa es3, ?_, fsa nbo ebo, fbo nbo ebo, nsr⟩
  · rw [upd_same]
    exact congrArg (fun l => some (HO.ins (He.ga K "RoomRun") dx l)) (runFs_new (x := ⟨a, dx, bo, sa, ro⟩))
  · refine PairedMem.map hbs fun b f hb ⟨ys, z1, z2⟩ => ⟨ys, ?_, L2.Paired.mapP z2 fun _ _ z => z.keep fun c xs e => ?_⟩
    · have nb : b ≠ a := (ne_of_none ha (hnb b hb)).symm
      exact last nb (fr3 _ _ nb z1)
    · have nc : c ≠ a := ne_of e (s1 _ _ ha) (by intro z; cases z)
      exact last nc (fr3 _ _ nc e)
  · have nb : b ≠ a := (ne_of_none ha (hnb b hb)).symm
    obtain ⟨f, ys, z1, _⟩ := PairedMem.left hbs b hb
    exact ⟨fsa nb z1, fbo nb z1, hnb b hb⟩
  · rw [upd_ne nro, upd_ne nro, upd_ne nro, upd_same]
    rfl
end
end K18

namespace K18
open PySem PySem.Spec PyProof.Rows L2 Ov
section
variable {P : Program} {w : World} {K : PySem.W.Frag} {mg : Str → Option Value} {base : Heap}
theorem sc_RoomRun_init : FnScope ["self", "program", "hall", "ahead", "back", "place"] ["self", "program", "hall", "ahead", "back"] (defScope s_RoomRun_init) := ⟨rfl, rfl, rfl, by decide +kernel, rfl, by decide +kernel, by decide +kernel⟩
-- 0 self, 1 program, 2 hall, 3 ahead, 4 back, 5 place
theorem ok_RoomRun_init (T : Txt w K mg) : FnOk P w K mg base CX0 12 (He.ma K (He.ga K "RoomRun") "__init__") (fdOf K d_RoomRun_init) ["self", "program", "hall", "ahead", "back"] (spRoomInit K) := by
  have G_initB := ok_Run_initB (P := P) (base := base) T
  refine T.F_RoomRun_init.ok sc_RoomRun_init (fun vs H Q E h => ?_) (fun cdv A outer s H vs Q E hr h => ?_)
  · obtain ⟨Hx, a, dx, v, pr, hx, la, lb, wys, L, n, far, rfl, _⟩ := h
    rfl
  obtain ⟨Hx, a, dx, v, pr, hx, la, lb, wys, L, n, far, rfl, ha, hla, hlb, hpr, hok, hin, hma, hwl, q⟩ := h
  refine ⟨_, PSs.nox (pss_cons (ps_expr (pe_unb (pe_glob (v := .ref (He.ga K "Run")) (by rfl) T.g_Run rfl) (unbB_ok T.unb_RoomRun_init).1 (unbB_ok T.unb_RoomRun_init).2 T.F_Run_init.kp (G_initB.raw T.b_Run_init .nil) (hr.mono (by omega)) pass0 (pa_cons (pv 0) (pa_cons (pv 1) pa_nil))))
      (pss_cons (ps_fld (pv 0) (pv 2) rfl)
      (pss_cons (ps_fld (pv 0) (pe_dc (own := [("place", 5)]) rfl sc_RoomRun_init.nd (Ov.pi_listK (K := K) rfl (pv 3)) (blkOk_by (own := [("place", 5)]) (N := ["self", "program", "hall", "ahead", "back", "place"]) (sc := defScope s_RoomRun_init) (by decide +kernel)) (fun _ _ _ _ _ => (pg_name (i := 5) sc_RoomRun_init.nd rfl (by first | exact Or.inl rfl | exact Or.inr rfl))) (fun _ _ _ _ _ => pts_nil) (fun _ _ _ _ _ => (pv 5)) (fun _ _ _ _ _ => pe_bl)) rfl)
      (pss_cons (ps_fld (pv 0) (pe_dc (own := [("place", 5)]) rfl sc_RoomRun_init.nd (Ov.pi_listK (K := K) rfl (pv 4)) (blkOk_by (own := [("place", 5)]) (N := ["self", "program", "hall", "ahead", "back", "place"]) (sc := defScope s_RoomRun_init) (by decide +kernel)) (fun _ _ _ _ _ => (pg_name (i := 5) sc_RoomRun_init.nd rfl (by first | exact Or.inl rfl | exact Or.inr rfl))) (fun _ _ _ _ _ => pts_nil) (fun _ _ _ _ _ => (pv 5)) (fun _ _ _ _ _ => pe_bl)) rfl)
      (pss_one (ps_fld (pv 0) pe_int rfl)))))), ?_⟩
  refine ⟨rfl, _, rfl, _, rfl, a, dx, v, pr, rfl, ha, hpr, hok, fun H1 y f1 ey edx n1 n2 n3 r1 => ?_⟩
  subst ey
  subst edx
  have la1 : la ≠ y.a := ne_of hla ha (by intro z; cases z)
  have lb1 : lb ≠ y.a := ne_of hlb ha (by intro z; cases z)
  refine ⟨_, rfl, _, rfl, y.a, _, y.dx, _, rfl, r1.ob, T.c_RoomRun, T.a_RoomRun_hall, by show 6 < 1000; decide, ?_⟩
  have ea2 : upd H1 y.a (.ins (He.ga K "RoomRun") y.dx (putF "hall" (.ref hx.a) (runFs y .non ((0 : Nat) : Int) 0))) y.a = some (.ins (He.ga K "RoomRun") y.dx (putF "hall" (.ref hx.a) (runFs y .non ((0 : Nat) : Int) 0))) := upd_same
  have fr2 : ∀ b o, b ≠ y.a → H1 b = some o → upd H1 y.a (.ins (He.ga K "RoomRun") y.dx (putF "hall" (.ref hx.a) (runFs y .non ((0 : Nat) : Int) 0))) b = some o := fun b o n e => by
    rw [upd_ne n]
    exact e
  generalize upd H1 y.a (.ins (He.ga K "RoomRun") y.dx (putF "hall" (.ref hx.a) (runFs y .non ((0 : Nat) : Int) 0))) = H2 at ea2 fr2 ⊢
  refine ⟨_, rfl, la, rfl, ⟨_, SqL.of (fr2 _ _ la1 (f1 _ _ la1 hla))⟩, fun D hD => ⟨fun i _ G => i = 0 ∧ G = upd H2 D (.dK []), ⟨0, rfl, rfl⟩, ?_⟩⟩
  rintro i m G ⟨rfl, rfl⟩
  have sD : Same H2 (upd H2 D (.dK [])) := Same.new hD
  have nDa : D ≠ y.a := (ne_of_none ea2 hD).symm
  have eD : upd H2 D (.dK []) D = some (.dK []) := upd_same
  generalize upd H2 D (.dK []) = H3 at sD eD ⊢
  refine .inl ⟨⟨[], SqL.of (sD _ _ (fr2 _ _ la1 (f1 _ _ la1 hla))), Nat.le_refl _⟩, ?_⟩
  refine ⟨_, rfl, y.a, _, y.dx, _, rfl, sD _ _ ea2, T.c_RoomRun, T.a_RoomRun_ahead, by show 7 < 1000; decide, ?_⟩
  have ea4 : upd H3 y.a (.ins (He.ga K "RoomRun") y.dx (putF "ahead" (.ref D) (putF "hall" (.ref hx.a) (runFs y .non ((0 : Nat) : Int) 0)))) y.a = some (.ins (He.ga K "RoomRun") y.dx (putF "ahead" (.ref D) (putF "hall" (.ref hx.a) (runFs y .non ((0 : Nat) : Int) 0)))) := upd_same
  have fr4 : ∀ b o, b ≠ y.a → H3 b = some o → upd H3 y.a (.ins (He.ga K "RoomRun") y.dx (putF "ahead" (.ref D) (putF "hall" (.ref hx.a) (runFs y .non ((0 : Nat) : Int) 0)))) b = some o := fun b o n e => by
    rw [upd_ne n]
    exact e
  generalize upd H3 y.a (.ins (He.ga K "RoomRun") y.dx (putF "ahead" (.ref D) (putF "hall" (.ref hx.a) (runFs y .non ((0 : Nat) : Int) 0)))) = H4 at ea4 fr4 ⊢
  have old4 : ∀ b o, b ≠ y.a → H1 b = some o → H4 b = some o := fun b o n e => fr4 _ _ n (sD _ _ (fr2 _ _ n e))
  refine ⟨_, rfl, lb, rfl, ⟨_, SqL.of (old4 _ _ lb1 (f1 _ _ lb1 hlb))⟩, fun E' hE => ⟨fun i _ G => i = 0 ∧ G = upd H4 E' (.dK []), ⟨0, rfl, rfl⟩, ?_⟩⟩
  rintro i m G ⟨rfl, rfl⟩
  have sE : Same H4 (upd H4 E' (.dK [])) := Same.new hE
  have nEa : E' ≠ y.a := (ne_of_none ea4 hE).symm
  have eE : upd H4 E' (.dK []) E' = some (.dK []) := upd_same
  generalize upd H4 E' (.dK []) = H5 at sE eE ⊢
  refine .inl ⟨⟨[], SqL.of (sE _ _ (old4 _ _ lb1 (f1 _ _ lb1 hlb))), Nat.le_refl _⟩, ?_⟩
  refine ⟨_, rfl, y.a, _, y.dx, _, rfl, sE _ _ ea4, T.c_RoomRun, T.a_RoomRun_back, by show 8 < 1000; decide, ?_⟩
  refine ⟨_, rfl, y.a, _, y.dx, _, rfl, upd_same, T.c_RoomRun, T.a_RoomRun_looks, by show 9 < 1000; decide, ?_⟩
  have old7 : ∀ {b : Addr} {o u1 u2 : HO}, b ≠ y.a → H1 b = some o → upd (upd H5 y.a u1) y.a u2 b = some o := fun n e => by
    rw [upd_ne n, upd_ne n]
    exact sE _ _ (old4 _ _ n e)
  have nDE : D ≠ E' := ne_of_none (fr4 _ _ nDa eD) hE
  obtain ⟨hat, hlok, hle⟩ := id hin
  obtain ⟨vs, hly, _⟩ := hat.ly
  have nly : hx.ly ≠ y.a := ne_of hly ha (by intro z; cases z)
  have nha : hx.a ≠ y.a := fun z => hma (by rw [← z]; exact hat.fa)
  obtain ⟨bs, ebo, hbs, hbn⟩ := r1.bo
  have nbo : y.bo ≠ y.a := (ne_of_none ha n3).symm
  have nsa : y.sa ≠ y.a := (ne_of_none ha n1).symm
  have nro : y.ro ≠ y.a := (ne_of_none ha n2).symm
  let x : PR := ⟨y, hx, D, E', wys, L, n, far⟩
  have kt : ∀ {u1 u2 : HO}, Keep H (upd (upd H5 y.a u1) y.a u2) := fun c xs e => by
    have nc := ne_of e ha (by intro z; cases z)
    exact old7 nc (f1 _ _ nc e)
  have kt1 : ∀ {u1 u2 : HO}, Keep H1 (upd (upd H5 y.a u1) y.a u2) := fun c xs e => old7 (ne_of e r1.ob (by intro z; cases z)) e
  have i1 : ∀ {u1 u2 : HO}, HallIn K Hx (upd (upd H5 y.a u1) y.a u2) hx wys L (List.replicate n none) 0 far := hin.keepN (fun b o nb e _ => by
    have nc : b ≠ y.a := fun z => hma (by rw [← z]; exact nb)
    exact old7 nc (f1 _ _ nc e)) kt
  have hw : ∀ {u1 u2 : HO}, ∀ c u, c = hx.wy ∨ c = hx.lo → H c = some u → upd (upd H5 y.a u1) y.a u2 c = some u := fun c u hc e => by
    have nc : c ≠ y.a := fun z => hma (by
      rw [← z]
      rcases hc with rfl | rfl
      · exact hat.fw.1
      · exact hat.fl.1)
    exact old7 nc (f1 _ _ nc e)
  have up : ∀ {G : Hp} {p r : Addr}, G p ≠ none → (upd G r (.tup [])) p ≠ none := fun {G p r} z => by
    by_cases c : p = r
    · rw [c, upd_same]
      exact fun y => nomatch y
    · rw [upd_ne c]
      exact z
  have own : ∀ {G : Hp} {r : Addr}, (upd G r (.tup [])) r ≠ none := fun {G r} => by
    rw [upd_same]
    exact fun y => nomatch y
  refine q _ x (fun b o n e => old7 n (f1 _ _ n e)) rfl rfl rfl rfl rfl rfl n1 n2 ⟨?_, ⟨bs, old7 nbo ebo, ?_, fun b hb => ⟨(hbn b hb).1, (hbn b hb).2.1, (ne_of_none hly (hbn b hb).2.2).symm⟩⟩, old7 nsa r1.sa, old7 nro r1.ro, ⟨⟨r1.nd.1, r1.nd.2.1, (ne_of_none hly n3).symm⟩, r1.nd.2.2⟩, ⟨?_, ?_⟩, ⟨_, HallIn.markM (o := .tup []) hin (HallIn.markM (o := .tup []) hin i1 hw n1 (ne_of_none hat.ob n1) (ne_of_none hly n1)) hw n2 (ne_of_none hat.ob n2) (ne_of_none hly n2), up (up hma), up own, own⟩, hwl⟩
  · rw [upd_same]
    exact congrArg (fun l => some (HO.ins (He.ga K "RoomRun") y.dx l)) (roomFs_new (x := x))
  · refine PairedMem.map hbs fun b f hb ⟨ys, z1, z2⟩ => ⟨ys, old7 (ne_of_none ha (hbn b hb).2.2).symm z1, L2.Paired.mapP z2 fun _ _ z => z.keep kt1⟩
  · show upd (upd H5 y.a _) y.a _ D = _
    rw [upd_ne nDa, upd_ne nDa]
    exact sE _ _ (fr4 _ _ nDa eD)
  · show upd (upd H5 y.a _) y.a _ E' = _
    rw [upd_ne nEa, upd_ne nEa]
    exact eE
end
end K18

namespace K18
open PySem PySem.Spec PyProof.Rows L2 Ov
section
variable {P : Program} {w : World} {K : PySem.W.Frag} {mg : Str → Option Value} {base : Heap}
theorem ok_Run_enter0 (T : Txt w K mg) : FnOk P w K mg base CX0 1 (He.ma K (He.ga K "Run") "enter") (fdOf K d_Run_enter) ["self", "place", "called"] (spEnter0 K) := by
  refine T.F_Run_enter.ok sc_Run_enter (fun vs H Q E h => ?_) (fun cdv A outer s H vs Q E hr h => ?_)
  · obtain ⟨x, pr, told, v, s, oth, f, rfl, _⟩ := h
    rfl
  obtain ⟨x, pr, told, v, s, oth, f, rfl, hR, hsz, q⟩ := h
  refine ⟨_, PSs.nox (pss_one (ps_expr (Ov.pe_bmK (K := K) rfl PySem.F.plainAttrs_list PySem.F.slot_list_append PySem.F.type_list_append mt_append (Ov.pe_fldK (K := K) rfl (pv 0) rfl) (pa_cons (pv 2) pa_nil)))), ?_⟩
  exact ⟨_, rfl, x.a, _, _, _, _, rfl, hR.ob, T.c_RoomRun, T.a_RoomRun_row, rfl, .inl ⟨rfl, _, SqL.of hR.ro⟩, _, rfl, x.ro, _, _, rfl, rfl, hR.ro, Nat.lt_of_le_of_lt (by rw [nV_len]; exact hsz) (by decide), q _ hR.updR.2 hR.updR.1⟩
theorem ok_Run_back0 (T : Txt w K mg) : FnOk P w K mg base CX0 1 (He.ma K (He.ga K "Run") "come_back") (fdOf K d_Run_come_back) ["self", "place"] (spBack0 K) := by
  refine T.F_Run_come_back.ok sc_Run_come_back (fun vs H Q E h => ?_) (fun cdv A outer s H vs Q E hr h => ?_)
  · obtain ⟨x, pr, told, s, oth, p, f, wi, rfl, _⟩ := h
    rfl
  obtain ⟨x, pr, told, s, oth, p, f, wi, rfl, hp, hR, hsz, q⟩ := h
  refine ⟨_, PSs.nox (pss_one (ps_expr (Ov.pe_bmK (K := K) rfl PySem.F.plainAttrs_list PySem.F.slot_list_append PySem.F.type_list_append mt_append (Ov.pe_fldK (K := K) rfl (pv 0) rfl) (pa_cons (pe_ix (r := rIxT K) ix_tup (pv 1) pe_int (fun _ _ => rfl)) pa_nil)))), ?_⟩
  exact ⟨_, rfl, x.a, _, _, _, _, rfl, hR.ob, T.c_RoomRun, T.a_RoomRun_row, rfl, .inl ⟨rfl, _, SqL.of hR.ro⟩, _, rfl, p, _, 0, _, rfl, rfl, SqT.of hp, atI_nat (j := 0) rfl, x.ro, _, _, rfl, rfl, hR.ro, Nat.lt_of_le_of_lt (by rw [nV_len]; exact hsz) (by decide), q _ hR.updR.2 hR.updR.1⟩
theorem sc_RoomRun_go_on : FnScope ["self", "function", "left_out"] ["self", "function", "left_out"] (defScope s_RoomRun_go_on) := ⟨rfl, rfl, rfl, by decide +kernel, rfl, by decide +kernel, by decide +kernel⟩
-- 0 self, 1 function, 2 left_out
theorem Txt.b_RoomRun_go_on (T : Txt w K mg) : Binds K (fdOf K d_RoomRun_go_on) ["self", "function", "left_out"] [] := T.F_RoomRun_go_on.bindsN fun _ _ _ _ _ _ us hl => match us, hl with | [_, _, _], _ => rfl
theorem ok_RoomRun_go_on (T : Txt w K mg) : FnOk P w K mg base CX0 4 (He.ma K (He.ga K "RoomRun") "go_on") (fdOf K d_RoomRun_go_on) ["self", "function", "left_out"] (spGoOn K) := by
  have G_Hall_look := ok_Hall_look (P := P) (base := base) T
  refine T.F_RoomRun_go_on.ok sc_RoomRun_go_on (fun vs H Q E h => ?_) (fun cdv A outer s H vs Q E hr h => ?_)
  · obtain ⟨x, pr, told, s, oth, row2, f, rfl, _⟩ := h
    rfl
  obtain ⟨x, pr, told, s, oth, row2, f, rfl, hR, hf, q⟩ := h
  refine ⟨_, PSs.nox (pss_one (ps_if (pt_not (pt_val (pv 2))) (pss_cons (ps_expr (pe_meth (Ov.pe_fldK (K := K) rfl (pv 0) rfl) T.c_Hall T.m_Hall_look G_Hall_look (hr.mono (by omega)) T.b_Hall_look .nil pass0 (pa_cons (pv 1) pa_nil)))
      (pss_one (ps_fldaug (pv 0) pe_int in_add))) pss_never)), ?_⟩
  obtain ⟨wy, hwy⟩ : ∃ wy, x.wys[f]? = some wy := ⟨_, List.getElem?_eq_getElem (by rw [hR.wl]; exact hf)⟩
  obtain ⟨Hx, i, m1, m2, m3⟩ := hR.hl
  refine ⟨_, rfl, _, rfl, iteT ?_⟩
  refine ⟨_, rfl, x.a, _, _, _, _, rfl, hR.ob, T.c_RoomRun, T.a_RoomRun_hall, rfl, x.hx.a, _, _, rfl, i.at_.ob, rfl, _, rfl, Hx, x.hx, x.wys, x.L, _, _, x.far, f, wy, rfl, i, hwy, fun H1 r b1 hr0 hrl er i1 => ?_⟩
  have es : x.sum (row2 ++ [f]) = (brgs (x.sum row2).1 x.L (mis (x.sum row2).1 x.L wy), (x.sum row2).2 + siz x.L (mis (x.sum row2).1 x.L wy)) := by
    unfold PR.sum
    rw [tsum_snoc, tstep, hwy]
    rfl
  obtain ⟨r2, e2⟩ := hR.look (f := f) i m1 m2 m3 b1 i1 (by rw [es]) (by rw [es]; show _ = (((_ : Nat) + (_ : Nat) : Nat) : Int); omega)
  refine ⟨_, rfl, x.a, _, _, _, _, rfl, e2, T.c_RoomRun, T.a_RoomRun_looks, rfl, _, _, rfl, rfl, x.dx, _, e2, by show 10 < 1000; decide, ?_⟩
  have el : (row2.length : Int) + 1 = ((row2 ++ [f]).length : Nat) := by
    rw [List.length_append, List.length_singleton]
    omega
  rw [el, roomFs_looks]
  exact q _ ((ButM.hall b1).trans fun b o n1 _ _ _ _ e => by rw [upd_ne n1]; exact e) r2
theorem Txt.s_RoomRun_enter (T : Txt w K mg) : SupD R.prog K "enter" "RoomRun.enter" (defArgs s_RoomRun_enter) (defBody s_RoomRun_enter) (defScope s_RoomRun_enter) (He.ma K (He.ga K "RoomRun") "enter") (celOf K (He.ma K (He.ga K "RoomRun") "enter")) (codOf K (He.ma K (He.ga K "RoomRun") "enter")) (He.ga K "RoomRun") (fnAt K (He.ma K (He.ga K "RoomRun") "enter")) := supB_ok (P := R.prog) (d := d_RoomRun_enter) T.e_RoomRun_enter T.sup_RoomRun_enter (by decide +kernel)
theorem Txt.s_RoomRun_come_back (T : Txt w K mg) : SupD R.prog K "come_back" "RoomRun.come_back" (defArgs s_RoomRun_come_back) (defBody s_RoomRun_come_back) (defScope s_RoomRun_come_back) (He.ma K (He.ga K "RoomRun") "come_back") (celOf K (He.ma K (He.ga K "RoomRun") "come_back")) (codOf K (He.ma K (He.ga K "RoomRun") "come_back")) (He.ga K "RoomRun") (fnAt K (He.ma K (He.ga K "RoomRun") "come_back")) := supB_ok (P := R.prog) (d := d_RoomRun_come_back) T.e_RoomRun_come_back T.sup_RoomRun_come_back (by decide +kernel)
theorem Txt.s_RoomRun_begin (T : Txt w K mg) : SupD R.prog K "begin" "RoomRun.begin" (defArgs s_RoomRun_begin) (defBody s_RoomRun_begin) (defScope s_RoomRun_begin) (He.ma K (He.ga K "RoomRun") "begin") (celOf K (He.ma K (He.ga K "RoomRun") "begin")) (codOf K (He.ma K (He.ga K "RoomRun") "begin")) (He.ga K "RoomRun") (fnAt K (He.ma K (He.ga K "RoomRun") "begin")) := supB_ok (P := R.prog) (d := d_RoomRun_begin) T.e_RoomRun_begin T.sup_RoomRun_begin (by decide +kernel)
theorem Txt.b_RoomRun_enter (T : Txt w K mg) : Binds K (fnAt K (He.ma K (He.ga K "RoomRun") "enter")) ["self", "place", "called"] [] := T.s_RoomRun_enter.binds fun _ _ _ _ _ us hl => match us, hl with | [_, _, _], _ => rfl
theorem Txt.b_RoomRun_come_back (T : Txt w K mg) : Binds K (fnAt K (He.ma K (He.ga K "RoomRun") "come_back")) ["self", "place"] [] := T.s_RoomRun_come_back.binds fun _ _ _ _ _ us hl => match us, hl with | [_, _], _ => rfl
theorem Txt.b_RoomRun_begin (T : Txt w K mg) : Binds K (fnAt K (He.ma K (He.ga K "RoomRun") "begin")) ["self", "number"] [] := T.s_RoomRun_begin.binds fun _ _ _ _ _ us hl => match us, hl with | [_, _], _ => rfl
theorem nsc_enter : NdefX.NScope ["self", "place", "called", "__class__"] ["self", "place", "called"] ["__class__"] (defScope s_RoomRun_enter) := NdefX.nscope_by (by decide +kernel)
theorem nsc_come_back : NdefX.NScope ["self", "place", "__class__"] ["self", "place"] ["__class__"] (defScope s_RoomRun_come_back) := NdefX.nscope_by (by decide +kernel)
theorem nsc_begin : NdefX.NScope ["self", "number", "__class__", "lost"] ["self", "number"] ["__class__"] (defScope s_RoomRun_begin) := NdefX.nscope_by (by decide +kernel)
theorem ok_RoomRun_enter (T : Txt w K mg) (hP : P = R.prog) : FnOk P w K mg base CX0 5 (He.ma K (He.ga K "RoomRun") "enter") (fnAt K (He.ma K (He.ga K "RoomRun") "enter")) ["self", "place", "called"] (spEnterR K) := by
  subst hP
  have G_enter0 := ok_Run_enter0 (P := R.prog) (base := base) T
  have G_RoomRun_go_on := ok_RoomRun_go_on (P := R.prog) (base := base) T
  have S := T.s_RoomRun_enter
  refine fn_ofS S nsc_enter (fun vs H Q E h => ?_) (fun A outer s H vs Q E hr h => ?_)
  · obtain ⟨x, pr, told, v, s, oth, f, rfl, _⟩ := h
    rfl
  obtain ⟨x, pr, told, v, s, oth, f, rfl, hR, hpl, hf, hsz, q⟩ := h
  refine ⟨_, QSs.cons (QS.expr (qe_super (i := 0) S (supMB_ok T.spm_RoomRun_enter) rfl rfl rfl rfl rfl rfl (by decide +kernel) (by decide +kernel) (by decide +kernel) T.z_super (by decide +kernel) (G_enter0.raw T.b_Run_enter .nil) (hr.mono (by omega)) pass0 (pa_cons (pv 1) (pa_cons (pv 2) pa_nil))))
    (QSs.of (pss_one (ps_expr (pe_meth (pv 0) T.c_RoomRun T.m_RoomRun_go_on G_RoomRun_go_on (hr.mono (by omega)) T.b_RoomRun_go_on .nil pass0 (pa_cons (pv 2) (pa_cons (pe_cmp (pc_inE (hu_of hr) (pv 1) (Ov.pe_fldK (K := K) rfl (pv 0) rfl))) pa_nil)))))), ?_⟩
  refine ⟨x.a, _, _, rfl, hR.ob, _, rfl, _, rfl, x, pr, told, v, s, oth, f, rfl, hR, hsz, fun H1 b1 r1 => ?_⟩
  exact ⟨_, rfl, x.a, _, _, rfl, r1.ob, rfl, _, rfl, _, rfl, _, rfl, x.a, _, _, _, _, rfl, r1.ob, T.c_RoomRun, T.a_RoomRun_ahead, rfl, x.da, rfl, r1.da.1, hpl.keep (hR.keep b1), x, pr, told, _, oth, s.row, f, rfl, r1, hf, fun H2 b2 r2 => q H2 (b1.trans b2) r2⟩
theorem ok_RoomRun_come_back (T : Txt w K mg) (hP : P = R.prog) : FnOk P w K mg base CX0 5 (He.ma K (He.ga K "RoomRun") "come_back") (fnAt K (He.ma K (He.ga K "RoomRun") "come_back")) ["self", "place"] (spBackR K) := by
  subst hP
  have G_back0 := ok_Run_back0 (P := R.prog) (base := base) T
  have G_RoomRun_go_on := ok_RoomRun_go_on (P := R.prog) (base := base) T
  have S := T.s_RoomRun_come_back
  refine fn_ofS S nsc_come_back (fun vs H Q E h => ?_) (fun A outer s H vs Q E hr h => ?_)
  · obtain ⟨x, pr, told, s, oth, p, f, wi, rfl, _⟩ := h
    rfl
  obtain ⟨x, pr, told, s, oth, p, f, wi, rfl, hp, hR, hf, hsz, q⟩ := h
  refine ⟨_, QSs.cons (QS.expr (qe_super (i := 0) S (supMB_ok T.spm_RoomRun_come_back) rfl rfl rfl rfl rfl rfl (by decide +kernel) (by decide +kernel) (by decide +kernel) T.z_super (by decide +kernel) (G_back0.raw T.b_Run_come_back .nil) (hr.mono (by omega)) pass0 (pa_cons (pv 1) pa_nil)))
    (QSs.of (pss_one (ps_expr (pe_meth (pv 0) T.c_RoomRun T.m_RoomRun_go_on G_RoomRun_go_on (hr.mono (by omega)) T.b_RoomRun_go_on .nil pass0 (pa_cons (pe_ix (r := rIxT K) ix_tup (pv 1) pe_int (fun _ _ => rfl)) (pa_cons (pe_cmp (pc_inE (hu_of hr) (pv 1) (Ov.pe_fldK (K := K) rfl (pv 0) rfl))) pa_nil)))))), ?_⟩
  refine ⟨x.a, _, _, rfl, hR.ob, _, rfl, x, pr, told, s, oth, p, f, wi, rfl, hp, hR, hsz, fun H1 b1 r1 => ?_⟩
  have hp1 := hR.keep b1 _ _ hp
  exact ⟨_, rfl, x.a, _, _, rfl, r1.ob, rfl, _, rfl, p, _, 0, _, rfl, rfl, SqT.of hp1, atI_nat (j := 0) rfl, _, rfl, _, rfl, x.a, _, _, _, _, rfl, r1.ob, T.c_RoomRun, T.a_RoomRun_back, rfl, x.db, rfl, r1.da.2, .inr ⟨p, f, wi, rfl, hp1⟩, x, pr, told, _, oth, s.row, f, rfl, r1, hf, fun H2 b2 r2 => q H2 (b1.trans b2) r2⟩
end
end K18

namespace K18
open PySem PySem.Spec PyProof.Rows L2 Ov
section
variable {P : Program} {w : World} {K : PySem.W.Frag} {mg : Str → Option Value} {base : Heap}
theorem ok_RoomRun_call0 (T : Txt w K mg) (hP : P = R.prog) {pr : List (Int × W)} (G_RoomRun_worth : FnOk P w K mg base (L2.CX P w) 0 (He.ma K (He.ga K "RoomRun") "worth") (fdOf K d_Run_worth) ["self", "function", "word", "argument"] fun _ _ _ _ => False) : FnOk P w K mg base (L2.CX P w) 9 (He.ma K (He.ga K "RoomRun") "call") (fdOf K d_Run_call) ["self", "place", "called", "argument"] (spCallR K pr 0) := by
  rw [T.inh_RoomRun_call]
  have G_RoomRun_enter := ok_RoomRun_enter (P := P) (base := base) T hP
  have G_RoomRun_come_back := ok_RoomRun_come_back (P := P) (base := base) T hP
  refine T.F_Run_call.ok sc_Run_call (fun vs H Q E h => ?_) (fun cdv A outer s H vs Q E hr h => ?_)
  · obtain ⟨x, told, v, s, oth, p, c, wi, f, a, rfl, _⟩ := h
    rfl
  obtain ⟨x, told, v, s, oth, p, c, wi, f, a, rfl, hp, hR, hok, hc, hf, hv, ha, hphi, hoth, q⟩ := h
  refine ⟨_, (pss_cons (ps_if (pt_cmpR op_ge (Ov.pe_fldK (K := K) rfl (pv 0) rfl) (pe_glob (v := .int 12) (by rfl) T.i_MOST_OTHERS.choose_spec ⟨_, rfl⟩) (nomark _)) (pss_one (ps_raiseFlt rfl T.flt hr (takes_of rfl rfl rfl rfl) (by exact (pa_cons pe_str pa_nil)))) pss_nil)
      (pss_cons (ps_if (pt_cmpR op_ge (Ov.pe_fldK (K := K) rfl (pv 0) rfl) (pe_glob (v := .int 200) (by rfl) T.i_MOST_CALLS.choose_spec ⟨_, rfl⟩) (nomark _)) (pss_one (ps_raiseFlt rfl T.flt hr (takes_of rfl rfl rfl rfl) (by exact (pa_cons pe_str pa_nil)))) pss_nil)
      (pss_cons (ps_fldaug (pv 0) pe_int in_add)
      (pss_cons (ps_fldaug (pv 0) pe_int in_add)
      (pss_cons (ps_expr (pe_meth (pv 0) T.c_RoomRun T.m_RoomRun_enter G_RoomRun_enter (hr.mono (by omega)) T.b_RoomRun_enter .nil pass0 (pa_cons (pv 1) (pa_cons (pv 2) pa_nil))))
      (pss_cons (ps_set (i := 4) sc_Run_call.nd rfl (by first | exact Or.inl rfl | exact Or.inr rfl) (pe_meth (pv 0) T.c_RoomRun T.m_RoomRun_worth G_RoomRun_worth (hr.mono (by omega)) T.b_RoomRun_worth .nil (passes_call (takes_of rfl rfl rfl rfl) (fun _ _ _ _ z => z)) (pa_cons (pv 2) (pa_cons pe_int (pa_cons (pv 3) pa_nil)))))
      (pss_cons (ps_expr (pe_meth (pv 0) T.c_RoomRun T.m_RoomRun_come_back G_RoomRun_come_back (hr.mono (by omega)) T.b_RoomRun_come_back .nil pass0 (pa_cons (pv 1) pa_nil)))
      (pss_cons (ps_fldaug (pv 0) pe_int in_sub)
      (pss_one (ps_ret (pv 4))))))))))), ?_⟩
  refine ⟨_, rfl, x.a, _, _, _, _, rfl, hR.ob, T.c_RoomRun, T.a_RoomRun_others, rfl, _, _, rfl, rfl, _, rfl, ?_⟩
  rw [decide_eq_true (show (12 : Int) ≤ oth by omega)]
  exact iteT ⟨_, rfl, fun d hd => q.out ButM.refl hR _ d (Same.new hd) hd upd_same⟩
theorem ok_RoomRun_callS (T : Txt w K mg) (hP : P = R.prog) {pr : List (Int × W)} {n k : Nat} (G_RoomRun_worth : FnOk P w K mg base (L2.CX P w) k (He.ma K (He.ga K "RoomRun") "worth") (fdOf K d_Run_worth) ["self", "function", "word", "argument"] (spWorthR K pr n 7)) (hk : 5 ≤ k) : FnOk P w K mg base (L2.CX P w) (k + 1) (He.ma K (He.ga K "RoomRun") "call") (fdOf K d_Run_call) ["self", "place", "called", "argument"] (spCallR K pr (n + 1)) := by
  rw [T.inh_RoomRun_call]
  have G_RoomRun_enter := ok_RoomRun_enter (P := P) (base := base) T hP
  have G_RoomRun_come_back := ok_RoomRun_come_back (P := P) (base := base) T hP
  refine T.F_Run_call.ok sc_Run_call (fun vs H Q E h => ?_) (fun cdv A outer s H vs Q E hr h => ?_)
  · obtain ⟨x, told, v, s, oth, p, c, wi, f, a, rfl, _⟩ := h
    rfl
  obtain ⟨x, told, v, s, oth, p, c, wi, f, a, rfl, hp, hR, hok, hc, hf, hv, ha, hphi, hoth, q⟩ := h
  refine ⟨_, (pss_cons (ps_if (pt_cmpR op_ge (Ov.pe_fldK (K := K) rfl (pv 0) rfl) (pe_glob (v := .int 12) (by rfl) T.i_MOST_OTHERS.choose_spec ⟨_, rfl⟩) (nomark _)) (pss_one (ps_raiseFlt rfl T.flt hr (takes_of rfl rfl rfl rfl) (by exact (pa_cons pe_str pa_nil)))) pss_nil)
      (pss_cons (ps_if (pt_cmpR op_ge (Ov.pe_fldK (K := K) rfl (pv 0) rfl) (pe_glob (v := .int 200) (by rfl) T.i_MOST_CALLS.choose_spec ⟨_, rfl⟩) (nomark _)) (pss_one (ps_raiseFlt rfl T.flt hr (takes_of rfl rfl rfl rfl) (by exact (pa_cons pe_str pa_nil)))) pss_nil)
      (pss_cons (ps_fldaug (pv 0) pe_int in_add)
      (pss_cons (ps_fldaug (pv 0) pe_int in_add)
      (pss_cons (ps_expr (pe_meth (pv 0) T.c_RoomRun T.m_RoomRun_enter G_RoomRun_enter (hr.mono (by omega)) T.b_RoomRun_enter .nil pass0 (pa_cons (pv 1) (pa_cons (pv 2) pa_nil))))
      (pss_cons (ps_set (i := 4) sc_Run_call.nd rfl (by first | exact Or.inl rfl | exact Or.inr rfl) (pe_meth (pv 0) T.c_RoomRun T.m_RoomRun_worth G_RoomRun_worth (hr.mono (by omega)) T.b_RoomRun_worth .nil (passes_call (takes_of rfl rfl rfl rfl) (fun _ _ _ _ z => z)) (pa_cons (pv 2) (pa_cons pe_int (pa_cons (pv 3) pa_nil)))))
      (pss_cons (ps_expr (pe_meth (pv 0) T.c_RoomRun T.m_RoomRun_come_back G_RoomRun_come_back (hr.mono (by omega)) T.b_RoomRun_come_back .nil pass0 (pa_cons (pv 1) pa_nil)))
      (pss_cons (ps_fldaug (pv 0) pe_int in_sub)
      (pss_one (ps_ret (pv 4))))))))))), ?_⟩
  refine ⟨_, rfl, x.a, _, _, _, _, rfl, hR.ob, T.c_RoomRun, T.a_RoomRun_others, rfl, _, _, rfl, rfl, _, rfl, ?_⟩
  rw [decide_eq_false (show ¬ (12 : Int) ≤ oth by omega)]
  refine iteF ⟨_, rfl, x.a, _, _, _, _, rfl, hR.ob, T.c_RoomRun, T.a_RoomRun_calls, rfl, _, _, rfl, rfl, _, rfl, ?_⟩
  obtain ⟨pf, hpf⟩ : ∃ p, pr[f]? = some p := ⟨_, List.getElem?_eq_getElem hf⟩
  rw [evC, hpf] at q
  by_cases h200 : 200 ≤ s.calls
  · rw [decide_eq_true (show (200 : Int) ≤ (s.calls : Int) by omega)]
    rw [if_pos h200] at q
    exact iteT ⟨_, rfl, fun d hd => q.out ButM.refl hR _ d (Same.new hd) hd upd_same⟩
  rw [decide_eq_false (show ¬ (200 : Int) ≤ (s.calls : Int) by omega)]
  rw [if_neg h200] at q
  refine iteF ?_
  have hse : s.row.length ≤ s.phi := by unfold RS.phi; omega
  refine ⟨_, rfl, x.a, _, _, _, _, rfl, hR.ob, T.c_RoomRun, T.a_RoomRun_calls, rfl, _, _, rfl, rfl, x.dx, _, hR.ob, by show 10 < 1000; decide, ?_⟩
  obtain ⟨r1, b1⟩ := hR.wr0 (told' := told) (oth' := oth) (c := s.calls + 1)
  rw [roomFs_calls, show (s.calls : Int) + 1 = ((s.calls + 1 : Nat) : Int) by omega]
  generalize upd H x.a (.ins (He.ga K "RoomRun") x.dx (roomFs x told ((s.calls + 1 : Nat) : Int) oth s.row.length)) = H1 at r1 b1 ⊢
  refine ⟨_, rfl, x.a, _, _, _, _, rfl, r1.ob, T.c_RoomRun, T.a_RoomRun_others, rfl, _, _, rfl, rfl, x.dx, _, r1.ob, by show 10 < 1000; decide, ?_⟩
  obtain ⟨r2, b2⟩ := r1.wr0 (told' := told) (oth' := oth + 1) (c := s.calls + 1)
  rw [roomFs_others]
  generalize upd H1 x.a (.ins (He.ga K "RoomRun") x.dx (roomFs x told ((s.calls + 1 : Nat) : Int) (oth + 1) s.row.length)) = H2 at r2 b2 ⊢
  have b12 := b1.trans b2
  refine ⟨_, rfl, x.a, _, _, rfl, r2.ob, rfl, _, rfl, _, rfl, x, pr, told, .ref p, _, _, f, rfl, r2, .inr ⟨p, c, wi, rfl, (hR.keep b12) _ _ hp⟩, hf, Nat.le_trans hse hphi, fun H3 b3 r3 => ?_⟩
  have b13 := b12.trans b3
  have k13 := hR.keep b13
  have hbd := hok.f pf (List.mem_of_getElem? hpf)
  have hph : ({ said := s.said, calls := s.calls + 1, row := s.row ++ [f], came := s.came ++ [(f, a)], told := s.told } : RS).phi + pf.2.size ≤ s.phi - 2 ∧ 2 ≤ s.phi := by
    have := hbd.2.2.2
    unfold RS.phi
    simp only [List.length_append, List.length_singleton]
    omega
  have gd := evB_good (n := pr.length) (call := evC pr n f) (a := a) (fun f' u' s' h1 h2 => evC_good hok n f f' u' s' h1 h2) ha 7 pf.2 { said := s.said, calls := s.calls + 1, row := s.row ++ [f], came := s.came ++ [(f, a)], told := s.told } hbd.2.2.1
  replace gd := Good.le hph.1 gd
  simp only at q
  have r3' : RoomAt K H3 x pr told { said := s.said, calls := s.calls + 1, row := s.row ++ [f], came := s.came ++ [(f, a)], told := s.told } (oth + 1) := ⟨r3.ob, r3.bo, r3.sa, r3.ro, r3.nd, r3.da, r3.hl, r3.wl⟩
  refine ⟨_, rfl, x.a, _, _, rfl, r3.ob, rfl, _, rfl, _, rfl, x, told, v, _, oth + 1, f, 0, pf, pf.2, a, rfl, r3', hok, hpf, SubAt.all _, hbd.2.2.1, hv.keep k13, ha, by omega, by omega, ?_⟩
  generalize evB (evC pr n f) a 7 pf.2 _ = rs at q gd ⊢
  cases rs with
  | bad e s2 => exact fun H5 d oth' b5 r5 e5 => q H5 d oth' (b13.trans b5) r5 e5
  | ok v2 s2 =>
    intro H5 y b5 r5 hy
    have hs2 : s2.phi ≤ s.phi - 2 := gd.2
    have hse2 : s2.row.length ≤ s2.phi := by unfold RS.phi; omega
    have b15 := b13.trans b5
    refine ⟨_, rfl, x.a, _, _, rfl, r5.ob, rfl, _, rfl, x, pr, told, s2, oth + 1, p, c, wi, rfl, (hR.keep b15) _ _ hp, r5, hc, by omega, fun H6 b6 r6 => ?_⟩
    have k6 := r5.keep b6
    refine ⟨_, rfl, x.a, _, _, _, _, rfl, r6.ob, T.c_RoomRun, T.a_RoomRun_others, rfl, _, _, rfl, rfl, x.dx, _, r6.ob, by show 10 < 1000; decide, ?_⟩
    obtain ⟨r7, b7⟩ := r6.wr0 (told' := told) (oth' := oth) (c := s2.calls)
    have k7 := r6.keep b7
    rw [roomFs_others, show oth + 1 - 1 = oth by omega]
    exact ⟨_, rfl, q _ y (b15.trans (b6.trans b7)) ⟨r7.ob, r7.bo, r7.sa, r7.ro, r7.nd, r7.da, r7.hl, r7.wl⟩ ((hy.keep k6).keep k7)⟩
end
end K18

namespace K18
open PySem PySem.Spec PyProof.Rows L2 Ov
section
variable {P : Program} {w : World} {K : PySem.W.Frag} {mg : Str → Option Value} {base : Heap}
theorem ok_RoomRun_worthS (T : Txt w K mg) (hP : P = R.prog) {pr : List (Int × W)} {n d k : Nat} (G_RoomRun_worth : FnOk P w K mg base (L2.CX P w) k (He.ma K (He.ga K "RoomRun") "worth") (fdOf K d_Run_worth) ["self", "function", "word", "argument"] (spWorthR K pr n d))
    (G_RoomRun_call : FnOk P w K mg base (L2.CX P w) (8 * n + 9) (He.ma K (He.ga K "RoomRun") "call") (fdOf K d_Run_call) ["self", "place", "called", "argument"] (spCallR K pr n)) (hk : 8 * n + 9 ≤ k) :
    FnOk P w K mg base (L2.CX P w) (k + 1) (He.ma K (He.ga K "RoomRun") "worth") (fdOf K d_Run_worth) ["self", "function", "word", "argument"] (spWorthR K pr n (d + 1)) := by
  rw [T.inh_RoomRun_worth]
  have G_number_in := ok_number_in (P := P) (base := base) T
  have G_end_of_way := ok_end_of_way (P := P) (base := base) T
  have G_reckoned := ok_reckoned (P := P) (base := base) T
  have G_RoomRun_say := ok_RoomRun_say (P := P) (base := base) T
  refine T.F_Run_worth.ok sc_Run_worth (fun vs H Q E h => ?_) (fun cdv A outer s H vs Q E hr h => ?_)
  · obtain ⟨x, told, v, s, oth, f, wi, p, u, a, rfl, _⟩ := h
    rfl
  obtain ⟨x, told, v, s, oth, f, wi, p, u, a, rfl, hR, hok, hpf, hsub, hwk, hv, ha, hphi, hoth, q⟩ := h
  refine ⟨_, (pss_cons (ps_asg (pe_ix (r := rIxL K) ix_list (pe_ix (r := rIxL K) ix_list (Ov.pe_fldK (K := K) rfl (pv 0) rfl) (pv 1) (fun _ _ => rfl)) (pv 2) (fun _ _ => rfl)) (Ov.pg_tupK (K := K) (n := 3) rfl rfl (pgs_cons (pg_name (i := 4) sc_Run_worth.nd rfl (by first | exact Or.inl rfl | exact Or.inr rfl)) (pgs_cons (pg_name (i := 5) sc_Run_worth.nd rfl (by first | exact Or.inl rfl | exact Or.inr rfl)) (pgs_cons (pg_name (i := 6) sc_Run_worth.nd rfl (by first | exact Or.inl rfl | exact Or.inr rfl)) pgs_nil)))))
      (pss_cons (ps_if (pt_cmpR op_eq (pv 4) pe_str (nomark _)) (pss_one (ps_ret (pe_tup (pa_cons pe_str (pa_cons (pv 5) pa_nil))))) pss_nil)
      (pss_cons (ps_if (pt_cmpR op_eq (pv 4) pe_str (nomark _)) (pss_one (ps_ret (pe_tup (pa_cons pe_str (pa_cons (pv 5) pa_nil))))) pss_nil)
      (pss_cons (ps_if (pt_cmpR op_eq (pv 4) pe_str (nomark _)) (pss_one (ps_ret (pv 3))) pss_nil)
      (pss_cons (ps_if (pt_cmpR op_eq (pv 4) pe_str (nomark _)) (pss_cons (ps_set (i := 7) sc_Run_worth.nd rfl (by first | exact Or.inl rfl | exact Or.inr rfl) (pe_callS G_number_in (hr.mono (by omega)) (by rfl) T.g_number_in T.kp_number_in T.b_number_in (fun σ => passAt (takes_of rfl rfl rfl rfl) σ) (pa_cons (pe_meth (pv 0) T.c_RoomRun T.m_RoomRun_worth G_RoomRun_worth (hr.mono (by omega)) T.b_RoomRun_worth .nil (passes_call (takes_of rfl rfl rfl rfl) (fun _ _ _ _ z => z)) (pa_cons (pv 1) (pa_cons (pe_ix (r := rIxT K) ix_tup (pv 6) pe_int (fun _ _ => rfl)) (pa_cons (pv 3) pa_nil)))) pa_nil)))
      (pss_one (ps_ret (pe_meth (pv 0) T.c_RoomRun T.m_RoomRun_worth G_RoomRun_worth (hr.mono (by omega)) T.b_RoomRun_worth .nil (passes_call (takes_of rfl rfl rfl rfl) (fun _ _ _ _ z => z)) (pa_cons (pv 1) (pa_cons (pe_ifExp (pt_cmpR op_ne (pv 7) pe_int (nomark _)) (pe_ix (r := rIxT K) ix_tup (pv 6) pe_int (fun _ _ => rfl)) (pe_ix (r := rIxT K) ix_tup (pv 6) pe_int (fun _ _ => rfl))) (pa_cons (pv 3) pa_nil))))))) pss_nil)
      (pss_cons (Ov.ps_setLcX (i := 8) (own := [("arm", 9)]) (takes_of rfl rfl rfl rfl) (fun _ _ _ _ z => z) rfl rfl rfl sc_Run_worth.nd rfl rfl (sw_true rfl rfl rfl (by decide +kernel)) (Ov.pi_tupK (K := K) rfl (pv 6)) (blkOk_by (own := [("arm", 9)]) (N := ["self", "function", "word", "argument", "name", "given", "arms", "first", "worths", "arm"]) (sc := defScope s_Run_worth) (by decide +kernel)) (fun _ _ _ _ _ => (pg_name (i := 9) sc_Run_worth.nd rfl (by first | exact Or.inl rfl | exact Or.inr rfl))) (fun _ _ _ _ _ _ hx => (pe_meth (pv 0) T.c_RoomRun T.m_RoomRun_worth G_RoomRun_worth (hr.mono (by omega)) T.b_RoomRun_worth .nil hx (pa_cons (pv 1) (pa_cons (pv 9) (pa_cons (pv 3) pa_nil))))))
      (pss_cons (ps_if (pt_cmpR op_eq (pv 4) pe_str (nomark _)) (pss_one (ps_ret (pe_ix (r := rIxL K) ix_list (pv 8) pe_int (fun _ _ => rfl)))) pss_nil)
      (pss_cons (ps_if (pt_cmpR op_eq (pv 4) pe_str (nomark _)) (pss_one (ps_ret (pe_meth (pv 0) T.c_RoomRun T.m_RoomRun_say G_RoomRun_say (hr.mono (by omega)) T.b_RoomRun_say .nil (passes_call (takes_of rfl rfl rfl rfl) (fun _ _ _ _ z => z)) (pa_cons (pe_ix (r := rIxL K) ix_list (pv 8) pe_int (fun _ _ => rfl)) pa_nil)))) pss_nil)
      (pss_cons (ps_if (pt_cmpR op_eq (pv 4) pe_str (nomark _)) (pss_one (ps_ret (pe_meth (pv 0) T.c_RoomRun T.m_RoomRun_call G_RoomRun_call (hr.mono (by omega)) T.b_RoomRun_call .nil (passes_call (takes_of rfl rfl rfl rfl) (fun _ _ _ _ z => z)) (pa_cons (pe_tup (pa_cons (pv 1) (pa_cons (pv 2) pa_nil))) (pa_cons (pv 5) (pa_cons (pe_ix (r := rIxL K) ix_list (pv 8) pe_int (fun _ _ => rfl)) pa_nil)))))) pss_nil)
      (pss_cons (ps_if (pt_cmpR op_eq (pv 4) pe_str (nomark _)) (pss_one (ps_ret (pe_meth (pv 0) T.c_RoomRun T.m_RoomRun_call G_RoomRun_call (hr.mono (by omega)) T.b_RoomRun_call .nil (passes_call (takes_of rfl rfl rfl rfl) (fun _ _ _ _ z => z)) (pa_cons (pe_tup (pa_cons (pv 1) (pa_cons (pv 2) pa_nil))) (pa_cons (pe_callS G_end_of_way (hr.mono (by omega)) (by rfl) T.g_end_of_way T.kp_end_of_way T.b_end_of_way (fun σ => passAt (takes_of rfl rfl rfl rfl) σ) (pa_cons (pe_ix (r := rIxL K) ix_list (pv 8) pe_int (fun _ _ => rfl)) pa_nil)) (pa_cons (pe_ix (r := rIxL K) ix_list (pv 8) pe_int (fun _ _ => rfl)) pa_nil)))))) pss_nil)
      (pss_one (ps_ret (pe_call G_reckoned (hr.mono (by omega)) (by rfl) T.g_reckoned T.kp_reckoned T.b_reckoned .nil pass0 (pa_cons (pv 4) (pa_cons (pe_callS G_number_in (hr.mono (by omega)) (by rfl) T.g_number_in T.kp_number_in T.b_number_in (fun σ => passAt (takes_of rfl rfl rfl rfl) σ) (pa_cons (pe_ix (r := rIxL K) ix_list (pv 8) pe_int (fun _ _ => rfl)) pa_nil)) (pa_cons (pe_callS G_number_in (hr.mono (by omega)) (by rfl) T.g_number_in T.kp_number_in T.b_number_in (fun σ => passAt (takes_of rfl rfl rfl rfl) σ) (pa_cons (pe_ix (r := rIxL K) ix_list (pv 8) pe_int (fun _ _ => rfl)) pa_nil)) pa_nil)))))))))))))))), ?_⟩
  obtain ⟨o, g, as⟩ := u
  cases hwk with
  | mk h1 h2 h3 =>
  obtain ⟨bs, hbo, hbs, hbn⟩ := hR.bo
  obtain ⟨b, hb, ys, hys, hrows⟩ := Paired.got hbs hpf
  have hrow := hsub.row
  obtain ⟨rv, hrv, t, aa, rfl, ht, haa⟩ := Paired.got hrows hrow
  have hfl := (List.getElem?_eq_some_iff.mp hpf).1
  refine ⟨_, rfl, x.a, _, _, _, _, rfl, hR.ob, T.c_RoomRun, T.a_RoomRun_bodies, rfl, _, rfl, x.bo, _, _, _, rfl, rfl, SqL.of hbo, atI_nat (by rw [List.getElem?_map, hb]; rfl), _, rfl, b, _, _, _, rfl, rfl, SqL.of hys, atI_nat hrv, t, _, rfl, SqT.of ht, rfl, _, _, rfl, _, _, rfl, _, _, rfl, rfl, ?_⟩
  have hal : as.length = o.arity := h1
  -- words without arms
  by_cases c1 : o = .num
  · subst c1
    refine ⟨_, rfl, rfl, _, rfl, iteT ⟨_, rfl, sml 2, fun t2 ht2 => ?_⟩⟩
    exact q _ _ (ButM.same (Same.new ht2)) (hR.same (Same.new ht2)) ⟨t2, rfl, upd_same⟩
  refine ⟨_, rfl, rfl, _, rfl, ?_⟩
  rw [show decide (V.str o.name = V.str "num") = false by cases o <;> first | decide +kernel | exact absurd rfl c1]
  refine iteF ?_
  by_cases c2 : o = .way
  · subst c2
    refine ⟨_, rfl, rfl, _, rfl, iteT ⟨_, rfl, sml 2, fun t2 ht2 => ?_⟩⟩
    refine q _ _ (ButM.same (Same.new ht2)) (hR.same (Same.new ht2)) ⟨t2, rfl, ?_⟩
    have hg : 0 ≤ g ∧ g < pr.length := h2
    rw [upd_same]
    show some (HO.tup [V.str "way", V.int g]) = some (HO.tup [V.str "way", V.int ((g.toNat : Nat) : Int)])
    rw [show ((g.toNat : Nat) : Int) = g by omega]
  refine ⟨_, rfl, rfl, _, rfl, ?_⟩
  rw [show decide (V.str o.name = V.str "way") = false by cases o <;> first | decide +kernel | exact absurd rfl c2]
  refine iteF ?_
  by_cases c3 : o = .arg
  · subst c3
    exact ⟨_, rfl, rfl, _, rfl, iteT ⟨_, rfl, q _ _ ButM.refl hR hv⟩⟩
  refine ⟨_, rfl, rfl, _, rfl, ?_⟩
  rw [show decide (V.str o.name = V.str "argument") = false by cases o <;> first | decide +kernel | exact absurd rfl c3]
  refine iteF ?_
  have ssz : 1 + W.sizes as = (W.mk o g as).size := (W.size_mk o g as).symm
  by_cases c4 : o = .ife
  · subst c4
    obtain ⟨wt, wx, wy, rfl⟩ := three_of hal
    obtain ⟨k0, e0, s0⟩ := hsub.arm (j := 0) (a := wt) rfl
    obtain ⟨k1, e1, s1⟩ := hsub.arm (j := 1) (a := wx) rfl
    obtain ⟨k2, e2, s2⟩ := hsub.arm (j := 2) (a := wy) rfl
    have szs : W.sizes [wt, wx, wy] = wt.size + (wx.size + (wy.size + 0)) := by simp only [W.sizes]
    rw [evB_if] at q
    refine ⟨_, rfl, rfl, _, rfl, iteT ?_⟩
    have gd := evB_good (n := pr.length) (call := evC pr n f) (a := a) (fun f' u' s' h1 h2 => evC_good hok n f f' u' s' h1 h2) ha d wt s (h3 wt (by simp))
    refine ⟨_, rfl, x.a, _, _, rfl, hR.ob, rfl, _, rfl, _, rfl, aa, _, 0, _, rfl, rfl, SqT.of haa, atI_nat (nV_get e0), _, rfl, x, told, v, s, oth, f, k0, p, wt, a, rfl, hR, hok, hpf, s0, h3 wt (by simp), hv, ha, by omega, hoth, ?_⟩
    generalize evB (evC pr n f) a d wt s = r0 at q gd ⊢
    cases r0 with
    | bad e s5 => exact fun H5 dd oth' b5 r5 e5 => q H5 dd oth' b5 r5 e5
    | ok v0 s5 =>
      intro H5 y b5 r5 hy
      have hs5 : s5.phi ≤ s.phi + wt.size := gd.2
      refine ⟨y, v0, rfl, hy, ?_⟩
      have k5 := hR.keep b5
      cases v0 with
      | way f' => exact AnsR.out (f := .kind) (s := s5) q b5 r5
      | num z =>
        have q : AnsR K x pr told oth H Q E (if z ≠ 0 then evB (evC pr n f) a d wx s5 else evB (evC pr n f) a d wy s5) := q
        refine ⟨_, rfl, x.a, _, _, rfl, r5.ob, rfl, _, rfl, _, rfl, rfl, _, rfl, ?_⟩
        show if (!decide (V.int z = V.int 0)) = true then _ else _
        by_cases hz : z = 0
        · subst hz
          rw [if_neg (by simp)] at q
          rw [decide_eq_true (rfl : V.int 0 = V.int 0)]
          exact iteF ⟨_, rfl, aa, _, 2, _, rfl, rfl, SqT.of (k5 _ _ haa), atI_nat (nV_get e2), _, rfl, x, told, v, s5, oth, f, k2, p, wy, a, rfl, r5, hok, hpf, s2, h3 wy (by simp), hv.keep k5, ha, by omega, hoth, AnsR.but b5 q⟩
        · rw [if_pos hz] at q
          rw [decide_eq_false (fun e => hz (V.int.inj e) : ¬ V.int z = V.int 0)]
          exact iteT ⟨_, rfl, aa, _, 1, _, rfl, rfl, SqT.of (k5 _ _ haa), atI_nat (nV_get e1), _, rfl, x, told, v, s5, oth, f, k1, p, wx, a, rfl, r5, hok, hpf, s1, h3 wx (by simp), hv.keep k5, ha, by omega, hoth, AnsR.but b5 q⟩
  refine ⟨_, rfl, rfl, _, rfl, ?_⟩
  rw [show decide (V.str o.name = V.str "if") = false by cases o <;> first | decide +kernel | exact absurd rfl c4]
  refine iteF ?_
  rw [evB_gen c1 c2 c3 c4] at q
  -- the arms
  refine ⟨_, rfl, aa, rfl, ⟨_, SqT.of haa⟩, fun D hD => ?_⟩
  have nDa : D ≠ x.a := (ne_of_none hR.ob hD).symm
  have nDs : D ≠ x.sa := (ne_of_none hR.sa hD).symm
  have nDr : D ≠ x.ro := (ne_of_none hR.ro hD).symm
  have stl : (nV (starts (wi + 1) as)).length = as.length := by rw [nV_len, starts_len]
  refine lc_tupY (K := K) (a := aa) (xs := nV (starts (wi + 1) as)) (fun i H' => ∃ (si : RS) (vsi : List Wt) (us : List V), ButM x H H' ∧ RoomAt K H' x pr told si oth ∧ H' D = some (.lst us) ∧ Paired (PV H') us vsi ∧ vsi.length = i ∧ (∀ u ∈ vsi, WtOk pr.length u) ∧ si.phi ≤ s.phi + W.sizes (as.take i) ∧ AnsR K x pr told oth H Q E (evArms (evB (evC pr n f) a d) (as.drop i) vsi si (fin (evC pr n f) o g)))
    ⟨s, [], [], ButM.same (Same.new hD), hR.same (Same.new hD), upd_same, .nil, rfl, (fun _ z => nomatch z), by rw [List.take_zero, W.sizes]; exact Nat.le_refl _, by rw [List.drop_zero]; exact q⟩ (fun i H' _ ⟨_, _, _, b, _⟩ => SqT.of (hR.keep b _ _ haa)) ?_ ?_
  · rintro i y Hi hi ⟨si, vsi, us, bi, ri, eDi, hvi, hvl, hvo, hsi, qi⟩
    have hil : i < as.length := by
      have := (List.getElem?_eq_some_iff.mp hi).1
      rw [stl] at this
      exact this
    obtain ⟨ai, hai⟩ : ∃ ai, as[i]? = some ai := ⟨_, List.getElem?_eq_getElem hil⟩
    obtain ⟨ki, eki, subi⟩ := hsub.arm (j := i) (a := ai) hai
    obtain rfl : y = .int (ki : Int) := Option.some.inj (hi.symm.trans (nV_get eki))
    have wki := h3 ai (List.mem_of_getElem? hai)
    have szi := size_get as i ai hai
    have ki' := hR.keep bi
    rw [drop_get hai] at qi
    have gd := evB_good (n := pr.length) (call := evC pr n f) (a := a) (fun f' u' s' h1 h2 => evC_good hok n f f' u' s' h1 h2) ha d ai si wki
    refine ⟨rfl, _, rfl, x.a, _, _, rfl, ri.ob, rfl, _, rfl, _, rfl, _, rfl, x, told, v, si, oth, f, ki, p, ai, a, rfl, ri, hok, hpf, subi, wki, hv.keep ki', ha, by omega, hoth, ?_⟩
    have qi : AnsR K x pr told oth H Q E ((evB (evC pr n f) a d ai si).bind fun v s => evArms (evB (evC pr n f) a d) (as.drop (i + 1)) (vsi ++ [v]) s (fin (evC pr n f) o g)) := qi
    generalize evB (evC pr n f) a d ai si = r0 at qi gd ⊢
    cases r0 with
    | bad e s5 => exact fun H5 dd oth' b5 r5 e5 => qi H5 dd oth' (bi.trans b5) r5 e5
    | ok v0 s5 =>
      intro H5 y b5 r5 hy
      have hs5 : s5.phi ≤ si.phi + ai.size := gd.2
      have eD5 := b5 _ _ nDa nDs nDr (hR.nown hD).2.2.2.1 (hR.nown hD).2.2.2.2 eDi
      have k5 := ri.keep b5
      have bi5 := bi.trans b5
      have kD := Keep.updL (ys := us ++ [y]) eD5
      have ul := Paired.length hvi
      have ar3 : o.arity ≤ 3 := by cases o <;> decide
      refine ⟨us, eD5, sm _ (by omega), s5, vsi ++ [v0], us ++ [y], bi5.updn hD, RoomG.fresh hR hD bi5 r5 eD5, upd_same, PySem.Paired.snoc (L2.Paired.mapP hvi fun _ _ z => (z.keep k5).keep kD) (hy.keep kD), by rw [List.length_append, List.length_singleton, hvl], fun u hu => ?_, ?_, qi⟩
      · rcases List.mem_append.mp hu with hu | hu
        · exact hvo u hu
        · rw [List.mem_singleton.mp hu]
          exact gd.1
      · have : as.take (i + 1) = as.take i ++ [ai] := by
          rw [List.take_add_one, hai]
          rfl
        rw [this, W.sizes_snoc]
        omega
  rintro Hn ⟨sn, vs, us, bn, rn, eD, hvs, hvl, hvo, hsn, qn⟩
  rw [stl] at hvl hsn qn
  rw [List.take_length] at hsn
  rw [List.drop_length] at qn
  have q : AnsR K x pr told oth H Q E (fin (evC pr n f) o g vs sn) := qn
  clear qn
  have kn := hR.keep bn
  have hvk : PV Hn v a := hv.keep kn
  have phn : sn.phi ≤ most := by omega
  have at0 : ∀ {u : V} {r : List V}, us = u :: r → atI us (0 : Int) = some u := fun e => by
    rw [e]
    exact atI_nat (j := 0) rfl
  by_cases c5 : o = .thn
  · subst c5
    obtain ⟨l1, l2, u1, u2, rfl, rfl, hp1, hp2⟩ := paired_two hvs (by rw [hvl, hal]; rfl)
    exact ⟨_, rfl, rfl, _, rfl, iteT ⟨_, rfl, D, _, 1, _, rfl, rfl, SqL.of eD, atI_nat (j := 1) rfl, q Hn l2 bn rn hp2⟩⟩
  refine ⟨_, rfl, rfl, _, rfl, ?_⟩
  rw [show decide (V.str o.name = V.str "then") = false by cases o <;> first | decide +kernel | exact absurd rfl c5]
  refine iteF ?_
  by_cases c6 : o = .say
  · subst c6
    obtain ⟨l1, u1, rfl, rfl, hp1⟩ := one_of hvs (by rw [hvl, hal]; rfl)
    have hsl : sn.said.length ≤ sn.phi := by unfold RS.phi; omega
    refine ⟨_, rfl, rfl, _, rfl, iteT ⟨_, rfl, x.a, _, _, rfl, rn.ob, rfl, _, rfl, D, _, 0, _, rfl, rfl, SqL.of eD, atI_nat (j := 0) rfl, x, pr, told, l1, sn, oth, u1, rfl, rn, hp1, by omega, ?_⟩⟩
    cases u1 with
    | num z => exact fun H' b r => q H' l1 (bn.trans b) r (hp1.keep (rn.keep b))
    | way f' => exact AnsR.out (f := .kind) (s := sn) q bn rn
  refine ⟨_, rfl, rfl, _, rfl, ?_⟩
  rw [show decide (V.str o.name = V.str "say") = false by cases o <;> first | decide +kernel | exact absurd rfl c6]
  refine iteF ?_
  by_cases c7 : o = .call
  · subst c7
    obtain ⟨l1, u1, rfl, rfl, hp1⟩ := one_of hvs (by rw [hvl, hal]; rfl)
    have hg : 0 ≤ g ∧ g < pr.length := h2
    refine ⟨_, rfl, rfl, _, rfl, iteT ⟨_, rfl, x.a, _, _, rfl, rn.ob, rfl, _, rfl, _, rfl, sml 2, fun t2 ht2 => ?_⟩⟩
    have s2 := Same.new (o := .tup [.int (f : Int), .int (wi : Int)]) ht2
    refine ⟨_, rfl, _, rfl, D, _, 0, _, rfl, rfl, SqL.of (s2 _ _ eD), atI_nat (j := 0) rfl, x, told, l1, sn, oth, t2, f, wi, g.toNat, u1, ?_, upd_same, rn.same s2, hok, hfl, by omega, hp1.keep (Keep.same s2), hvo u1 (by simp), phn, hoth, AnsR.but (bn.trans (ButM.same s2)) q⟩
    show [V.ref x.a, V.ref t2, V.int g, l1] = [V.ref x.a, V.ref t2, V.int ((g.toNat : Nat) : Int), l1]
    rw [show ((g.toNat : Nat) : Int) = g by omega]
  refine ⟨_, rfl, rfl, _, rfl, ?_⟩
  rw [show decide (V.str o.name = V.str "call") = false by cases o <;> first | decide +kernel | exact absurd rfl c7]
  refine iteF ?_
  by_cases c8 : o = .through
  · subst c8
    obtain ⟨l1, l2, u1, u2, rfl, rfl, hp1, hp2⟩ := paired_two hvs (by rw [hvl, hal]; rfl)
    refine ⟨_, rfl, rfl, _, rfl, iteT ⟨_, rfl, x.a, _, _, rfl, rn.ob, rfl, _, rfl, _, rfl, sml 2, fun t2 ht2 => ?_⟩⟩
    have s2 := Same.new (o := .tup [.int (f : Int), .int (wi : Int)]) ht2
    refine ⟨_, rfl, D, _, 0, _, rfl, rfl, SqL.of (s2 _ _ eD), atI_nat (j := 0) rfl, l1, u1, rfl, hp1.keep (Keep.same s2), ?_⟩
    cases u1 with
    | num z => exact AnsR.out (f := .kind) (s := sn) q (bn.trans (ButM.same s2)) (rn.same s2)
    | way f' => exact ⟨_, rfl, D, _, 1, _, rfl, rfl, SqL.of (s2 _ _ eD), atI_nat (j := 1) rfl, x, told, l2, sn, oth, t2, f, wi, f', u2, rfl, upd_same, rn.same s2, hok, hfl, hvo (.way f') (by simp), hp2.keep (Keep.same s2), hvo u2 (by simp), phn, hoth, AnsR.but (bn.trans (ButM.same s2)) q⟩
  refine ⟨_, rfl, rfl, _, rfl, ?_⟩
  rw [show decide (V.str o.name = V.str "through") = false by cases o <;> first | decide +kernel | exact absurd rfl c8]
  refine iteF ?_
  have ho : o = .plus ∨ o = .less ∨ o = .times := by cases o <;> simp_all
  have har : o.arity = 2 := by rcases ho with rfl | rfl | rfl <;> rfl
  obtain ⟨l1, l2, u1, u2, rfl, rfl, hp1, hp2⟩ := paired_two hvs (by rw [hvl, hal, har])
  have hbad : ∀ {f' : Nat}, Wt.way f' ∈ [u1, u2] → fin (evC pr n f) o g [u1, u2] sn = .bad .kind sn := fun h => fin_bad h (Nat.le_refl 2) (.inr ho)
  refine ⟨_, rfl, _, rfl, D, _, 0, _, rfl, rfl, SqL.of eD, atI_nat (j := 0) rfl, l1, u1, rfl, hp1, ?_⟩
  cases u1 with
  | way f' =>
    rw [hbad (f' := f') (by simp)] at q
    exact AnsR.out (f := .kind) (s := sn) q bn rn
  | num z1 =>
    refine ⟨_, rfl, D, _, 1, _, rfl, rfl, SqL.of eD, atI_nat (j := 1) rfl, l2, u2, rfl, hp2, ?_⟩
    cases u2 with
    | way f' =>
      rw [hbad (f' := f') (by simp)] at q
      exact AnsR.out (f := .kind) (s := sn) q bn rn
    | num z2 =>
      have w1 : 0 ≤ z1 ∧ z1 < 1000 := hvo (.num z1) (by simp)
      refine ⟨o, z1, z2, rfl, ho, w1.1, w1.2, fun H' t2 z s2 ht2 e2 hfin => ?_⟩
      rw [hfin] at q
      exact q H' _ (bn.trans (ButM.same s2)) (rn.same s2) ⟨t2, rfl, e2⟩
theorem ok_RoomRun_worth0 (T : Txt w K mg) (hP : P = R.prog) {pr : List (Int × W)} {n k : Nat} : FnOk P w K mg base (L2.CX P w) k (He.ma K (He.ga K "RoomRun") "worth") (fdOf K d_Run_worth) ["self", "function", "word", "argument"] (spWorthR K pr n 0) :=
  ⟨fun vs H Q E ⟨_, _, _, _, _, _, _, _, _, _, _, _, _, _, _, h, _⟩ => absurd h wok0, fun _ _ _ _ _ _ _ _ _ _ _ _ _ ⟨_, _, _, _, _, _, _, _, _, _, _, _, _, _, _, h, _⟩ => absurd h wok0⟩
theorem ok_RoomRun_worthD (T : Txt w K mg) (hP : P = R.prog) {pr : List (Int × W)} {n : Nat} (G : FnOk P w K mg base (L2.CX P w) (8 * n + 9) (He.ma K (He.ga K "RoomRun") "call") (fdOf K d_Run_call) ["self", "place", "called", "argument"] (spCallR K pr n)) : ∀ d, FnOk P w K mg base (L2.CX P w) (8 * n + 9 + d) (He.ma K (He.ga K "RoomRun") "worth") (fdOf K d_Run_worth) ["self", "function", "word", "argument"] (spWorthR K pr n d)
  | 0 => ok_RoomRun_worth0 T hP
  | d + 1 => ok_RoomRun_worthS T hP (ok_RoomRun_worthD T hP G d) G (Nat.le_add_right _ _)
theorem ok_RoomRun_callN (T : Txt w K mg) (hP : P = R.prog) {pr : List (Int × W)} : ∀ n, FnOk P w K mg base (L2.CX P w) (8 * n + 9) (He.ma K (He.ga K "RoomRun") "call") (fdOf K d_Run_call) ["self", "place", "called", "argument"] (spCallR K pr n)
  | 0 => ok_RoomRun_call0 T hP ⟨fun _ _ _ _ h => h.elim, fun _ _ _ _ _ _ _ _ _ _ _ _ _ h => h.elim⟩
  | n + 1 => ok_RoomRun_callS T hP (ok_RoomRun_worthD T hP (ok_RoomRun_callN T hP n) 7) (by omega)
/-- function 0's body, twelve more within one another -/
theorem ok_RoomRun_worth (T : Txt w K mg) (hP : P = R.prog) {pr : List (Int × W)} : FnOk P w K mg base (L2.CX P w) 112 (He.ma K (He.ga K "RoomRun") "worth") (fdOf K d_Run_worth) ["self", "function", "word", "argument"] (spWorthR K pr 12 7) := ok_RoomRun_worthD T hP (ok_RoomRun_callN T hP 12) 7
end
end K18

namespace K18
open PySem PySem.Spec PyProof.Rows L2 Ov
section
variable {P : Program} {w : World} {K : PySem.W.Frag} {mg : Str → Option Value} {base : Heap}
theorem ok_Run_beginR (T : Txt w K mg) (hP : P = R.prog) : FnOk P w K mg base CX0 113 (He.ma K (He.ga K "Run") "begin") (fdOf K d_Run_begin) ["self", "number"] (spBeginR K) := by
  refine ⟨fun vs H Q E h => ?_, ?_⟩
  · obtain ⟨x, pr, z, rfl, _⟩ := h
    rfl
  intro A outer s H args us vs Q E hr h1 h2 h3 h4
  obtain ⟨x, pr, z, e, r⟩ := h4
  have G_RoomRun_enter := ok_RoomRun_enter (P := P) (base := base) T hP
  have G_RoomRun_worth := ok_RoomRun_worth (P := P) (base := base) T hP (pr := pr)
  refine FnOk.run (sp := fun vs H Q E => ∃ (x : PR) (z : Int), vs = [.ref x.a, .int z] ∧ RoomAt K H x pr .non ⟨[], 0, [], [], []⟩ 0 ∧ PrOk pr ∧ 0 ≤ z ∧ z < 1000 ∧
    ∀ H' t oth, ButM x H H' → RoomAt K H' x pr (.ref t) (evR pr z).st oth → H' t = some (.tup [.str (endD (evR pr z)).1, (endD (evR pr z)).2]) → Q .non H') (T.F_Run_begin.ok sc_Run_begin (fun vs H Q E h => ?_) (fun cdv A outer s H vs Q E hr h => ?_)) A outer s H args us vs Q E hr h1 h2 h3 ⟨x, z, e, r⟩
  · obtain ⟨x, z, rfl, _⟩ := h
    rfl
  obtain ⟨x, z, rfl, hR, hok, hz0, hz1, q⟩ := h
  refine ⟨_, PSs.nox (pss_one (ps_try_as (i := 2) rfl rfl sc_Run_begin.nd rfl rfl ⟨rfl, by decide, .inl T.g_Fault⟩ takes0 (fun W pn xe tk _ => (pss_cons (ps_expr (pe_meth (pv 0) T.c_RoomRun T.m_RoomRun_enter G_RoomRun_enter (hr.mono (by omega)) T.b_RoomRun_enter .nil pass0 (pa_cons pe_non (pa_cons pe_int pa_nil))))
      (pss_one (Ov.ps_fldK (K := K) rfl (pv 0) (Ov.pe_methAt (pv 0) T.c_RoomRun T.m_RoomRun_worth G_RoomRun_worth (hr.mono (by omega)) T.b_RoomRun_worth (fun σ => passAt tk σ) (pa_cons pe_int (pa_cons pe_int (pa_cons (pe_tup (pa_cons pe_str (pa_cons (pv 1) pa_nil))) pa_nil)))) rfl)))) (fun a oe cls d pn hz hf => (pss_one (Ov.ps_fldK (K := K) rfl (pv 0) (pe_tup (pa_cons pe_str (pa_cons (pe_byFlt T.flt hz hf (pv 2)) pa_nil))) rfl))))), ?_⟩
  obtain ⟨p, hp⟩ : ∃ p, pr[0]? = some p := ⟨_, List.getElem?_eq_getElem (by have := hok.l1; omega)⟩
  have hbd := hok.f p (List.mem_of_getElem? hp)
  unfold evR at q
  rw [hp] at q
  refine ⟨_, rfl, x.a, _, _, rfl, hR.ob, rfl, x, pr, .non, .non, _, 0, 0, rfl, hR, .inl rfl, (by have := hok.l1; omega), Nat.zero_le _, fun H1 b1 r1 => ?_⟩
  have b0 : ({ said := [], calls := 0, row := [0], came := [(0, .num z)], told := [] } : RS).phi + p.2.size ≤ most := by
    have := hbd.2.2.2
    unfold RS.phi most
    simp only [List.length_cons, List.length_nil]
    omega
  refine ⟨_, rfl, x.a, _, _, rfl, r1.ob, rfl, _, rfl, sml 2, fun t ht => ?_⟩
  have st := Same.new (o := .tup [.str "number", .int z]) ht
  have et : upd H1 t (.tup [.str "number", .int z]) t = some (.tup [.str "number", .int z]) := upd_same
  have r2 := r1.same st
  generalize upd H1 t (.tup [.str "number", .int z]) = H2 at st et r2 ⊢
  have b2 := b1.trans (ButM.same st)
  have r2' : RoomAt K H2 x pr .non { said := [], calls := 0, row := [0], came := [(0, .num z)], told := [] } 0 := ⟨r2.ob, r2.bo, r2.sa, r2.ro, r2.nd, r2.da, r2.hl, r2.wl⟩
  refine ⟨x, .non, .ref t, _, 0, 0, 0, p, p.2, .num z, rfl, r2', hok, hp, SubAt.all _, hbd.2.2.1, ⟨t, rfl, et⟩, ⟨hz0, hz1⟩, b0, rfl, ?_⟩
  simp only at q
  generalize evB (evC pr 12 0) (.num z) 7 p.2 _ = rs at q ⊢
  cases rs with
  | ok v s2 =>
    intro H5 y b5 r5 hy
    obtain ⟨r6, b6⟩ := r5.wr0 (told' := y) (oth' := 0) (c := s2.calls)
    have k6 := r5.keep b6
    obtain ⟨t5, rfl, e5⟩ := hy
    refine ⟨_, rfl, x.a, _, x.dx, _, rfl, r5.ob, T.c_RoomRun, T.a_RoomRun_told, by show 10 < 1000; decide, ?_⟩
    rw [roomFs_told]
    refine q _ t5 0 (b2.trans (b5.trans b6)) ⟨r6.ob, r6.bo, r6.sa, r6.ro, r6.nd, r6.da, r6.hl, r6.wl⟩ ?_
    rw [k6 _ _ e5]
    cases v <;> rfl
  | bad f s2 =>
    intro H5 d oth' b5 r5 e5
    refine ⟨true, T.flt.te, fun _ ea hea => ?_, fun z => nomatch z⟩
    refine ⟨_, rfl, rfl, rfl, d, _, rfl, e5, sml 2, fun t6 ht6 => ?_⟩
    have s6 := Same.new (o := .tup [.str "fault", .str f.name]) ht6
    have e6 : upd H5 t6 (.tup [.str "fault", .str f.name]) t6 = some (.tup [.str "fault", .str f.name]) := upd_same
    have r6 := r5.same s6
    generalize upd H5 t6 (.tup [.str "fault", .str f.name]) = H6 at s6 e6 r6 ⊢
    obtain ⟨r7, b7⟩ := r6.wr0 (told' := .ref t6) (oth' := oth') (c := s2.calls)
    have k7 := r6.keep b7
    refine ⟨_, rfl, x.a, _, x.dx, _, rfl, r6.ob, T.c_RoomRun, T.a_RoomRun_told, by show 10 < 1000; decide, ?_⟩
    rw [roomFs_told]
    exact q _ t6 oth' (b2.trans (b5.trans ((ButM.same s6).trans b7))) ⟨r7.ob, r7.bo, r7.sa, r7.ro, r7.nd, r7.da, r7.hl, r7.wl⟩ (k7 _ _ e6)
theorem ok_RoomRun_begin (T : Txt w K mg) (hP : P = R.prog) : FnOk P w K mg base CX0 114 (He.ma K (He.ga K "RoomRun") "begin") (fnAt K (He.ma K (He.ga K "RoomRun") "begin")) ["self", "number"] (spBeginR K) := by
  subst hP
  have G_begin := ok_Run_beginR (P := R.prog) (base := base) T rfl
  have S := T.s_RoomRun_begin
  refine fn_ofS S nsc_begin (fun vs H Q E h => ?_) (fun A outer s H vs Q E hr h => ?_)
  · obtain ⟨x, pr, z, rfl, _⟩ := h
    rfl
  obtain ⟨x, pr, z, rfl, hR, hok, hz0, hz1, q⟩ := h
  refine ⟨_, QSs.one (QS.try_thru (QSs.one (QS.expr (qe_super (i := 0) S (supMB_ok T.spm_RoomRun_begin) rfl rfl rfl rfl rfl rfl (by decide +kernel) (by decide +kernel) (by decide +kernel) T.z_super (by decide +kernel) (G_begin.raw T.b_Run_begin .nil) (hr.mono (by omega)) pass0 (pa_cons (pv 1) pa_nil))))), ?_⟩
  exact ⟨x.a, _, _, rfl, hR.ob, _, rfl, x, pr, z, rfl, hR, hok, hz0, hz1, q⟩
end
end K18

namespace K18
open PySem PySem.Spec PyProof.Rows L2 Ov
section
variable {P : Program} {w : World} {K : PySem.W.Frag} {mg : Str → Option Value} {base : Heap}
theorem sc_check_places : FnScope ["program", "left_out", "bodies", "place"] ["program", "left_out"] (defScope s_check_places) := ⟨rfl, rfl, rfl, by decide +kernel, rfl, by decide +kernel, by decide +kernel⟩
-- 0 program, 1 left_out, 2 bodies, 3 place
theorem ok_check_places0 (T : Txt w K mg) : FnOk P w K mg base CX0 11 (He.ga K "check_places") (fdOf K d_check_places) ["program", "left_out"] spPlaces0 := by
  have G_numbered := ok_numbered (P := P) (base := base) T
  refine T.F_check_places.ok sc_check_places (fun vs H Q E h => ?_) (fun cdv A outer s H vs Q E hr h => ?_)
  · obtain ⟨v, pr, la, rfl, _⟩ := h
    rfl
  obtain ⟨v, pr, la, rfl, hpr, hok, hla, q⟩ := h
  refine ⟨_, PSs.nox (pss_cons (ps_set (i := 2) sc_check_places.nd rfl (by first | exact Or.inl rfl | exact Or.inr rfl) (pe_call G_numbered (hr.mono (by omega)) (by rfl) T.g_numbered T.kp_numbered T.b_numbered .nil pass0 (pa_cons (pv 0) pa_nil)))
      (pss_one (ps_for PassesOwn.never rfl (Ov.pi_listK (K := K) rfl (pv 1)) (pg_name (i := 3) sc_check_places.nd rfl (by first | exact Or.inl rfl | exact Or.inr rfl)) pss_never))), ?_⟩
  refine ⟨_, rfl, v, pr, rfl, hpr, hok, fun H1 bo bs s1 _ _ _ _ => ?_⟩
  refine ⟨_, rfl, la, rfl, ⟨_, SqL.of (s1 _ _ hla)⟩, ?_⟩
  refine for_list (K := K) (a := la) (xs := []) (fun i σ' H' => H' = H1) rfl (fun i σ' H' _ e => by
    rw [show H' = H1 from e]
    exact SqL.of (s1 _ _ hla)) (fun i y σ' H' hi _ => by simp at hi) ?_
  intro σ' H' e
  rw [show H' = H1 from e]
  exact q H1 s1
theorem Txt.b_RoomRun_init (T : Txt w K mg) : Binds K (fdOf K d_RoomRun_init) ["self", "program", "hall", "ahead", "back"] [] := T.F_RoomRun_init.bindsN fun _ _ _ _ _ _ us hl => match us, hl with | [_, _, _, _, _], _ => rfl
theorem sc_room_run : FnScope ["program", "tree", "room", "ahead", "back", "number", "hall", "done"] ["program", "tree", "room", "ahead", "back", "number"] (defScope s_room_run) := ⟨rfl, rfl, rfl, by decide +kernel, rfl, by decide +kernel, by decide +kernel⟩
-- 0 program, 1 tree, 2 room, 3 ahead, 4 back, 5 number, 6 hall, 7 done
theorem ok_room_run (T : Txt w K mg) (hP : P = R.prog) : FnOk P w K mg base CX0 115 (He.ga K "room_run") (fdOf K d_room_run) ["program", "tree", "room", "ahead", "back", "number"] (spRoomRun K) := by
  have G_Hall_init := ok_Hall_init (P := P) (base := base) T
  have G_check_places := ok_check_places0 (P := P) (base := base) T
  have G_check_number := ok_check_number (P := P) (base := base) T
  have G_RoomRun_init := ok_RoomRun_init (P := P) (base := base) T
  have G_RoomRun_begin := ok_RoomRun_begin (P := P) (base := base) T hP
  refine T.F_room_run.ok sc_room_run (fun vs H Q E h => ?_) (fun cdv A outer s H vs Q E hr h => ?_)
  · obtain ⟨v, t, pr, ps, st, dn, far, room, la, lb, z, rfl, _⟩ := h
    rfl
  obtain ⟨v, t, pr, ps, st, dn, far, room, la, lb, z, rfl, hpre, hdn, hfar, hfr, hr64, hla, hlb, hz0, hz1, q⟩ := h
  refine ⟨_, PSs.nox (pss_cons (ps_set (i := 6) sc_room_run.nd rfl (by first | exact Or.inl rfl | exact Or.inr rfl) (pe_make T.k_Hall G_Hall_init (hr.mono (by omega)) (by rfl) T.g_Hall T.b_Hall_init .nil pass0 (pa_cons (pv 0) (pa_cons (pv 1) (pa_cons (pv 2) pa_nil)))))
      (pss_cons (ps_expr (pe_call G_check_places (hr.mono (by omega)) (by rfl) T.g_check_places T.kp_check_places T.b_check_places .nil pass0 (pa_cons (pv 0) (pa_cons (pv 3) pa_nil))))
      (pss_cons (ps_expr (pe_call G_check_places (hr.mono (by omega)) (by rfl) T.g_check_places T.kp_check_places T.b_check_places .nil pass0 (pa_cons (pv 0) (pa_cons (pv 4) pa_nil))))
      (pss_cons (ps_expr (pe_call G_check_number (hr.mono (by omega)) (by rfl) T.g_check_number T.kp_check_number T.b_check_number .nil pass0 (pa_cons (pv 5) pa_nil)))
      (pss_cons (ps_set (i := 7) sc_room_run.nd rfl (by first | exact Or.inl rfl | exact Or.inr rfl) (pe_make T.k_RoomRun G_RoomRun_init (hr.mono (by omega)) (by rfl) T.g_RoomRun T.b_RoomRun_init .nil pass0 (pa_cons (pv 0) (pa_cons (pv 6) (pa_cons (pv 3) (pa_cons (pv 4) pa_nil))))))
      (pss_cons (ps_expr (pe_meth (pv 7) T.c_RoomRun T.m_RoomRun_begin G_RoomRun_begin (hr.mono (by omega)) T.b_RoomRun_begin .nil pass0 (pa_cons (pv 5) pa_nil)))
      (pss_one (ps_ret (pv 7))))))))), ?_⟩
  have hok := hpre.2.1
  refine ⟨_, rfl, _, rfl, _, rfl, fun x0 dx0 hx0 hdx0 ndx => ?_⟩
  have sH : Same H (upd (upd H dx0 (.own x0)) x0 (.ins (He.ga K "Hall") dx0 [])) := (Same.new hdx0).trans (Same.new (by rw [upd_ne ndx.symm]; exact hx0))
  refine ⟨H, x0, dx0, v, t, pr, ps, st, dn, far, room, rfl, upd_same, hx0, fun b hb => Same.free sH hb, hpre.keep (Keep.same sH), hdn, hfar, hfr, hr64, fun H1 hx cs f1 ex edx hcs hin1 => ⟨rfl, ?_⟩⟩
  have s1 : Same H H1 := fun b o e => f1 b o (ne_of_none e hx0) (sH _ _ e)
  clear sH f1
  subst ex
  refine ⟨_, rfl, _, rfl, v, pr, la, rfl, hpre.1.keep (Keep.same s1), hok, s1 _ _ hla, fun H2 s2 => ?_⟩
  refine ⟨_, rfl, _, rfl, v, pr, lb, rfl, hpre.1.keep (Keep.same (s1.trans s2)), hok, s2 _ _ (s1 _ _ hlb), fun H3 s3 => ?_⟩
  refine ⟨_, rfl, z, rfl, hz0, hz1, ?_⟩
  have s13 := s1.trans (s2.trans s3)
  have i3 := hin1.same (s2.trans s3)
  refine ⟨_, rfl, _, rfl, _, rfl, _, rfl, fun a dx ha hdx nd => ?_⟩
  have sR : Same H3 (upd (upd H3 dx (.own a)) a (.ins (He.ga K "RoomRun") dx [])) := (Same.new hdx).trans (Same.new (by rw [upd_ne nd.symm]; exact ha))
  have im : HallIn K (upd H a (.tup [])) H3 hx (waysF pr.length ps dn) (laysF pr cs ps) (List.replicate room none) 0 far.toNat := ⟨i3.at_.mark ha, i3.ok, i3.le⟩
  refine ⟨_, a, dx, v, pr, hx, la, lb, _, _, room, far.toNat, rfl, upd_same, sR _ _ (s13 _ _ hla), sR _ _ (s13 _ _ hlb), hpre.1.keep (Keep.same (s13.trans sR)), hok, im.same sR, (by rw [upd_same]; exact fun y => nomatch y), (by unfold waysF; rw [List.length_map, List.length_range]), fun H5 x f5 exa exh ewy eL en ef nsa nro hR => ⟨rfl, ?_⟩⟩
  have s5 : Same H3 H5 := fun b o e => f5 b o (ne_of_none e ha) (sR _ _ e)
  have hsa : H x.sa = none := Same.free (s13.trans sR) nsa
  have hro : H x.ro = none := Same.free (s13.trans sR) nro
  clear f5 sR nsa nro
  subst exa
  have hxa : H x.a = none := Same.free s13 ha
  refine ⟨_, rfl, x.a, _, _, rfl, hR.ob, rfl, _, rfl, x, pr, z, rfl, hR, hok, hz0, hz1, fun H6 tt oth b6 r6 e6 => ?_⟩
  have s6 : Same H H6 := fun b o e => b6 b o (ne_of_none e hxa) (ne_of_none e hsa) (ne_of_none e hro) (by rw [exh]; exact ne_of_none e hx0) (by rw [exh]; exact ne_of_none e hin1.at_.fy) (s5 _ _ (s13 _ _ e))
  exact ⟨_, rfl, q H6 x tt oth cs s6 hsa r6 e6 hcs ewy eL en ef (by rw [ewy, eL, ef]; exact hin1.ok)⟩
theorem sc_run_in : FnScope ["program", "tree", "room", "number", "done"] ["program", "tree", "room", "number"] (defScope s_run_in) := ⟨rfl, rfl, rfl, by decide +kernel, rfl, by decide +kernel, by decide +kernel⟩
-- 0 program, 1 tree, 2 room, 3 number, 4 done
theorem ok_run_in (T : Txt w K mg) (hP : P = R.prog) : FnOk P w K mg base CX0 116 (He.ga K "run_in") (fdOf K d_run_in) ["program", "tree", "room", "number"] spRunIn := by
  have G_room_run := ok_room_run (P := P) (base := base) T hP
  have G_Hall_brought := ok_Hall_brought (P := P) (base := base) T
  refine T.F_run_in.ok sc_run_in (fun vs H Q E h => ?_) (fun cdv A outer s H vs Q E hr h => ?_)
  · obtain ⟨v, t, pr, ps, st, dn, far, room, z, rfl, _⟩ := h
    rfl
  obtain ⟨v, t, pr, ps, st, dn, far, room, z, rfl, hpre, hdn, hfar, hfr, hr64, hz0, hz1, q⟩ := h
  refine ⟨_, PSs.nox (pss_cons (ps_set (i := 4) sc_run_in.nd rfl (by first | exact Or.inl rfl | exact Or.inr rfl) (pe_call G_room_run (hr.mono (by omega)) (by rfl) T.g_room_run T.kp_room_run T.b_room_run .nil pass0 (pa_cons (pv 0) (pa_cons (pv 1) (pa_cons (pv 2) (pa_cons (pe_lst pa_nil) (pa_cons (pe_lst pa_nil) (pa_cons (pv 3) pa_nil))))))))
      (pss_one (ps_ret (pe_tup (pa_cons (Ov.pe_fldK (K := K) rfl (pv 4) rfl) (pa_cons (Ov.pe_fldK (K := K) rfl (pv 4) rfl) (pa_cons (pe_meth0 (Ov.pe_fldK (K := K) rfl (pv 4) rfl) T.c_Hall T.m_Hall_brought G_Hall_brought (hr.mono (by omega)) T.b_Hall_brought .nil pass0) pa_nil))))))), ?_⟩
  refine ⟨_, rfl, _, rfl, _, rfl, sml 0, fun la hla0 => ?_⟩
  have s1 := Same.new (o := .lst []) hla0
  have ela : upd H la (.lst []) la = some (.lst []) := upd_same
  generalize upd H la (.lst []) = H1 at s1 ela ⊢
  refine ⟨sml 0, fun lb hlb0 => ?_⟩
  have s2 := Same.new (o := .lst []) hlb0
  have elb : upd H1 lb (.lst []) lb = some (.lst []) := upd_same
  have ela2 := s2 _ _ ela
  generalize upd H1 lb (.lst []) = H2 at s2 elb ela2 ⊢
  have s12 := s1.trans s2
  refine ⟨_, rfl, v, t, pr, ps, st, dn, far, room, la, lb, z, rfl, hpre.keep (Keep.same s12), hdn, hfar, hfr, hr64, ela2, elb, hz0, hz1, fun H3 x tt oth cs s3 fsa r3 e3 hcs ewy eL en ef hlok => ?_⟩
  have s13 := s12.trans s3
  obtain ⟨Hx, i3, m1, m2, m3⟩ := r3.hl
  refine ⟨_, rfl, x.a, _, _, _, _, rfl, r3.ob, T.c_RoomRun, T.a_RoomRun_told, rfl, _, rfl, x.a, _, _, _, _, rfl, r3.ob, T.c_RoomRun, T.a_RoomRun_said, rfl, ?_⟩
  refine ⟨_, rfl, x.a, _, _, _, _, rfl, r3.ob, T.c_RoomRun, T.a_RoomRun_hall, rfl, x.hx.a, _, _, rfl, i3.at_.ob, rfl, Hx, x.hx, _, _, _, _, _, rfl, i3, ?_⟩
  refine ⟨sml 3, fun r hr0 => ?_⟩
  have s4 := Same.new (o := .tup [.ref tt, .ref x.sa, .int ((x.sum (evR pr z).st.row).2 : Nat)]) hr0
  have eq : (x.sum (evR pr z).st.row).2 = inR pr ps dn cs room z := by
    unfold PR.sum Ov.inR costT
    rw [ewy, eL, en]
  rw [ewy, eL, ef] at hlok
  refine q _ r tt x.sa cs (s13.trans s4) (Same.free s12 fsa) ?_ (s4 _ _ e3) (s4 _ _ r3.sa) hcs hlok
  rw [upd_same, eq]
end
end K18

namespace K18
open PySem PySem.Spec PyProof.Rows L2 Ov
section
variable {P : Program} {w : World} {K : PySem.W.Frag} {mg : Str → Option Value} {base : Heap}
theorem sc_law_alike : FnScope ["_law_found", "_law_due", "_law_k"] ["_law_found", "_law_due"] (defScope s_law_alike) := ⟨rfl, rfl, rfl, by decide +kernel, rfl, by decide +kernel, by decide +kernel⟩
-- 0 _law_found, 1 _law_due, 2 _law_k
theorem ok_law_alikeS (T : Txt w K mg) {d k : Nat} (G_law_alike : FnOk P w K mg base CX0 k (He.ga K "_law_alike") (fdOf K d_law_alike) ["_law_found", "_law_due"] (spAlike d)) :
    FnOk P w K mg base CX0 (k + 1) (He.ga K "_law_alike") (fdOf K d_law_alike) ["_law_found", "_law_due"] (spAlike (d + 1)) := by
  refine T.F_law_alike.ok sc_law_alike (fun vs H Q E h => ?_) (fun cdv A outer s H vs Q E hr h => ?_)
  · obtain ⟨x, y, rfl, _⟩ := h
    rfl
  obtain ⟨x, y, rfl, hal, q⟩ := h
  have cls : Paired ClsV [.ty "tuple", .ty "list"] [.type "tuple", .type "list"] := .cons (.ty _) (.cons (.ty _) .nil)
  rcases hal with ⟨rfl, hfl⟩ | ⟨a, b, xs, ys, rfl, rfl, ha, hb, hl, hxy⟩ | ⟨a, b, xs, ys, rfl, rfl, ha, hb, hl, hxy⟩
  · refine ⟨_, PSs.nox (pss_cons (ps_if (pt_val (pe_callB (r := rIsiT K) call_isiT (by rfl) T.z_isinstance (by decide +kernel) (pa_cons (pv 1) (pa_cons (pe_tup (pa_cons (pe_bltn (v := .ty "tuple") (by rfl) T.z_tuple (by decide +kernel) rfl) (pa_cons (pe_bltn (v := .ty "list") (by rfl) T.z_list (by decide +kernel) rfl) pa_nil))) pa_nil)))) (pss_cons (ps_if (PW.pt (pw_or (pt_not (pt_val (pe_callB (r := rIsiT K) call_isiT (by rfl) T.z_isinstance (by decide +kernel) (pa_cons (pv 0) (pa_cons (pe_tup (pa_cons (pe_bltn (v := .ty "tuple") (by rfl) T.z_tuple (by decide +kernel) rfl) (pa_cons (pe_bltn (v := .ty "list") (by rfl) T.z_list (by decide +kernel) rfl) pa_nil))) pa_nil))))) (pw_or1 (pt_cmpR op_ne (pe_callB (r := rIsi K) call_isi (by rfl) T.z_isinstance (by decide +kernel) (pa_cons (pv 0) (pa_cons (pe_bltn (v := .ty "list") (by rfl) T.z_list (by decide +kernel) rfl) pa_nil))) (pe_callB (r := rIsi K) call_isi (by rfl) T.z_isinstance (by decide +kernel) (pa_cons (pv 1) (pa_cons (pe_bltn (v := .ty "list") (by rfl) T.z_list (by decide +kernel) rfl) pa_nil))) (nomark _))))) (pss_one (ps_ret pe_bl)) pss_nil)
      (pss_cons (ps_if (pt_cmpR op_ne (pe_callB (r := Evl.rLenS K) call_len_seq (by rfl) T.z_len PySem.boot_len (pa_cons (pv 0) pa_nil)) (pe_callB (r := Evl.rLenS K) call_len_seq (by rfl) T.z_len PySem.boot_len (pa_cons (pv 1) pa_nil)) (nomark _)) (pss_one (ps_ret pe_bl)) pss_nil)
      (pss_one (ps_ret (pe_cmpR (r := rEqD K) (op_eqD hr.units) (pe_lc (own := [("_law_k", 2)]) rfl sc_law_alike.nd (pi_range1 (by rfl) T.z_range (pa_cons (pe_callB (r := Evl.rLenS K) call_len_seq (by rfl) T.z_len PySem.boot_len (pa_cons (pv 1) pa_nil)) pa_nil)) (blkOk_by (own := [("_law_k", 2)]) (N := ["_law_found", "_law_due", "_law_k"]) (sc := defScope s_law_alike) (by decide +kernel)) (fun _ _ _ _ _ => (pg_name (i := 2) sc_law_alike.nd rfl (by first | exact Or.inl rfl | exact Or.inr rfl))) (fun _ _ _ _ _ => pts_one (pt_not (pt_val (pe_call G_law_alike (hr.mono (by omega)) (by rfl) T.g_law_alike T.kp_law_alike T.b_law_alike .nil pass0 (pa_cons (pe_ix (r := rIxL K) ix_list (pv 0) (pv 2) (fun _ _ => rfl)) (pa_cons (pe_ix (r := rIxL K) ix_list (pv 1) (pv 2) (fun _ _ => rfl)) pa_nil)))))) (fun _ _ _ _ _ => (pv 2))) (pe_lst pa_nil) (nomark _)))))) pss_nil)
      (pss_cons (ps_if (pt_cmpR op_isN (pv 1) pe_non (nomark _)) (pss_one (ps_ret (pe_cmpR op_isN (pv 0) pe_non (nomark _)))) pss_nil)
      (pss_cons (ps_if (pt_val (pe_callB (r := rIsi K) call_isi (by rfl) T.z_isinstance (by decide +kernel) (pa_cons (pv 1) (pa_cons (pe_bltn (v := .ty "str") (by rfl) T.z_str (by decide +kernel) rfl) pa_nil)))) (pss_one (ps_ret (pe_and (pe_callB (r := rIsi K) call_isi (by rfl) T.z_isinstance (by decide +kernel) (pa_cons (pv 0) (pa_cons (pe_bltn (v := .ty "str") (by rfl) T.z_str (by decide +kernel) rfl) pa_nil))) (pe_one (pe_cmpR op_eq (pv 0) (pv 1) (nomark _)))))) pss_nil)
      (pss_cons (ps_if (PW.pt (pw_or (pt_val (pe_callB (r := rIsi K) call_isi (by rfl) T.z_isinstance (by decide +kernel) (pa_cons (pv 1) (pa_cons (pe_bltn (v := .ty "bool") (by rfl) T.z_bool (by decide +kernel) rfl) pa_nil)))) (pw_or1 (pt_val (pe_callB (r := rIsi K) call_isi (by rfl) T.z_isinstance (by decide +kernel) (pa_cons (pv 0) (pa_cons (pe_bltn (v := .ty "bool") (by rfl) T.z_bool (by decide +kernel) rfl) pa_nil))))))) (pss_one (ps_ret (pe_and (pe_callB (r := rIsi K) call_isi (by rfl) T.z_isinstance (by decide +kernel) (pa_cons (pv 1) (pa_cons (pe_bltn (v := .ty "bool") (by rfl) T.z_bool (by decide +kernel) rfl) pa_nil))) (pe_and (pe_callB (r := rIsi K) call_isi (by rfl) T.z_isinstance (by decide +kernel) (pa_cons (pv 0) (pa_cons (pe_bltn (v := .ty "bool") (by rfl) T.z_bool (by decide +kernel) rfl) pa_nil))) (pe_one (pe_cmpR op_eq (pv 0) (pv 1) (nomark _))))))) pss_nil)
      (pss_one (ps_ret (pe_and (pe_callB (r := rIsi K) call_isi (by rfl) T.z_isinstance (by decide +kernel) (pa_cons (pv 0) (pa_cons (pe_bltn (v := .ty "int") (by rfl) T.z_int (by decide +kernel) rfl) pa_nil))) (pe_one (pe_cmpR op_eq (pv 0) (pv 1) (nomark _)))))))))), ?_⟩
    refine ⟨_, rfl, sml 2, fun tp htp => ?_⟩
    have s1 := Same.new (o := .tup [.ty "tuple", .ty "list"]) htp
    cases x with
    | non =>
      have ka : PySem.W.kitAny K (.type "NoneType") [.type "tuple", .type "list"] = some false := kitAny_cons k_NoneType_tuple (fun _ => kitAny_cons k_NoneType_list (fun _ => kitAny_nil) (fun h => nomatch h)) (fun h => nomatch h)
      refine ⟨.non, tp, _, .type "NoneType", _, false, rfl, upd_same, cls, .base .non, ka, false, rfl, iteF ?_⟩
      exact ⟨_, rfl, rfl, _, rfl, iteT ⟨_, rfl, rfl, q _ s1⟩⟩
    | str z =>
      have ka : PySem.W.kitAny K (.type "str") [.type "tuple", .type "list"] = some false := kitAny_cons k_str_tuple (fun _ => kitAny_cons k_str_list (fun _ => kitAny_nil) (fun h => nomatch h)) (fun h => nomatch h)
      refine ⟨.str z, tp, _, .type "str", _, false, rfl, upd_same, cls, .base (.str z), ka, false, rfl, iteF ?_⟩
      refine ⟨_, rfl, rfl, _, rfl, iteF ?_⟩
      refine ⟨_, rfl, _, .ty "str", .type "str", .type "str", true, rfl, .ty _, .base (.str z), k_str_str, true, rfl, iteT ?_⟩
      refine ⟨_, rfl, _, .ty "str", .type "str", .type "str", true, rfl, .ty _, .base (.str z), k_str_str, true, rfl, iteT ⟨_, rfl, _, rfl, rfl, ?_⟩⟩
      show Q (.bl (decide (V.str z = V.str z))) _
      rw [decide_eq_true rfl]
      exact q _ s1
    | bl z =>
      have ka : PySem.W.kitAny K (.type "bool") [.type "tuple", .type "list"] = some false := kitAny_cons k_bool_tuple (fun _ => kitAny_cons k_bool_list (fun _ => kitAny_nil) (fun h => nomatch h)) (fun h => nomatch h)
      refine ⟨.bl z, tp, _, .type "bool", _, false, rfl, upd_same, cls, .base (.bl z), ka, false, rfl, iteF ?_⟩
      refine ⟨_, rfl, rfl, _, rfl, iteF ?_⟩
      refine ⟨_, rfl, _, .ty "str", .type "bool", .type "str", false, rfl, .ty _, .base (.bl z), k_bool_str, false, rfl, iteF ?_⟩
      refine ⟨_, rfl, _, .ty "bool", .type "bool", .type "bool", true, rfl, .ty _, .base (.bl z), k_bool_bool, true, rfl, iteT (iteT ?_)⟩
      refine ⟨_, rfl, _, .ty "bool", .type "bool", .type "bool", true, rfl, .ty _, .base (.bl z), k_bool_bool, true, rfl, iteT ?_⟩
      refine ⟨_, rfl, _, .ty "bool", .type "bool", .type "bool", true, rfl, .ty _, .base (.bl z), k_bool_bool, true, rfl, iteT ⟨_, rfl, _, rfl, rfl, ?_⟩⟩
      show Q (.bl (decide (V.bl z = V.bl z))) _
      rw [decide_eq_true rfl]
      exact q _ s1
    | int z =>
      have ka : PySem.W.kitAny K (.type "int") [.type "tuple", .type "list"] = some false := kitAny_cons k_int_tuple (fun _ => kitAny_cons k_int_list (fun _ => kitAny_nil) (fun h => nomatch h)) (fun h => nomatch h)
      refine ⟨.int z, tp, _, .type "int", _, false, rfl, upd_same, cls, .base (.int z), ka, false, rfl, iteF ?_⟩
      refine ⟨_, rfl, rfl, _, rfl, iteF ?_⟩
      refine ⟨_, rfl, _, .ty "str", .type "int", .type "str", false, rfl, .ty _, .base (.int z), k_int_str, false, rfl, iteF ?_⟩
      refine ⟨_, rfl, _, .ty "bool", .type "int", .type "bool", false, rfl, .ty _, .base (.int z), k_int_bool, false, rfl, iteF ?_⟩
      refine ⟨_, rfl, _, .ty "bool", .type "int", .type "bool", false, rfl, .ty _, .base (.int z), k_int_bool, false, rfl, iteF ?_⟩
      refine ⟨_, rfl, _, .ty "int", .type "int", .type "int", true, rfl, .ty _, .base (.int z), k_int_int, true, rfl, iteT ⟨_, rfl, _, rfl, rfl, ?_⟩⟩
      show Q (.bl (decide (V.int z = V.int z))) _
      rw [decide_eq_true rfl]
      exact q _ s1
    | _ => cases hfl
  · refine ⟨_, PSs.nox (pss_cons (ps_if (pt_val (pe_callB (r := rIsiT K) call_isiT (by rfl) T.z_isinstance (by decide +kernel) (pa_cons (pv 1) (pa_cons (pe_tup (pa_cons (pe_bltn (v := .ty "tuple") (by rfl) T.z_tuple (by decide +kernel) rfl) (pa_cons (pe_bltn (v := .ty "list") (by rfl) T.z_list (by decide +kernel) rfl) pa_nil))) pa_nil)))) (pss_cons (ps_if (PW.pt (pw_or (pt_not (pt_val (pe_callB (r := rIsiT K) call_isiT (by rfl) T.z_isinstance (by decide +kernel) (pa_cons (pv 0) (pa_cons (pe_tup (pa_cons (pe_bltn (v := .ty "tuple") (by rfl) T.z_tuple (by decide +kernel) rfl) (pa_cons (pe_bltn (v := .ty "list") (by rfl) T.z_list (by decide +kernel) rfl) pa_nil))) pa_nil))))) (pw_or1 (pt_cmpR op_ne (pe_callB (r := rIsi K) call_isi (by rfl) T.z_isinstance (by decide +kernel) (pa_cons (pv 0) (pa_cons (pe_bltn (v := .ty "list") (by rfl) T.z_list (by decide +kernel) rfl) pa_nil))) (pe_callB (r := rIsi K) call_isi (by rfl) T.z_isinstance (by decide +kernel) (pa_cons (pv 1) (pa_cons (pe_bltn (v := .ty "list") (by rfl) T.z_list (by decide +kernel) rfl) pa_nil))) (nomark _))))) (pss_one (ps_ret pe_bl)) pss_nil)
      (pss_cons (ps_if (pt_cmpR op_ne (pe_callB (r := Evl.rLenS K) call_len_seq (by rfl) T.z_len PySem.boot_len (pa_cons (pv 0) pa_nil)) (pe_callB (r := Evl.rLenS K) call_len_seq (by rfl) T.z_len PySem.boot_len (pa_cons (pv 1) pa_nil)) (nomark _)) (pss_one (ps_ret pe_bl)) pss_nil)
      (pss_one (ps_ret (pe_cmpR (r := rEqD K) (op_eqD hr.units) (pe_lc (own := [("_law_k", 2)]) rfl sc_law_alike.nd (pi_range1 (by rfl) T.z_range (pa_cons (pe_callB (r := Evl.rLenS K) call_len_seq (by rfl) T.z_len PySem.boot_len (pa_cons (pv 1) pa_nil)) pa_nil)) (blkOk_by (own := [("_law_k", 2)]) (N := ["_law_found", "_law_due", "_law_k"]) (sc := defScope s_law_alike) (by decide +kernel)) (fun _ _ _ _ _ => (pg_name (i := 2) sc_law_alike.nd rfl (by first | exact Or.inl rfl | exact Or.inr rfl))) (fun _ _ _ _ _ => pts_one (pt_not (pt_val (pe_call G_law_alike (hr.mono (by omega)) (by rfl) T.g_law_alike T.kp_law_alike T.b_law_alike .nil pass0 (pa_cons (pe_ix (r := rIxL K) ix_list (pv 0) (pv 2) (fun _ _ => rfl)) (pa_cons (pe_ix (r := rIxL K) ix_list (pv 1) (pv 2) (fun _ _ => rfl)) pa_nil)))))) (fun _ _ _ _ _ => (pv 2))) (pe_lst pa_nil) (nomark _)))))) pss_nil)
      (pss_cons (ps_if (pt_cmpR op_isN (pv 1) pe_non (nomark _)) (pss_one (ps_ret (pe_cmpR op_isN (pv 0) pe_non (nomark _)))) pss_nil)
      (pss_cons (ps_if (pt_val (pe_callB (r := rIsi K) call_isi (by rfl) T.z_isinstance (by decide +kernel) (pa_cons (pv 1) (pa_cons (pe_bltn (v := .ty "str") (by rfl) T.z_str (by decide +kernel) rfl) pa_nil)))) (pss_one (ps_ret (pe_and (pe_callB (r := rIsi K) call_isi (by rfl) T.z_isinstance (by decide +kernel) (pa_cons (pv 0) (pa_cons (pe_bltn (v := .ty "str") (by rfl) T.z_str (by decide +kernel) rfl) pa_nil))) (pe_one (pe_cmpR op_eq (pv 0) (pv 1) (nomark _)))))) pss_nil)
      (pss_cons (ps_if (PW.pt (pw_or (pt_val (pe_callB (r := rIsi K) call_isi (by rfl) T.z_isinstance (by decide +kernel) (pa_cons (pv 1) (pa_cons (pe_bltn (v := .ty "bool") (by rfl) T.z_bool (by decide +kernel) rfl) pa_nil)))) (pw_or1 (pt_val (pe_callB (r := rIsi K) call_isi (by rfl) T.z_isinstance (by decide +kernel) (pa_cons (pv 0) (pa_cons (pe_bltn (v := .ty "bool") (by rfl) T.z_bool (by decide +kernel) rfl) pa_nil))))))) (pss_one (ps_ret (pe_and (pe_callB (r := rIsi K) call_isi (by rfl) T.z_isinstance (by decide +kernel) (pa_cons (pv 1) (pa_cons (pe_bltn (v := .ty "bool") (by rfl) T.z_bool (by decide +kernel) rfl) pa_nil))) (pe_and (pe_callB (r := rIsi K) call_isi (by rfl) T.z_isinstance (by decide +kernel) (pa_cons (pv 0) (pa_cons (pe_bltn (v := .ty "bool") (by rfl) T.z_bool (by decide +kernel) rfl) pa_nil))) (pe_one (pe_cmpR op_eq (pv 0) (pv 1) (nomark _))))))) pss_nil)
      (pss_one (ps_ret (pe_and (pe_callB (r := rIsi K) call_isi (by rfl) T.z_isinstance (by decide +kernel) (pa_cons (pv 0) (pa_cons (pe_bltn (v := .ty "int") (by rfl) T.z_int (by decide +kernel) rfl) pa_nil))) (pe_one (pe_cmpR op_eq (pv 0) (pv 1) (nomark _)))))))))), ?_⟩
    have ka : PySem.W.kitAny K (.type "list") [.type "tuple", .type "list"] = some true := kitAny_cons k_list_tuple (fun _ => kitAny_cons k_list_list (fun h => nomatch h) (fun _ => rfl)) (fun h => nomatch h)
    have hlxy := Paired.length hxy
    refine ⟨_, rfl, sml 2, fun tp htp => ?_⟩
    have s1 := Same.new (o := .tup [.ty "tuple", .ty "list"]) htp
    refine ⟨.ref b, tp, _, .type "list", _, true, rfl, upd_same, cls, .base (.lst (s1 _ _ hb)), ka, true, rfl, iteT ?_⟩
    refine ⟨_, rfl, sml 2, fun tp2 htp2 => ?_⟩
    have s2 := s1.trans (Same.new (o := .tup [.ty "tuple", .ty "list"]) htp2)
    refine ⟨.ref a, tp2, _, .type "list", _, true, rfl, upd_same, cls, .base (.lst (s2 _ _ ha)), ka, true, rfl, iteF ?_⟩
    refine ⟨_, rfl, _, .ty "list", .type "list", .type "list", true, rfl, .ty _, .base (.lst (s2 _ _ ha)), k_list_list, _, rfl, _, .ty "list", .type "list", .type "list", true, rfl, .ty _, .base (.lst (s2 _ _ hb)), k_list_list, rfl, _, rfl, iteF ?_⟩
    refine ⟨_, rfl, a, _, rfl, .inl (SqL.of (s2 _ _ ha)), _, rfl, b, _, rfl, .inl (SqL.of (s2 _ _ hb)), rfl, _, rfl, ?_⟩
    have enm : (!decide (V.int ((xs.length : Nat) : Int) = V.int ((ys.length : Nat) : Int))) = false := by rw [hlxy, decide_eq_true rfl]; rfl
    rw [enm]
    refine iteF ?_
    refine ⟨_, rfl, b, _, rfl, .inl (SqL.of (s2 _ _ hb)), _, rfl, by omega, by omega, fun D hD => ?_⟩
    generalize hH2 : upd (upd H tp (.tup [.ty "tuple", .ty "list"])) tp2 (.tup [.ty "tuple", .ty "list"]) = H2 at s2 hD ⊢
    refine lc_range (lo := 0) (n := ((ys.length : Nat) : Int).toNat) (fun i H' => Same H2 H' ∧ H' D = some (.lst [])) ⟨Same.new hD, upd_same⟩ ?_ ?_
    · rintro i H3 hi ⟨s3, e3⟩
      rw [Int.toNat_natCast] at hi
      obtain ⟨x, hx⟩ : ∃ x, xs[i]? = some x := ⟨_, List.getElem?_eq_getElem (by omega)⟩
      obtain ⟨y, hy, hxy1⟩ := Paired.get2 hxy hx
      have s23 := s2.trans s3
      refine ⟨rfl, _, rfl, _, rfl, a, _, (i : Int), _, rfl, congrArg V.int (Int.zero_add _), SqL.of (s23 _ _ ha), atI_nat hx, _, rfl, _, rfl, b, _, (i : Int), _, rfl, congrArg V.int (Int.zero_add _), SqL.of (s23 _ _ hb), atI_nat hy, x, y, rfl, hxy1.keep s23, fun H4 s4 => ⟨true, rfl, iteF ⟨s3.trans s4, s4 _ _ e3⟩⟩⟩
    · rintro H3 ⟨s3, e3⟩
      refine ⟨sml 0, fun l hl => ?_⟩
      have nDl : D ≠ l := ne_of_none e3 hl
      refine ⟨.list (([] : List Int).map PyData.int), .list [], .lst (SqL.of (by rw [upd_ne nDl]; exact e3)) (dpInts []), .lst (xs := []) (SqL.of upd_same) (dpInts []), intsShaped [], intsShaped [], ?_⟩
      rw [eqvNil]
      exact q _ (s2.trans (s3.trans (Same.new hl)))
  · 
    refine ⟨_, PSs.nox (pss_cons (ps_if (pt_val (pe_callB (r := rIsiT K) call_isiT (by rfl) T.z_isinstance (by decide +kernel) (pa_cons (pv 1) (pa_cons (pe_tup (pa_cons (pe_bltn (v := .ty "tuple") (by rfl) T.z_tuple (by decide +kernel) rfl) (pa_cons (pe_bltn (v := .ty "list") (by rfl) T.z_list (by decide +kernel) rfl) pa_nil))) pa_nil)))) (pss_cons (ps_if (PW.pt (pw_or (pt_not (pt_val (pe_callB (r := rIsiT K) call_isiT (by rfl) T.z_isinstance (by decide +kernel) (pa_cons (pv 0) (pa_cons (pe_tup (pa_cons (pe_bltn (v := .ty "tuple") (by rfl) T.z_tuple (by decide +kernel) rfl) (pa_cons (pe_bltn (v := .ty "list") (by rfl) T.z_list (by decide +kernel) rfl) pa_nil))) pa_nil))))) (pw_or1 (pt_cmpR op_ne (pe_callB (r := rIsi K) call_isi (by rfl) T.z_isinstance (by decide +kernel) (pa_cons (pv 0) (pa_cons (pe_bltn (v := .ty "list") (by rfl) T.z_list (by decide +kernel) rfl) pa_nil))) (pe_callB (r := rIsi K) call_isi (by rfl) T.z_isinstance (by decide +kernel) (pa_cons (pv 1) (pa_cons (pe_bltn (v := .ty "list") (by rfl) T.z_list (by decide +kernel) rfl) pa_nil))) (nomark _))))) (pss_one (ps_ret pe_bl)) pss_nil)
      (pss_cons (ps_if (pt_cmpR op_ne (pe_callB (r := Evl.rLenS K) call_len_seq (by rfl) T.z_len PySem.boot_len (pa_cons (pv 0) pa_nil)) (pe_callB (r := Evl.rLenS K) call_len_seq (by rfl) T.z_len PySem.boot_len (pa_cons (pv 1) pa_nil)) (nomark _)) (pss_one (ps_ret pe_bl)) pss_nil)
      (pss_one (ps_ret (pe_cmpR (r := rEqD K) (op_eqD hr.units) (pe_lc (own := [("_law_k", 2)]) rfl sc_law_alike.nd (pi_range1 (by rfl) T.z_range (pa_cons (pe_callB (r := Evl.rLenS K) call_len_seq (by rfl) T.z_len PySem.boot_len (pa_cons (pv 1) pa_nil)) pa_nil)) (blkOk_by (own := [("_law_k", 2)]) (N := ["_law_found", "_law_due", "_law_k"]) (sc := defScope s_law_alike) (by decide +kernel)) (fun _ _ _ _ _ => (pg_name (i := 2) sc_law_alike.nd rfl (by first | exact Or.inl rfl | exact Or.inr rfl))) (fun _ _ _ _ _ => pts_one (pt_not (pt_val (pe_call G_law_alike (hr.mono (by omega)) (by rfl) T.g_law_alike T.kp_law_alike T.b_law_alike .nil pass0 (pa_cons (pe_ix (r := rIxT K) ix_tup (pv 0) (pv 2) (fun _ _ => rfl)) (pa_cons (pe_ix (r := rIxT K) ix_tup (pv 1) (pv 2) (fun _ _ => rfl)) pa_nil)))))) (fun _ _ _ _ _ => (pv 2))) (pe_lst pa_nil) (nomark _)))))) pss_nil)
      (pss_cons (ps_if (pt_cmpR op_isN (pv 1) pe_non (nomark _)) (pss_one (ps_ret (pe_cmpR op_isN (pv 0) pe_non (nomark _)))) pss_nil)
      (pss_cons (ps_if (pt_val (pe_callB (r := rIsi K) call_isi (by rfl) T.z_isinstance (by decide +kernel) (pa_cons (pv 1) (pa_cons (pe_bltn (v := .ty "str") (by rfl) T.z_str (by decide +kernel) rfl) pa_nil)))) (pss_one (ps_ret (pe_and (pe_callB (r := rIsi K) call_isi (by rfl) T.z_isinstance (by decide +kernel) (pa_cons (pv 0) (pa_cons (pe_bltn (v := .ty "str") (by rfl) T.z_str (by decide +kernel) rfl) pa_nil))) (pe_one (pe_cmpR op_eq (pv 0) (pv 1) (nomark _)))))) pss_nil)
      (pss_cons (ps_if (PW.pt (pw_or (pt_val (pe_callB (r := rIsi K) call_isi (by rfl) T.z_isinstance (by decide +kernel) (pa_cons (pv 1) (pa_cons (pe_bltn (v := .ty "bool") (by rfl) T.z_bool (by decide +kernel) rfl) pa_nil)))) (pw_or1 (pt_val (pe_callB (r := rIsi K) call_isi (by rfl) T.z_isinstance (by decide +kernel) (pa_cons (pv 0) (pa_cons (pe_bltn (v := .ty "bool") (by rfl) T.z_bool (by decide +kernel) rfl) pa_nil))))))) (pss_one (ps_ret (pe_and (pe_callB (r := rIsi K) call_isi (by rfl) T.z_isinstance (by decide +kernel) (pa_cons (pv 1) (pa_cons (pe_bltn (v := .ty "bool") (by rfl) T.z_bool (by decide +kernel) rfl) pa_nil))) (pe_and (pe_callB (r := rIsi K) call_isi (by rfl) T.z_isinstance (by decide +kernel) (pa_cons (pv 0) (pa_cons (pe_bltn (v := .ty "bool") (by rfl) T.z_bool (by decide +kernel) rfl) pa_nil))) (pe_one (pe_cmpR op_eq (pv 0) (pv 1) (nomark _))))))) pss_nil)
      (pss_one (ps_ret (pe_and (pe_callB (r := rIsi K) call_isi (by rfl) T.z_isinstance (by decide +kernel) (pa_cons (pv 0) (pa_cons (pe_bltn (v := .ty "int") (by rfl) T.z_int (by decide +kernel) rfl) pa_nil))) (pe_one (pe_cmpR op_eq (pv 0) (pv 1) (nomark _)))))))))), ?_⟩
    have ka : PySem.W.kitAny K (.type "tuple") [.type "tuple", .type "list"] = some true := kitAny_cons k_tuple_tuple (fun h => nomatch h) (fun _ => rfl)
    have hlxy := Paired.length hxy
    refine ⟨_, rfl, sml 2, fun tp htp => ?_⟩
    have s1 := Same.new (o := .tup [.ty "tuple", .ty "list"]) htp
    refine ⟨.ref b, tp, _, .type "tuple", _, true, rfl, upd_same, cls, .base (.tup (s1 _ _ hb)), ka, true, rfl, iteT ?_⟩
    refine ⟨_, rfl, sml 2, fun tp2 htp2 => ?_⟩
    have s2 := s1.trans (Same.new (o := .tup [.ty "tuple", .ty "list"]) htp2)
    refine ⟨.ref a, tp2, _, .type "tuple", _, true, rfl, upd_same, cls, .base (.tup (s2 _ _ ha)), ka, true, rfl, iteF ?_⟩
    refine ⟨_, rfl, _, .ty "list", .type "tuple", .type "list", false, rfl, .ty _, .base (.tup (s2 _ _ ha)), k_tuple_list, _, rfl, _, .ty "list", .type "tuple", .type "list", false, rfl, .ty _, .base (.tup (s2 _ _ hb)), k_tuple_list, rfl, _, rfl, iteF ?_⟩
    refine ⟨_, rfl, a, _, rfl, .inr (SqT.of (s2 _ _ ha)), _, rfl, b, _, rfl, .inr (SqT.of (s2 _ _ hb)), rfl, _, rfl, ?_⟩
    have enm : (!decide (V.int ((xs.length : Nat) : Int) = V.int ((ys.length : Nat) : Int))) = false := by rw [hlxy, decide_eq_true rfl]; rfl
    rw [enm]
    refine iteF ?_
    refine ⟨_, rfl, b, _, rfl, .inr (SqT.of (s2 _ _ hb)), _, rfl, by omega, by omega, fun D hD => ?_⟩
    generalize hH2 : upd (upd H tp (.tup [.ty "tuple", .ty "list"])) tp2 (.tup [.ty "tuple", .ty "list"]) = H2 at s2 hD ⊢
    refine lc_range (lo := 0) (n := ((ys.length : Nat) : Int).toNat) (fun i H' => Same H2 H' ∧ H' D = some (.lst [])) ⟨Same.new hD, upd_same⟩ ?_ ?_
    · rintro i H3 hi ⟨s3, e3⟩
      rw [Int.toNat_natCast] at hi
      obtain ⟨x, hx⟩ : ∃ x, xs[i]? = some x := ⟨_, List.getElem?_eq_getElem (by omega)⟩
      obtain ⟨y, hy, hxy1⟩ := Paired.get2 hxy hx
      have s23 := s2.trans s3
      refine ⟨rfl, _, rfl, _, rfl, a, _, (i : Int), _, rfl, congrArg V.int (Int.zero_add _), SqT.of (s23 _ _ ha), atI_nat hx, _, rfl, _, rfl, b, _, (i : Int), _, rfl, congrArg V.int (Int.zero_add _), SqT.of (s23 _ _ hb), atI_nat hy, x, y, rfl, hxy1.keep s23, fun H4 s4 => ⟨true, rfl, iteF ⟨s3.trans s4, s4 _ _ e3⟩⟩⟩
    · rintro H3 ⟨s3, e3⟩
      refine ⟨sml 0, fun l hl => ?_⟩
      have nDl : D ≠ l := ne_of_none e3 hl
      refine ⟨.list (([] : List Int).map PyData.int), .list [], .lst (SqL.of (by rw [upd_ne nDl]; exact e3)) (dpInts []), .lst (xs := []) (SqL.of upd_same) (dpInts []), intsShaped [], intsShaped [], ?_⟩
      rw [eqvNil]
      exact q _ (s2.trans (s3.trans (Same.new hl)))
theorem ok_law_alike (T : Txt w K mg) : ∀ d : Nat, FnOk P w K mg base CX0 d (He.ga K "_law_alike") (fdOf K d_law_alike) ["_law_found", "_law_due"] (spAlike d)
  | 0 => fn0 fun vs H Q E ⟨_, _, _, h, _⟩ => h.elim
  | d + 1 => ok_law_alikeS T (ok_law_alike T d)
end
end K18

namespace K18
open PySem PySem.Spec PyProof.Rows L2 Ov
section
variable {P : Program} {w : World} {K : PySem.W.Frag} {mg : Str → Option Value} {base : Heap}
theorem sc_law_many : FnScope ["_law_leaf", "_law_many_here"] ["_law_leaf", "_law_many_here"] (defScope s_law_many) := ⟨rfl, rfl, rfl, by decide +kernel, rfl, by decide +kernel, by decide +kernel⟩
-- 0 _law_leaf, 1 _law_many_here
theorem ok_law_many (T : Txt w K mg) : ∀ k : Nat, FnOk P w K mg base CX0 (k + 1) (He.ga K "_law_many") (fdOf K d_law_many) ["_law_leaf", "_law_many_here"] (spMany k) := by
  intro k
  induction k with
  | zero =>
    have G_law_many : FnOk P w K mg base CX0 0 (He.ga K "_law_many") (fdOf K d_law_many) ["_law_leaf", "_law_many_here"] (fun _ _ _ _ => False) := fn0 fun _ _ _ _ h => h
    refine T.F_law_many.ok sc_law_many (fun vs H Q E h => ?_) (fun cdv A outer s H vs Q E hr h => ?_)
    · obtain ⟨v, u, n, rfl, _⟩ := h
      rfl
    obtain ⟨v, u, n, rfl, hw, h1, h2, h3, q⟩ := h
    obtain rfl : n = 1 := by
      have : n ≤ 1 := h2
      omega
    refine ⟨_, PSs.nox (pss_cons (ps_if (pt_cmpR op_eq (pv 1) pe_int (nomark _)) (pss_one (ps_ret (pv 0))) pss_nil)
      (pss_one (ps_ret (pe_tup (pa_cons pe_str (pa_cons (pe_call G_law_many (hr.mono (by omega)) (by rfl) T.g_law_many T.kp_law_many T.b_law_many .nil pass0 (pa_cons (pv 0) (pa_cons (pe_op op_fdiv (pv 1) pe_int) pa_nil))) (pa_cons (pe_call G_law_many (hr.mono (by omega)) (by rfl) T.g_law_many T.kp_law_many T.b_law_many .nil pass0 (pa_cons (pv 0) (pa_cons (pe_op op_sub (pv 1) (pe_op op_fdiv (pv 1) pe_int)) pa_nil))) pa_nil))))))), ?_⟩
    exact ⟨_, rfl, rfl, _, rfl, iteT ⟨_, rfl, q H v (Same.refl H) hw⟩⟩
  | succ k ih =>
    have G_law_many := ih
    refine T.F_law_many.ok sc_law_many (fun vs H Q E h => ?_) (fun cdv A outer s H vs Q E hr h => ?_)
    · obtain ⟨v, u, n, rfl, _⟩ := h
      rfl
    obtain ⟨v, u, n, rfl, hw, h1, h2, h3, q⟩ := h
    refine ⟨_, PSs.nox (pss_cons (ps_if (pt_cmpR op_eq (pv 1) pe_int (nomark _)) (pss_one (ps_ret (pv 0))) pss_nil)
      (pss_one (ps_ret (pe_tup (pa_cons pe_str (pa_cons (pe_call G_law_many (hr.mono (by omega)) (by rfl) T.g_law_many T.kp_law_many T.b_law_many .nil pass0 (pa_cons (pv 0) (pa_cons (pe_op op_fdiv (pv 1) pe_int) pa_nil))) (pa_cons (pe_call G_law_many (hr.mono (by omega)) (by rfl) T.g_law_many T.kp_law_many T.b_law_many .nil pass0 (pa_cons (pv 0) (pa_cons (pe_op op_sub (pv 1) (pe_op op_fdiv (pv 1) pe_int)) pa_nil))) pa_nil))))))), ?_⟩
    refine ⟨_, rfl, rfl, _, rfl, ?_⟩
    by_cases c : n = 1
    · subst c
      exact iteT ⟨_, rfl, q H v (Same.refl H) hw⟩
    have ef : decide (V.int (n : Int) = V.int 1) = false := decide_eq_false fun z => c (by
      have := V.int.inj z
      omega)
    show if decide (V.int (n : Int) = V.int 1) = true then _ else _
    rw [ef]
    refine iteF ?_
    have e2 : (n : Int) / 2 = ((n / 2 : Nat) : Int) := by omega
    have p2 : 2 ^ (k + 1) = 2 * 2 ^ k := by rw [Nat.pow_succ, Nat.mul_comm]
    refine ⟨_, rfl, _, rfl, _, _, rfl, rfl, ⟨by decide, by decide⟩, v, u, n / 2, by rw [← e2]; rfl, hw, by omega, by omega, by omega, fun H1 y1 s1 w1 => ?_⟩
    refine ⟨_, rfl, _, rfl, _, rfl, _, _, rfl, rfl, ⟨by decide, by decide⟩, _, _, rfl, rfl, v, u, n - n / 2, ?_, hw.keep (Keep.same s1), by omega, by omega, by omega, fun H2 y2 s2 w2 => ?_⟩
    · show [v, V.int ((n : Int) - (n : Int) / 2)] = _
      rw [show (n : Int) - (n : Int) / 2 = ((n - n / 2 : Nat) : Int) by omega]
    refine mkW .plus 0 rfl (.cons (w1.keep (Keep.same s2)) (.cons w2 .nil)) (sml 3) fun H3 t s3 _ w3 => q H3 _ (s1.trans (s2.trans s3)) ?_
    show WAt H3 _ (if n ≤ 1 then u else _)
    rw [if_neg (by omega)]
    exact w3
theorem sc_law_sum : FnScope ["_law_trees", "_law_half"] ["_law_trees"] (defScope s_law_sum) := ⟨rfl, rfl, rfl, by decide +kernel, rfl, by decide +kernel, by decide +kernel⟩
-- 0 _law_trees, 1 _law_half
theorem ok_law_sum (T : Txt w K mg) : ∀ k : Nat, FnOk P w K mg base CX0 (k + 1) (He.ga K "_law_sum") (fdOf K d_law_sum) ["_law_trees"] (spSum k) := by
  intro k
  induction k with
  | zero =>
    have G_law_sum : FnOk P w K mg base CX0 0 (He.ga K "_law_sum") (fdOf K d_law_sum) ["_law_trees"] (fun _ _ _ _ => False) := fn0 fun _ _ _ _ h => h
    refine T.F_law_sum.ok sc_law_sum (fun vs H Q E h => ?_) (fun cdv A outer s H vs Q E hr h => ?_)
    · obtain ⟨a, xs, ws, rfl, _⟩ := h
      rfl
    obtain ⟨a, xs, ws, rfl, ha, hw, h1, h2, h3, q⟩ := h
    have hl := hw.length
    refine ⟨_, PSs.nox (pss_cons (ps_if (pt_cmpR op_eq (pe_callB (r := Evl.rLenS K) call_len_seq (by rfl) T.z_len PySem.boot_len (pa_cons (pv 0) pa_nil)) pe_int (nomark _)) (pss_one (ps_ret (pe_ix (r := rIxL K) ix_list (pv 0) pe_int (fun _ _ => rfl)))) pss_nil)
      (pss_cons (ps_set (i := 1) sc_law_sum.nd rfl (by first | exact Or.inl rfl | exact Or.inr rfl) (pe_op op_fdiv (pe_callB (r := Evl.rLenS K) call_len_seq (by rfl) T.z_len PySem.boot_len (pa_cons (pv 0) pa_nil)) pe_int))
      (pss_one (ps_ret (pe_tup (pa_cons pe_str (pa_cons (pe_call G_law_sum (hr.mono (by omega)) (by rfl) T.g_law_sum T.kp_law_sum T.b_law_sum .nil pass0 (pa_cons (pe_slice (r := rSlL K) sl_list (pv 0) po_none (po_some (pv 1))) pa_nil)) (pa_cons (pe_call G_law_sum (hr.mono (by omega)) (by rfl) T.g_law_sum T.kp_law_sum T.b_law_sum .nil pass0 (pa_cons (pe_slice (r := rSlL K) sl_list (pv 0) (po_some (pv 1)) po_none) pa_nil)) pa_nil)))))))), ?_⟩
    match xs, ws, hw, h1, h2 with
    | [], _, .nil, h1, _ => exact absurd h1 (by decide)
    | [x], [u], .cons hx .nil, _, _ =>
      exact ⟨_, rfl, a, _, rfl, .inl (SqL.of ha), rfl, _, rfl, iteT ⟨_, rfl, a, _, 0, _, rfl, rfl, SqL.of ha, atI_nat (j := 0) rfl, q H x (Same.refl H) hx⟩⟩
    | _ :: _ :: _, _ :: _ :: _, .cons _ (.cons _ _), _, h2 =>
      simp only [List.length_cons, Nat.pow_zero] at h2
      omega
  | succ k ih =>
    have G_law_sum := ih
    refine T.F_law_sum.ok sc_law_sum (fun vs H Q E h => ?_) (fun cdv A outer s H vs Q E hr h => ?_)
    · obtain ⟨a, xs, ws, rfl, _⟩ := h
      rfl
    obtain ⟨a, xs, ws, rfl, ha, hw, h1, h2, h3, q⟩ := h
    have hl := hw.length
    refine ⟨_, PSs.nox (pss_cons (ps_if (pt_cmpR op_eq (pe_callB (r := Evl.rLenS K) call_len_seq (by rfl) T.z_len PySem.boot_len (pa_cons (pv 0) pa_nil)) pe_int (nomark _)) (pss_one (ps_ret (pe_ix (r := rIxL K) ix_list (pv 0) pe_int (fun _ _ => rfl)))) pss_nil)
      (pss_cons (ps_set (i := 1) sc_law_sum.nd rfl (by first | exact Or.inl rfl | exact Or.inr rfl) (pe_op op_fdiv (pe_callB (r := Evl.rLenS K) call_len_seq (by rfl) T.z_len PySem.boot_len (pa_cons (pv 0) pa_nil)) pe_int))
      (pss_one (ps_ret (pe_tup (pa_cons pe_str (pa_cons (pe_call G_law_sum (hr.mono (by omega)) (by rfl) T.g_law_sum T.kp_law_sum T.b_law_sum .nil pass0 (pa_cons (pe_slice (r := rSlL K) sl_list (pv 0) po_none (po_some (pv 1))) pa_nil)) (pa_cons (pe_call G_law_sum (hr.mono (by omega)) (by rfl) T.g_law_sum T.kp_law_sum T.b_law_sum .nil pass0 (pa_cons (pe_slice (r := rSlL K) sl_list (pv 0) (po_some (pv 1)) po_none) pa_nil)) pa_nil)))))))), ?_⟩
    refine ⟨_, rfl, a, _, rfl, .inl (SqL.of ha), rfl, _, rfl, ?_⟩
    by_cases c : ws.length = 1
    · obtain ⟨u, rfl⟩ := List.length_eq_one_iff.mp c
      cases hw with
      | cons hx hn =>
        cases hn
        exact iteT ⟨_, rfl, a, _, 0, _, rfl, rfl, SqL.of ha, atI_nat (j := 0) rfl, q H _ (Same.refl H) hx⟩
    have ef : decide (V.int ((xs.length : Nat) : Int) = V.int 1) = false := decide_eq_false fun z => c (by
      have := V.int.inj z
      omega)
    show if decide (V.int ((xs.length : Nat) : Int) = V.int 1) = true then _ else _
    rw [ef]
    refine iteF ?_
    have e2 : ((xs.length : Nat) : Int) / 2 = ((ws.length / 2 : Nat) : Int) := by omega
    have p2 : 2 ^ (k + 1) = 2 * 2 ^ k := by rw [Nat.pow_succ, Nat.mul_comm]
    refine ⟨_, rfl, a, _, rfl, .inl (SqL.of ha), _, _, rfl, rfl, ⟨by decide, by decide⟩, ?_⟩
    have eV : ((fun i j => V.int (i / j)) ((xs.length : Nat) : Int) 2 : V) = V.int ((ws.length / 2 : Nat) : Int) := congrArg V.int e2
    rw [eV]
    refine ⟨_, rfl, _, rfl, ((ws.length / 2 : Nat) : Int), rfl, a, _, rfl, SqL.of ha, fun c1 hc1 => ?_⟩
    rw [cut_to _ (ws.length / 2) (by omega)]
    have s1 := Same.new (o := .lst (xs.take (ws.length / 2))) hc1
    refine ⟨c1, xs.take (ws.length / 2), ws.take (ws.length / 2), rfl, upd_same, (hw.take _).keep (Keep.same s1), by rw [List.length_take]; omega, by rw [List.length_take]; omega, by rw [List.length_take]; omega, fun H1 y1 s2 w1 => ?_⟩
    have ha1 := s2 _ _ (s1 _ _ ha)
    refine ⟨_, rfl, _, rfl, ((ws.length / 2 : Nat) : Int), rfl, a, _, rfl, SqL.of ha1, fun c2 hc2 => ?_⟩
    rw [cut_from _ (ws.length / 2) (by omega)]
    have s3 := Same.new (o := .lst (xs.drop (ws.length / 2))) hc2
    have s13 := s1.trans (s2.trans s3)
    refine ⟨c2, xs.drop (ws.length / 2), ws.drop (ws.length / 2), rfl, upd_same, (hw.drop _).keep (Keep.same s13), by rw [List.length_drop]; omega, by rw [List.length_drop]; omega, by rw [List.length_drop]; omega, fun H2 y2 s4 w2 => ?_⟩
    refine mkW .plus 0 rfl (.cons (w1.keep (Keep.same (s3.trans s4))) (.cons w2 .nil)) (sml 3) fun H3 t s5 _ w3 => q H3 _ (s13.trans (s4.trans s5)) ?_
    show WAt H3 _ (if ws.length ≤ 1 then _ else _)
    rw [if_neg (by omega)]
    exact w3
end
end K18

namespace K18
open PySem PySem.Spec PyProof.Rows L2 Ov
section
variable {P : Program} {w : World} {K : PySem.W.Frag} {mg : Str → Option Value} {base : Heap}
theorem sc_law_all : FnScope ["_law_program", "_law_number", "_law_told", "_law_parts", "_law_found", "_law_k"] ["_law_program", "_law_number"] (defScope s_law_all) := ⟨rfl, rfl, rfl, by decide +kernel, rfl, by decide +kernel, by decide +kernel⟩
-- 0 _law_program, 1 _law_number, 2 _law_told, 3 _law_parts, 4 _law_found, 5 _law_k
theorem ok_law_all (T : Txt w K mg) (hP : P = R.prog) : FnOk P w K mg base CX0 117 (He.ga K "_law_all") (fdOf K d_law_all) ["_law_program", "_law_number"] spAll := by
  have G_run := ok_run (P := P) (base := base) T
  have G_run_in := ok_run_in (P := P) (base := base) T hP
  refine T.F_law_all.ok sc_law_all (fun vs H Q E h => ?_) (fun cdv A outer s H vs Q E hr h => ?_)
  · obtain ⟨v, pr, z, rfl, _⟩ := h
    rfl
  obtain ⟨v, pr, z, rfl, hpr, hB, hz0, hz1, q⟩ := h
  obtain ⟨hok, hqu⟩ := prOkB_ok hB
  obtain ⟨hcode, hsaid⟩ := evR_code hqu z
  refine ⟨_, PSs.nox (pss_cons (ps_set (i := 2) sc_law_all.nd rfl (by first | exact Or.inl rfl | exact Or.inr rfl) (pe_call G_run (hr.mono (by omega)) (by rfl) T.g_run T.kp_run T.b_run .nil pass0 (pa_cons (pv 0) (pa_cons (pv 1) pa_nil))))
      (pss_cons (ps_set (i := 3) sc_law_all.nd rfl (by first | exact Or.inl rfl | exact Or.inr rfl) (pe_tup (pa_cons (pe_callTy (r := Ov.rTupS K) call_tuple_of (by rfl) T.z_tuple (by decide +kernel) (pa_cons (pe_lc (own := [("_law_k", 5)]) rfl sc_law_all.nd (pi_range1 (by rfl) T.z_range (pa_cons (pe_callB (r := Evl.rLenS K) call_len_seq (by rfl) T.z_len PySem.boot_len (pa_cons (pv 0) pa_nil)) pa_nil)) (blkOk_by (own := [("_law_k", 5)]) (N := ["_law_program", "_law_number", "_law_told", "_law_parts", "_law_found", "_law_k"]) (sc := defScope s_law_all) (by decide +kernel)) (fun _ _ _ _ _ => (pg_name (i := 5) sc_law_all.nd rfl (by first | exact Or.inl rfl | exact Or.inr rfl))) (fun _ _ _ _ _ => pts_nil) (fun _ _ _ _ _ => (pe_tup (pa_cons (pv 5) pa_nil)))) pa_nil)) (pa_cons (pe_op (r := Ov.rRepTA K) op_repTA (pe_tup (pa_cons (pe_un un_neg pe_int) pa_nil)) (pe_callB (r := Evl.rLenS K) call_len_seq (by rfl) T.z_len PySem.boot_len (pa_cons (pv 0) pa_nil))) pa_nil))))
      (pss_cons (ps_set (i := 4) sc_law_all.nd rfl (by first | exact Or.inl rfl | exact Or.inr rfl) (pe_call G_run_in (hr.mono (by omega)) (by rfl) T.g_run_in T.kp_run_in T.b_run_in .nil pass0 (pa_cons (pv 0) (pa_cons (pv 3) (pa_cons pe_int (pa_cons (pv 1) pa_nil))))))
      (pss_one (ps_ret (pe_ifExp (pt_cmpR (r := rEqD K) (op_eqD hr.units) (pe_slice (r := rSlA K) sl_tupA (pv 4) po_none (po_some pe_int)) (pv 2) (nomark _)) (pv 2) pe_non)))))), ?_⟩
  have l8 := hok.l8
  have l1 := hok.l1
  refine ⟨_, rfl, _, rfl, v, pr, z, rfl, hpr, hok, hz0, hz1, fun H1 r t sa s1 nsa er et es => ?_⟩
  rw [hcode] at et
  rw [hsaid] at es
  have hpr1 := hpr.keep (Keep.same s1)
  have hpr0 := hpr1
  obtain ⟨pa, vp, rfl, hpa, hpf⟩ := hpr1
  have hpl : vp.length = pr.length := Paired.length hpf
  refine ⟨_, rfl, pa, _, rfl, .inr (SqT.of hpa), (vp.length : Int), rfl, by omega, by omega, fun D hD => ?_⟩
  refine lc_rangeY (lo := 0) (n := ((vp.length : Int)).toNat) (fun k H' => ∃ acc : List V, Same H1 H' ∧ H' D = some (.lst acc) ∧ Paired (PartAt H') acc (apart k)) ⟨[], Same.new hD, upd_same, .nil⟩ ?_ ?_
  · rintro k H2 hk ⟨acc, s2, eD, hacc⟩
    rw [Int.toNat_natCast] at hk
    have hal := Paired.length hacc
    unfold apart at hal
    rw [List.length_map, List.length_range] at hal
    refine ⟨rfl, _, rfl, sml 1, fun t1 ht1 => ?_⟩
    have s3 := Same.new (o := .tup [.int (0 + (k : Int))]) ht1
    refine ⟨acc, s3 _ _ eD, sm _ (by omega), acc ++ [.ref t1], Ov.Same.updn (s2.trans s3) hD, upd_same, ?_⟩
    have kB := Keep.updL (ys := acc ++ [V.ref t1]) (s3 _ _ eD)
    have ea : apart (k + 1) = apart k ++ [[k]] := by
      unfold apart
      rw [List.range_succ, List.map_append]
      rfl
    rw [ea]
    refine PySem.Paired.snoc (L2.Paired.mapP hacc fun _ _ z => (z.keep (Keep.same s3)).keep kB) ⟨t1, rfl, kB _ _ ?_⟩
    rw [upd_same, Int.zero_add]
    rfl
  rintro H2 ⟨acc, s2, eD, hacc⟩
  rw [Int.toNat_natCast, hpl] at hacc
  refine ⟨D, acc, rfl, .inl ⟨SqL.of eD, fun pt hpt => ?_⟩⟩
  have s3 := Same.new (o := .tup acc) hpt
  have ept : upd H2 pt (.tup acc) pt = some (.tup acc) := upd_same
  generalize upd H2 pt (.tup acc) = H3 at s3 ept ⊢
  refine ⟨_, rfl, sml 1, fun m1 hm1 => ?_⟩
  have s4 := Same.new (o := .tup [.int (-1)]) hm1
  have em1 : upd H3 m1 (.tup [.int (-1)]) m1 = some (.tup [.int (-1)]) := upd_same
  generalize upd H3 m1 (.tup [.int (-1)]) = H4 at s4 em1 ⊢
  have s14 := s2.trans (s3.trans s4)
  refine ⟨_, rfl, pa, _, rfl, .inr (SqT.of (s14 _ _ hpa)), ?_⟩
  refine repTA_by (n := vp.length) (SqT.of em1) (by omega) (by omega) (fun H5 ps s5 eps => ?_) em1
  rw [hpl] at eps
  refine ⟨sml 2, fun tr htr => ?_⟩
  have s6 := Same.new (o := .tup [.ref pt, .ref ps]) htr
  have s16 := s14.trans (s5.trans s6)
  have s46 := s4.trans (s5.trans s6)
  have hto := apart_ok pr.length
  have hpre : preT (upd H5 tr (.tup [.ref pt, .ref ps])) (.ref pa) (.ref tr) pr (apart pr.length) (List.replicate pr.length (-1)) :=
    ⟨hpr0.keep (Keep.same s16), hok, ⟨tr, pt, ps, acc, rfl, upd_same, s46 _ _ ept, L2.Paired.mapP hacc fun _ _ z => z.keep (Keep.same (s3.trans s46)), s6 _ _ eps⟩, hto⟩
  generalize upd H5 tr (.tup [.ref pt, .ref ps]) = H6 at s6 s16 s46 hpre ⊢
  obtain ⟨dn, hdn⟩ := hto.dn
  obtain ⟨m, hfar⟩ := far_is (pr := pr) (dn := dn) (ps := apart pr.length) (fun z => by
    have := congrArg List.length z
    unfold apart at this
    rw [List.length_map, List.length_range, List.length_nil] at this
    omega)
  obtain ⟨hm1, hm64⟩ := far_le hok hto hdn hfar
  refine ⟨_, rfl, _, rfl, _, rfl, .ref pa, .ref tr, pr, _, _, dn, m, 64, z, rfl, hpre, hdn, hfar, by omega, by decide, hz0, hz1, fun H7 rr tt sa2 cs s7 nsa2 err ett esa2 _ _ => ?_⟩
  rw [hcode] at ett
  rw [hsaid] at esa2
  have s17 := s16.trans s7
  refine ⟨_, rfl, 2, rfl, rr, _, rfl, SqT.of err, (fun z => absurd z.2 (by
    show ¬ HT.sIx 3 3 (some ((2 : Nat) : Int)) = 3
    rw [HT.sIx_nat]
    decide)), fun _ p hp => ?_⟩
  have s8 := Same.new (o := .tup (cutV [.ref tt, .ref sa2, V.int ((Ov.inR pr (apart pr.length) dn cs 64 z : Nat) : Int)] none (some 2))) hp
  have ecut : cutV [V.ref tt, .ref sa2, V.int ((Ov.inR pr (apart pr.length) dn cs 64 z : Nat) : Int)] none (some 2) = [.ref tt, .ref sa2] := cut_to _ 2 (by show 2 ≤ 3; decide)
  rw [ecut] at s8
  have er8 := s8 _ _ (s17 _ _ er)
  have et8 := s8 _ _ (s17 _ _ et)
  have es8 := s8 _ _ (s17 _ _ es)
  have ett8 := s8 _ _ ett
  have esa8 := s8 _ _ esa2
  have ep : upd H7 p (.tup [.ref tt, .ref sa2]) p = some (.tup [.ref tt, .ref sa2]) := upd_same
  rw [ecut]
  have hD : ∀ c : Nat × Int, ∃ d : PyData, Dp K (upd H7 p (.tup [.ref tt, .ref sa2])) (codeD c).2 d ∧ SeqAt.shaped (.tuple [.tuple [.str (codeD c).1, d], .list []]) = true ∧ PyData.eqv (.tuple [.tuple [.str (codeD c).1, d], .list []]) (.tuple [.tuple [.str (codeD c).1, d], .list []]) = true := fun c => by
    match c with
    | (0, z) => exact ⟨.int z, .int z, by simp [codeD, SeqAt.shaped, PyData.depth, PyData.depthAll, PyData.canLay0, PyData.canLayAll0, show PyData.strOk (Str.ofString "number") = true by decide +kernel], by simp [PyData.eqv, PyData.eqvAll]⟩
    | (1, z) => exact ⟨.int z, .int z, by simp [codeD, SeqAt.shaped, PyData.depth, PyData.depthAll, PyData.canLay0, PyData.canLayAll0, show PyData.strOk (Str.ofString "way") = true by decide +kernel], by simp [PyData.eqv, PyData.eqvAll]⟩
    | (n + 2, k) =>
      refine ⟨.str (if k = 0 then "kind" else if k = 1 then "deep" else "long"), .str _, ?_, by simp [PyData.eqv, PyData.eqvAll]⟩
      have h1 : PyData.strOk (Str.ofString "fault") = true := by decide +kernel
      have h2 : PyData.strOk (if k = 0 then (Str.ofString "kind") else if k = 1 then (Str.ofString "deep") else (Str.ofString "long")) = true := by
        split
        · decide +kernel
        · split <;> decide +kernel
      simp [codeD, SeqAt.shaped, PyData.depth, PyData.depthAll, PyData.canLay0, PyData.canLayAll0, h1, h2]
  obtain ⟨d, hd, hsh, heq⟩ := hD (evFD pr z)
  refine ⟨_, rfl, _, _, .tup (SqT.of ep) (.cons (.tup (SqT.of ett8) (.cons (.str _) (.cons hd .nil))) (.cons (.lst (xs := []) (SqL.of esa8) .nil) .nil)), .tup (SqT.of er8) (.cons (.tup (SqT.of et8) (.cons (.str _) (.cons hd .nil))) (.cons (.lst (xs := []) (SqL.of es8) .nil) .nil)), hsh, hsh, _, rfl, ?_⟩
  rw [heq]
  exact iteT ⟨_, rfl, q _ r t sa (s1.trans (s17.trans s8)) er8 et8 es8⟩
end
end K18

namespace K18
open PySem PySem.Spec PyProof.Rows L2 Ov
section
variable {P : Program} {w : World} {K : PySem.W.Frag} {mg : Str → Option Value} {base : Heap}
theorem sc_law_ends : FnScope ["_law_shallow", "_law_down", "_law_last", "_law_calls", "_law_k"] ["_law_shallow", "_law_down", "_law_last"] (defScope s_law_ends) := ⟨rfl, rfl, rfl, by decide +kernel, rfl, by decide +kernel, by decide +kernel⟩
-- 0 _law_shallow, 1 _law_down, 2 _law_last, 3 _law_calls, 4 _law_k
theorem ok_law_ends (T : Txt w K mg) : FnOk P w K mg base CX0 1 (He.ga K "_law_ends") (fdOf K d_law_ends) ["_law_shallow", "_law_down", "_law_last"] spEnds := by
  refine T.F_law_ends.ok sc_law_ends (fun vs H Q E h => ?_) (fun cdv A outer s H vs Q E hr h => ?_)
  · obtain ⟨s, d, l, rfl, _⟩ := h
    rfl
  obtain ⟨sh, d, l, rfl, hd, hs, q⟩ := h
  refine ⟨_, PSs.nox (pss_cons (ps_set (i := 3) sc_law_ends.nd rfl (by first | exact Or.inl rfl | exact Or.inr rfl) (pv 0))
      (pss_cons (ps_for PassesOwn.never rfl (pi_range1 (by rfl) T.z_range (pa_cons (pe_op op_add (pv 1) pe_int) pa_nil)) (pg_name (i := 4) sc_law_ends.nd rfl (by first | exact Or.inl rfl | exact Or.inr rfl)) (pss_cons (ps_if (PW.pt (pw_or (pt_cmpR op_gt (pv 4) pe_int (nomark _)) (pw_or1 (pt_cmpR op_gt (pv 3) pe_int (nomark _))))) (pss_one (ps_ret (pe_tup (pa_cons pe_str (pa_cons (pe_ifExp (pt_cmpR op_gt (pv 4) pe_int (nomark _)) pe_str pe_str) pa_nil))))) pss_nil)
      (pss_one (ps_set (i := 3) sc_law_ends.nd rfl (by first | exact Or.inl rfl | exact Or.inr rfl) (pe_op op_add (pv 3) pe_int)))))
      (pss_cons (ps_if (pt_cmpR op_eq (pv 2) pe_int (nomark _)) (pss_one (ps_ret (pe_tup (pa_cons pe_str (pa_cons pe_str pa_nil))))) pss_nil)
      (pss_cons (ps_if (PW.pt (pw_or (pt_cmpR op_gt (pv 1) pe_int (nomark _)) (pw_or1 (pt_cmpR op_gt (pv 3) pe_int (nomark _))))) (pss_one (ps_ret (pe_tup (pa_cons pe_str (pa_cons (pe_ifExp (pt_cmpR op_gt (pv 1) pe_int (nomark _)) pe_str pe_str) pa_nil))))) pss_nil)
      (pss_one (ps_ret (pe_tup (pa_cons pe_str (pa_cons (pe_op op_add (pv 1) pe_int) pa_nil))))))))), ?_⟩
  refine ⟨_, rfl, _, rfl, _, _, rfl, rfl, ((d + 1 : Nat) : Int), by rw [Int.natCast_add]; rfl, by omega, by omega, ?_⟩
  have flt : ∀ (H1 : Hp) (b : Bool), Same H H1 → codeD (due3 sh d l) = ((("fault" : Str), V.str (if b = true then "deep" else "long")) : Str × V) → (2 ≤ sizeLine ∧ ∀ p, H1 p = none → Q (.ref p) (upd H1 p (.tup [.str "fault", .str (if b = true then "deep" else "long")]))) := fun H1 b s1 e => ⟨sml 2, fun t ht => q _ t (s1.trans (Same.new ht)) (Same.free s1 ht) (by rw [upd_same, e])⟩
  refine for_range (lo := 0) (n := (((d + 1 : Nat) : Int)).toNat) (fun k σ' H' => ∃ y4 : Option V, σ' = [some (.int (sh : Int)), some (.int (d : Int)), some (.int (l : Int)), some (.int ((sh + k : Nat) : Int)), y4] ∧ H' = H ∧ ∀ j, j < k → over3 sh j = false) ⟨none, rfl, rfl, fun j hj => absurd hj (by omega)⟩ ?_ ?_
  · rintro k σ' H1 hk ⟨y4, rfl, rfl, hj⟩
    rw [Int.toNat_natCast] at hk
    refine ⟨_, rfl, _, _, rfl, rfl, _, rfl, ?_⟩
    rw [Int.zero_add]
    by_cases h11 : 11 < k
    · rw [decide_eq_true (show (11 : Int) < (k : Int) by omega)]
      have ho : over3 sh k = true := by unfold over3; rw [decide_eq_true h11]; rfl
      have ef : (List.range (d + 1)).find? (over3 sh) = some k := List.find?_range_eq_some.mpr ⟨ho, List.mem_range.mpr (by omega), fun j h => by rw [hj j h]; rfl⟩
      refine iteT (iteT ⟨_, rfl, _, _, rfl, rfl, _, rfl, ?_⟩)
      rw [decide_eq_true (show (11 : Int) < (k : Int) by omega)]
      refine iteT (flt H1 true (Same.refl _) ?_)
      unfold due3
      rw [ef]
      show codeD (2, if 11 < k then 1 else 2) = _
      rw [if_pos h11]
      rfl
    · rw [decide_eq_false (show ¬ (11 : Int) < (k : Int) by omega)]
      refine iteF ⟨_, rfl, _, _, rfl, rfl, _, rfl, ?_⟩
      by_cases h199 : 199 < sh + k
      · rw [decide_eq_true (show (199 : Int) < ((sh + k : Nat) : Int) by omega)]
        have ho : over3 sh k = true := by unfold over3; rw [decide_eq_true h199, Bool.or_true]
        have ef : (List.range (d + 1)).find? (over3 sh) = some k := List.find?_range_eq_some.mpr ⟨ho, List.mem_range.mpr (by omega), fun j h => by rw [hj j h]; rfl⟩
        refine iteT ⟨_, rfl, _, _, rfl, rfl, _, rfl, ?_⟩
        rw [decide_eq_false (show ¬ (11 : Int) < (k : Int) by omega)]
        refine iteF (flt H1 false (Same.refl _) ?_)
        unfold due3
        rw [ef]
        show codeD (2, if 11 < k then 1 else 2) = _
        rw [if_neg h11]
        rfl
      · rw [decide_eq_false (show ¬ (199 : Int) < ((sh + k : Nat) : Int) by omega)]
        refine iteF ⟨_, rfl, _, _, rfl, rfl, some (.int (k : Int)), ?_, rfl, fun j h => ?_⟩
        · rw [show ((sh + (k + 1) : Nat) : Int) = ((sh + k : Nat) : Int) + 1 by omega]
          rfl
        · by_cases c : j < k
          · exact hj j c
          · obtain rfl : j = k := by omega
            unfold over3
            rw [decide_eq_false h11, decide_eq_false h199]
            rfl
  · rintro σ' H1 ⟨y4, rfl, rfl, hj⟩
    rw [Int.toNat_natCast] at hj
    have ef : (List.range (d + 1)).find? (over3 sh) = none := List.find?_range_eq_none.mpr fun j h => by rw [hj j h]; rfl
    rw [Int.toNat_natCast]
    refine ⟨_, rfl, rfl, _, rfl, ?_⟩
    by_cases hl : l = 0
    · subst hl
      refine iteT ⟨sml 2, fun t ht => q _ t (Same.new ht) ht ?_⟩
      unfold due3
      rw [ef, upd_same]
      rfl
    have e0 : decide (V.int (l : Int) = V.int 0) = false := decide_eq_false fun z => hl (by
      have := V.int.inj z
      omega)
    show if decide (V.int (l : Int) = V.int 0) = true then _ else _
    rw [e0]
    refine iteF ⟨_, rfl, _, _, rfl, rfl, _, rfl, ?_⟩
    by_cases h10 : 10 < d
    · rw [decide_eq_true (show (10 : Int) < (d : Int) by omega)]
      refine iteT (iteT ⟨_, rfl, _, _, rfl, rfl, _, rfl, ?_⟩)
      rw [decide_eq_true (show (10 : Int) < (d : Int) by omega)]
      refine iteT (flt H1 true (Same.refl _) ?_)
      unfold due3
      rw [ef]
      show codeD (if l = 0 then _ else if 10 < d ∨ 199 < sh + d + 1 then (2, if 10 < d then 1 else 2) else _) = _
      rw [if_neg hl, if_pos (.inl h10), if_pos h10]
      rfl
    · rw [decide_eq_false (show ¬ (10 : Int) < (d : Int) by omega)]
      refine iteF ⟨_, rfl, _, _, rfl, rfl, _, rfl, ?_⟩
      by_cases h199 : 199 < sh + d + 1
      · rw [decide_eq_true (show (199 : Int) < ((sh + (d + 1) : Nat) : Int) by omega)]
        refine iteT ⟨_, rfl, _, _, rfl, rfl, _, rfl, ?_⟩
        rw [decide_eq_false (show ¬ (10 : Int) < (d : Int) by omega)]
        refine iteF (flt H1 false (Same.refl _) ?_)
        unfold due3
        rw [ef]
        show codeD (if l = 0 then _ else if 10 < d ∨ 199 < sh + d + 1 then (2, if 10 < d then 1 else 2) else _) = _
        rw [if_neg hl, if_pos (.inr h199), if_neg h10]
        rfl
      · rw [decide_eq_false (show ¬ (199 : Int) < ((sh + (d + 1) : Nat) : Int) by omega)]
        refine iteF ⟨_, rfl, _, _, rfl, rfl, sml 2, fun t ht => q _ t (Same.new ht) ht ?_⟩
        unfold due3
        rw [ef, upd_same]
        show _ = some (HO.tup [.str (codeD (if l = 0 then _ else if 10 < d ∨ 199 < sh + d + 1 then (2, if 10 < d then 1 else 2) else (0, (d : Int) + 1))).1, (codeD (if l = 0 then _ else if 10 < d ∨ 199 < sh + d + 1 then (2, if 10 < d then 1 else 2) else (0, (d : Int) + 1))).2])
        rw [if_neg hl, if_neg (by omega)]
        rfl
end
end K18

namespace K18
open PySem PySem.Spec PyProof.Rows L2 Ov
section
variable {P : Program} {w : World} {K : PySem.W.Frag} {mg : Str → Option Value} {base : Heap}
theorem sc_law_both_good : FnScope ["_law_h", "_law_shallow", "_law_down", "_law_last", "_law_less", "_law_sizes", "_law_trees", "_law_left", "_law_k", "_law_end", "_law_twice", "_law_deeper", "_law_program", "_law_found"] ["_law_h"] (defScope s_law_both_good) := ⟨rfl, rfl, rfl, by decide +kernel, rfl, by decide +kernel, by decide +kernel⟩
-- 0 _law_h, 1 _law_shallow, 2 _law_down, 3 _law_last, 4 _law_less, 5 _law_sizes, 6 _law_trees, 7 _law_left, 8 _law_k, 9 _law_end, 10 _law_twice, 11 _law_deeper, 12 _law_program, 13 _law_found
theorem ok_law_both (T : Txt w K mg) (hP : P = R.prog) (hc3 : chk3 = true) : FnOk P w K mg base CX0 118 (He.ga K "_law_both_good") (fdOf K d_law_both_good) ["_law_h"] spBoth := by
  have G_law_next := ok_law_next (P := P) (base := base) T
  have G_law_sum := ok_law_sum (P := P) (base := base) T 4
  have G_law_all := ok_law_all (P := P) (base := base) T hP
  have G_law_ends := ok_law_ends (P := P) (base := base) T
  have G_law_alike := ok_law_alike (P := P) (base := base) T 4
  refine T.F_law_both_good.ok sc_law_both_good (fun vs H Q E h => ?_) (fun cdv A outer s H vs Q E hr h => ?_)
  · obtain ⟨h, c, rfl, _⟩ := h
    rfl
  obtain ⟨h, c, rfl, d0, q⟩ := h
  refine ⟨_, PSs.nox (pss_cons (ps_par3 (i := 1) (j := 2) (l := 3) rfl sc_law_both_good.nd rfl rfl rfl (by decide) (by decide) (by decide) rfl rfl rfl (pa_cons (pe_op op_add pe_int (pe_call G_law_next (hr.mono (by omega)) (by rfl) T.g_law_next T.kp_law_next T.b_law_next .nil pass0 (pa_cons (pv 0) (pa_cons pe_int pa_nil)))) (pa_cons (pe_op op_add pe_int (pe_call G_law_next (hr.mono (by omega)) (by rfl) T.g_law_next T.kp_law_next T.b_law_next .nil pass0 (pa_cons (pv 0) (pa_cons pe_int pa_nil)))) (pa_cons (pe_call G_law_next (hr.mono (by omega)) (by rfl) T.g_law_next T.kp_law_next T.b_law_next .nil pass0 (pa_cons (pv 0) (pa_cons pe_int pa_nil))) pa_nil))) rfl)
      (pss_cons (ps_set (i := 4) sc_law_both_good.nd rfl (by first | exact Or.inl rfl | exact Or.inr rfl) (pe_tup (pa_cons pe_str (pa_cons (pe_tup (pa_cons pe_str pa_nil)) (pa_cons (pe_tup (pa_cons pe_str (pa_cons pe_int pa_nil))) pa_nil)))))
      (pss_cons (ps_set (i := 5) sc_law_both_good.nd rfl (by first | exact Or.inl rfl | exact Or.inr rfl) (pe_lst (pa_cons pe_int (pa_cons pe_int (pa_cons pe_int (pa_cons pe_int (pa_cons pe_int (pa_cons pe_int (pa_cons pe_int pa_nil)))))))))
      (pss_cons (ps_set (i := 6) sc_law_both_good.nd rfl (by first | exact Or.inl rfl | exact Or.inr rfl) (pe_lst pa_nil))
      (pss_cons (ps_set (i := 7) sc_law_both_good.nd rfl (by first | exact Or.inl rfl | exact Or.inr rfl) (pv 1))
      (pss_cons (ps_for PassesOwn.never rfl (pi_range1 (by rfl) T.z_range (pa_cons pe_int pa_nil)) (pg_name (i := 8) sc_law_both_good.nd rfl (by first | exact Or.inl rfl | exact Or.inr rfl)) (pss_one (ps_while PassesOwn.never (pt_cmpR op_ge (pv 7) (pe_ix (r := rIxL K) ix_list (pv 5) (pv 8) (fun _ _ => rfl)) (nomark _)) (pss_cons (ps_expr (Ov.pe_bmK (K := K) rfl PySem.F.plainAttrs_list PySem.F.slot_list_append PySem.F.type_list_append mt_append (pv 6) (pa_cons (pe_tup (pa_cons pe_str (pa_cons pe_int (pa_cons (pe_tup (pa_cons pe_str (pa_cons (pe_op op_sub pe_int (pv 8)) pa_nil))) pa_nil)))) pa_nil)))
      (pss_one (ps_set (i := 7) sc_law_both_good.nd rfl (by first | exact Or.inl rfl | exact Or.inr rfl) (pe_op op_sub (pv 7) (pe_ix (r := rIxL K) ix_list (pv 5) (pv 8) (fun _ _ => rfl)))))))))
      (pss_cons (ps_set (i := 9) sc_law_both_good.nd rfl (by first | exact Or.inl rfl | exact Or.inr rfl) (pe_ix (r := rIxL K) ix_list (pe_lst (pa_cons (pe_tup (pa_cons pe_str (pa_cons (pe_tup (pa_cons pe_str (pa_cons pe_int pa_nil))) (pa_cons (pe_tup (pa_cons pe_str (pa_cons pe_int pa_nil))) pa_nil)))) (pa_cons (pe_tup (pa_cons pe_str (pa_cons pe_int (pa_cons (pe_tup (pa_cons pe_str (pa_cons pe_int pa_nil))) pa_nil)))) (pa_cons (pe_tup (pa_cons pe_str (pa_cons (pe_tup (pa_cons pe_str (pa_cons pe_int pa_nil))) (pa_cons (pe_tup (pa_cons pe_str (pa_cons pe_int pa_nil))) pa_nil)))) pa_nil)))) (pv 3) (fun _ _ => rfl)))
      (pss_cons (ps_set (i := 10) sc_law_both_good.nd rfl (by first | exact Or.inl rfl | exact Or.inr rfl) (pe_tup (pa_cons pe_str (pa_cons (pe_tup (pa_cons pe_str pa_nil)) (pa_cons (pe_tup (pa_cons pe_str (pa_cons (pe_tup (pa_cons pe_str (pa_cons pe_int (pa_cons (pv 4) pa_nil)))) (pa_cons (pe_tup (pa_cons pe_str (pa_cons pe_int (pa_cons (pv 4) pa_nil)))) pa_nil)))) (pa_cons (pe_tup (pa_cons pe_str (pa_cons pe_int pa_nil))) pa_nil))))))
      (pss_cons (ps_set (i := 11) sc_law_both_good.nd rfl (by first | exact Or.inl rfl | exact Or.inr rfl) (pe_tup (pa_cons pe_str (pa_cons (pe_tup (pa_cons pe_str pa_nil)) (pa_cons (pe_tup (pa_cons pe_str (pa_cons (pe_tup (pa_cons pe_str (pa_cons pe_int pa_nil))) (pa_cons (pe_tup (pa_cons pe_str (pa_cons pe_int (pa_cons (pv 4) pa_nil)))) pa_nil)))) (pa_cons (pv 9) pa_nil))))))
      (pss_cons (ps_set (i := 12) sc_law_both_good.nd rfl (by first | exact Or.inl rfl | exact Or.inr rfl) (pe_tup (pa_cons (pe_tup (pa_cons pe_int (pa_cons (pe_tup (pa_cons pe_str (pa_cons (pe_call G_law_sum (hr.mono (by omega)) (by rfl) T.g_law_sum T.kp_law_sum T.b_law_sum .nil pass0 (pa_cons (pv 6) pa_nil)) (pa_cons (pe_tup (pa_cons pe_str (pa_cons pe_int (pa_cons (pe_tup (pa_cons pe_str (pa_cons (pv 2) pa_nil))) pa_nil)))) pa_nil)))) pa_nil))) (pa_cons (pe_tup (pa_cons pe_int (pa_cons (pv 10) pa_nil))) (pa_cons (pe_tup (pa_cons pe_int (pa_cons (pv 11) pa_nil))) pa_nil)))))
      (pss_cons (ps_set (i := 13) sc_law_both_good.nd rfl (by first | exact Or.inl rfl | exact Or.inr rfl) (pe_call G_law_all (hr.mono (by omega)) (by rfl) T.g_law_all T.kp_law_all T.b_law_all .nil pass0 (pa_cons (pe_op (r := rCatT K) op_catT (pv 12) (pe_tup (pa_cons (pe_tup (pa_cons pe_int (pa_cons (pe_tup (pa_cons pe_str pa_nil)) pa_nil))) pa_nil))) (pa_cons pe_int pa_nil))))
      (pss_one (ps_ret (pe_call G_law_alike (hr.mono (by omega)) (by rfl) T.g_law_alike T.kp_law_alike T.b_law_alike .nil pass0 (pa_cons (pv 13) (pa_cons (pe_tup (pa_cons (pe_call G_law_ends (hr.mono (by omega)) (by rfl) T.g_law_ends T.kp_law_ends T.b_law_ends .nil pass0 (pa_cons (pv 1) (pa_cons (pv 2) (pa_cons (pv 3) pa_nil)))) (pa_cons (pe_lst pa_nil) pa_nil))) pa_nil)))))))))))))))), ?_⟩
  refine ⟨_, rfl, h, c, 16, rfl, d0, by decide, by decide, fun r1 H1 r10 r11 b1 d1 => ⟨_, _, rfl, rfl, ?_⟩⟩
  obtain ⟨a, rfl⟩ : ∃ a : Nat, r1 = (a : Int) := ⟨r1.toNat, by omega⟩
  refine ⟨_, rfl, h, c, 6, rfl, d1, by decide, by decide, fun r2 H2 r20 r21 b2 d2 => ⟨_, _, rfl, rfl, ?_⟩⟩
  obtain ⟨b, rfl⟩ : ∃ a : Nat, r2 = (a : Int) := ⟨r2.toNat, by omega⟩
  refine ⟨_, rfl, h, c, 3, rfl, d2, by decide, by decide, fun r3 H3 r30 r31 b3 d3 => ?_⟩
  obtain ⟨l, rfl⟩ : ∃ a : Nat, r3 = (a : Int) := ⟨r3.toNat, by omega⟩
  have bb := b1.trans (b2.trans b3)
  obtain ⟨hB, hT1, hT2, hdue⟩ := chk3_at hc3 (a := a) (b := b) (l := l) (by omega) (by omega) (by omega)
  refine ⟨_, _, _, rfl, ?_⟩
  have d4 := d3
  clear b1 b2 b3 d0 d1 d2 d3
  -- a number one less
  refine ⟨sml 1, fun xa hxa => ?_⟩
  obtain ⟨sxa, wxa⟩ := newW (H := H3) (t := xa) (xs := [.str "argument"]) .arg 0 rfl .nil hxa
  generalize upd H3 xa (.tup [.str "argument"]) = G0 at sxa wxa ⊢
  refine ⟨sml 2, fun xb hxb => ?_⟩
  obtain ⟨sxb, wxb⟩ := newW (H := G0) (t := xb) (xs := [.str "num", .int 1]) .num 1 rfl .nil hxb
  generalize upd G0 xb (.tup [.str "num", .int 1]) = G1 at sxb wxb ⊢
  refine ⟨sml 3, fun tl htl => ?_⟩
  obtain ⟨stl, wtl⟩ := newW (H := G1) (t := tl) (xs := [.str "less", .ref xa, .ref xb]) .less 0 rfl (.cons (wxa.keep (Keep.same sxb)) (.cons (wxb.keep (Keep.same (Same.refl _))) .nil)) htl
  generalize upd G1 tl (.tup [.str "less", .ref xa, .ref xb]) = H5 at stl wtl ⊢
  have s45 := (sxa.trans (sxb.trans stl))
  have d5 := d4.same s45
  have bb := bb.trans (But.same s45)
  have wl : WAt H5 (.ref tl) less1 := wtl
  clear wxa wxb sxa sxb stl wtl s45 d4
  refine ⟨sml 7, fun sz hsz => ?_⟩
  have s6 := Same.new (o := .lst ([.int 127, .int 63, .int 31, .int 15, .int 7, .int 3, .int 1])) hsz
  have esz : upd H5 sz (.lst [.int 127, .int 63, .int 31, .int 15, .int 7, .int 3, .int 1]) sz = some (.lst (([127, 63, 31, 15, 7, 3, 1] : List Int).map V.int)) := upd_same
  generalize upd H5 sz (.lst [.int 127, .int 63, .int 31, .int 15, .int 7, .int 3, .int 1]) = H6 at s6 esz ⊢
  refine ⟨sml 0, fun tr htr => ?_⟩
  have s7 := Same.new (o := .lst []) htr
  have etr : upd H6 tr (.lst []) tr = some (.lst []) := upd_same
  have nsz : sz ≠ tr := ne_of_none esz htr
  have ntr := (d5.same s6).new htr
  have s57 := s6.trans s7
  have ntrH : H tr = none := by
    cases e : H tr with
    | none => rfl
    | some o =>
      have z := s6 _ _ (bb _ _ ntr.1 ntr.2 e)
      rw [htr] at z
      cases z
  have esz7 := s7 _ _ esz
  generalize upd H6 tr (.lst []) = H7 at s7 etr s57 esz7 ⊢
  have d7 := d5.same s57
  have wl7 := wl.keep (Keep.same s57)
  have bb := bb.trans (But.same s57)
  clear s57 s7 s6 d5 esz htr hsz wl
  have wln : ∀ {p : Addr} {xs : List V}, H7 p = some (.tup xs) → p ≠ tr := fun e => ne_of e etr (by intro z; cases z)
  refine ⟨_, rfl, 7, rfl, by decide, by decide, ?_⟩
  refine for_range (lo := 0) (n := (7 : Int).toNat) (fun k σ' H' => ∃ (y8 : Option V) (xs : List V), σ' = [some (.ref h), some (.int (185 + (a : Int))), some (.int (8 + (b : Int))), some (.int (l : Int)), some (.ref tl), some (.ref sz), some (.ref tr), some (.int (left3 (185 + a) k : Nat)), y8, none, none, none, none, none] ∧ ButT tr H7 H' ∧ H' tr = some (.lst xs) ∧ WsAt H' xs (trees3 (185 + a) k)) ⟨none, [], rfl, fun _ _ _ e => e, etr, .nil⟩ ?_ ?_
  · rintro k σ' H8 hk ⟨y8, xs, rfl, b8, e8, w8⟩
    have hk : k < 7 := hk
    rw [Int.zero_add]
    obtain ⟨hsk, hs1⟩ := sz3_at k hk
    have hlen := trees3_len (s := 185 + a) (k := k + 1) 7 (by omega)
    have hl1 : (trees3 (185 + a) (k + 1)).length = (trees3 (185 + a) k).length + left3 (185 + a) k / sz3 k := by
      show (trees3 (185 + a) k ++ _).length = _
      rw [List.length_append, List.length_replicate]
    refine ⟨fun m σ' H' => ∃ (j : Nat) (xs : List V), j + m = left3 (185 + a) k / sz3 k ∧ σ' = [some (.ref h), some (.int (185 + (a : Int))), some (.int (8 + (b : Int))), some (.int (l : Int)), some (.ref tl), some (.ref sz), some (.ref tr), some (.int (left3 (185 + a) k - j * sz3 k : Nat)), some (.int (k : Int)), none, none, none, none, none] ∧ ButT tr H7 H' ∧ H' tr = some (.lst xs) ∧ WsAt H' xs (trees3 (185 + a) k ++ List.replicate j (wCall 1 (wNum (6 - (k : Int))))), ⟨_, 0, xs, Nat.zero_add _, ?_, b8, e8, ?_⟩, ?_⟩
    · rw [Nat.zero_mul, Nat.sub_zero]
      rfl
    · rw [List.replicate_zero, List.append_nil]
      exact w8
    rintro m σ' H9 ⟨j, xs, hjm, rfl, b9, e9, w9⟩
    have hdm := Nat.div_add_mod (left3 (185 + a) k) (sz3 k)
    have hml := Nat.mod_lt (left3 (185 + a) k) (show 0 < sz3 k from hs1)
    have esz9 := b9 _ _ nsz esz7
    have hxl := w9.length
    rw [List.length_append, List.length_replicate] at hxl
    refine ⟨_, rfl, _, rfl, _, rfl, sz, _, _, _, rfl, rfl, SqL.of esz9, atI_nat (j := k) (by rw [List.getElem?_map, hsk]; rfl), _, _, rfl, rfl, _, rfl, ?_⟩
    by_cases hm : m = 0
    · subst hm
      have hj : j = left3 (185 + a) k / sz3 k := by omega
      have hll : left3 (185 + a) k - j * sz3 k = left3 (185 + a) k % sz3 k := by
        rw [hj, Nat.mul_comm]
        omega
      rw [decide_eq_false (show ¬ ((sz3 k : Nat) : Int) ≤ ((left3 (185 + a) k - j * sz3 k : Nat) : Int) by omega)]
      refine iteF ⟨some (.int (k : Int)), xs, ?_, b9, e9, ?_⟩
      · rw [hll]
        rfl
      · rw [hj] at w9
        exact w9
    · have hj : j + 1 ≤ left3 (185 + a) k / sz3 k := by omega
      have h1 := Nat.mul_le_mul_left (sz3 k) hj
      rw [Nat.mul_add, Nat.mul_one, Nat.mul_comm (sz3 k) j] at h1
      rw [decide_eq_true (show ((sz3 k : Nat) : Int) ≤ ((left3 (185 + a) k - j * sz3 k : Nat) : Int) by omega)]
      refine iteT ⟨fun σ' H' => ∃ (xs : List V), σ' = [some (.ref h), some (.int (185 + (a : Int))), some (.int (8 + (b : Int))), some (.int (l : Int)), some (.ref tl), some (.ref sz), some (.ref tr), some (.int (left3 (185 + a) k - (j + 1) * sz3 k : Nat)), some (.int (k : Int)), none, none, none, none, none] ∧ ButT tr H7 H' ∧ H' tr = some (.lst xs) ∧ WsAt H' xs (trees3 (185 + a) k ++ List.replicate (j + 1) (wCall 1 (wNum (6 - (k : Int))))), fun σ' H' ⟨xs, z1, z2, z3, z4⟩ => ⟨m - 1, by omega, j + 1, xs, by omega, z1, z2, z3, z4⟩, ?_⟩
      refine ⟨_, rfl, .inl ⟨rfl, _, SqL.of e9⟩, _, rfl, _, _, rfl, rfl, ?_⟩
      refine ⟨sml 2, fun ya hya => ?_⟩
      obtain ⟨sya, wya⟩ := newW (H := H9) (t := ya) (xs := [.str "num", .int (6 - (k : Int))]) .num (6 - (k : Int)) rfl .nil hya
      generalize upd H9 ya (.tup [.str "num", .int (6 - (k : Int))]) = G20 at sya wya ⊢
      refine ⟨sml 3, fun tb htb => ?_⟩
      obtain ⟨stb, wtb⟩ := newW (H := G20) (t := tb) (xs := [.str "call", .int 1, .ref ya]) .call 1 rfl (.cons (wya.keep (Keep.same (Same.refl _))) .nil) htb
      generalize upd G20 tb (.tup [.str "call", .int 1, .ref ya]) = G21 at stb wtb ⊢
      have sab := sya.trans stb
      have e10 := sab _ _ e9
      refine ⟨tr, _, _, rfl, rfl, e10, sm _ (by omega), ?_⟩
      have kL := Keep.updL (ys := xs ++ [.ref tb]) e10
      have b10 := (b9.same sab).upd (o := .lst (xs ++ [.ref tb]))
      have esz10 := b10 _ _ nsz esz7
      refine ⟨_, rfl, _, rfl, _, rfl, sz, _, _, _, rfl, rfl, SqL.of esz10, atI_nat (j := k) (by rw [List.getElem?_map, hsk]; rfl), _, _, rfl, rfl, xs ++ [.ref tb], ?_, b10, upd_same, ?_⟩
      · have e1 : (((left3 (185 + a) k - j * sz3 k : Nat) : Int) - ((sz3 k : Nat) : Int)) = ((left3 (185 + a) k - (j + 1) * sz3 k : Nat) : Int) := by
          rw [Nat.add_mul, Nat.one_mul]
          omega
        rw [← e1]
        rfl
      · rw [List.replicate_succ', ← List.append_assoc]
        exact WsAt.append ((w9.keep (Keep.same sab)).keep kL) (.cons (wtb.keep kL) .nil)
  rintro σ' H8 ⟨y8, xs, rfl, b8, e8, w8⟩
  have w8 : WsAt H8 xs (trees3 (185 + a) 7) := w8
  have k8 := b8.keep etr
  have d8 : Dr H8 h c := by
    obtain ⟨m, k, ys, h1, h2, h3⟩ := d7
    exact ⟨m, k, ys, b8 _ _ ntr.1.symm h1, b8 _ _ ntr.2.symm h2, h3⟩
  have wl8 := wl7.keep k8
  -- the words at the end
  have hl3 : l = 0 ∨ l = 1 ∨ l = 2 := by omega
  have swl : Same H8 H8 := Same.refl _
  refine ⟨sml 2, fun a1 ha1 => ?_⟩
  obtain ⟨sa1, wa1⟩ := newW (H := H8) (t := a1) (xs := [.str "num", .int 3]) .num 3 rfl .nil ha1
  generalize upd H8 a1 (.tup [.str "num", .int 3]) = G40 at sa1 wa1 ⊢
  refine ⟨sml 2, fun a2 ha2 => ?_⟩
  obtain ⟨sa2, wa2⟩ := newW (H := G40) (t := a2) (xs := [.str "num", .int 1]) .num 1 rfl .nil ha2
  generalize upd G40 a2 (.tup [.str "num", .int 1]) = G41 at sa2 wa2 ⊢
  refine ⟨sml 3, fun a3 ha3 => ?_⟩
  obtain ⟨sa3, wa3⟩ := newW (H := G41) (t := a3) (xs := [.str "through", .ref a1, .ref a2]) .through 0 rfl (.cons (wa1.keep (Keep.same sa2)) (.cons (wa2.keep (Keep.same (Same.refl _))) .nil)) ha3
  generalize upd G41 a3 (.tup [.str "through", .ref a1, .ref a2]) = G42 at sa3 wa3 ⊢
  refine ⟨sml 2, fun b1 hb1 => ?_⟩
  obtain ⟨sb1, wb1⟩ := newW (H := G42) (t := b1) (xs := [.str "num", .int 1]) .num 1 rfl .nil hb1
  generalize upd G42 b1 (.tup [.str "num", .int 1]) = G43 at sb1 wb1 ⊢
  refine ⟨sml 3, fun b2 hb2 => ?_⟩
  obtain ⟨sb2, wb2⟩ := newW (H := G43) (t := b2) (xs := [.str "call", .int 3, .ref b1]) .call 3 rfl (.cons (wb1.keep (Keep.same (Same.refl _))) .nil) hb2
  generalize upd G43 b2 (.tup [.str "call", .int 3, .ref b1]) = G44 at sb2 wb2 ⊢
  refine ⟨sml 2, fun c1 hc1 => ?_⟩
  obtain ⟨sc1, wc1⟩ := newW (H := G44) (t := c1) (xs := [.str "way", .int 3]) .way 3 rfl .nil hc1
  generalize upd G44 c1 (.tup [.str "way", .int 3]) = G45 at sc1 wc1 ⊢
  refine ⟨sml 2, fun c2 hc2 => ?_⟩
  obtain ⟨sc2, wc2⟩ := newW (H := G45) (t := c2) (xs := [.str "num", .int 1]) .num 1 rfl .nil hc2
  generalize upd G45 c2 (.tup [.str "num", .int 1]) = G46 at sc2 wc2 ⊢
  refine ⟨sml 3, fun c3 hc3 => ?_⟩
  obtain ⟨sc3, wc3⟩ := newW (H := G46) (t := c3) (xs := [.str "through", .ref c1, .ref c2]) .through 0 rfl (.cons (wc1.keep (Keep.same sc2)) (.cons (wc2.keep (Keep.same (Same.refl _))) .nil)) hc3
  generalize upd G46 c3 (.tup [.str "through", .ref c1, .ref c2]) = G47 at sc3 wc3 ⊢
  refine ⟨sml 3, fun le hle => ?_⟩
  have sle := Same.new (o := .lst [.ref a3, .ref b2, .ref c3]) hle
  have ele : upd G47 le (.lst [.ref a3, .ref b2, .ref c3]) le = some (.lst [.ref a3, .ref b2, .ref c3]) := upd_same
  generalize upd G47 le (.lst [.ref a3, .ref b2, .ref c3]) = G48 at sle ele ⊢
  obtain ⟨te, hte, wte⟩ : ∃ te, [V.ref a3, V.ref b2, V.ref c3][l]? = some te ∧ WAt G48 te (end3 l) := by
    rcases hl3 with rfl | rfl | rfl
    · exact ⟨_, rfl, (wa3.keep (Keep.same (sb1.trans (sb2.trans (sc1.trans (sc2.trans (sc3.trans sle)))))))⟩
    · exact ⟨_, rfl, (wb2.keep (Keep.same (sc1.trans (sc2.trans (sc3.trans sle)))))⟩
    · exact ⟨_, rfl, (wc3.keep (Keep.same sle))⟩
  refine ⟨_, rfl, le, _, (l : Int), te, rfl, rfl, SqL.of ele, atI_nat hte, ?_⟩
  have wte0 := wte
  have wl9 := wl8.keep (Keep.same (sa1.trans (sa2.trans (sa3.trans (sb1.trans (sb2.trans (sc1.trans (sc2.trans (sc3.trans sle)))))))))
  refine ⟨sml 1, fun d1 hd1 => ?_⟩
  obtain ⟨sd1, wd1⟩ := newW (H := G48) (t := d1) (xs := [.str "argument"]) .arg 0 rfl .nil hd1
  generalize upd G48 d1 (.tup [.str "argument"]) = G49 at sd1 wd1 ⊢
  refine ⟨_, rfl, sml 3, fun d2 hd2 => ?_⟩
  obtain ⟨sd2, wd2⟩ := newW (H := G49) (t := d2) (xs := [.str "call", .int 1, .ref tl]) .call 1 rfl (.cons (wl9.keep (Keep.same sd1)) .nil) hd2
  generalize upd G49 d2 (.tup [.str "call", .int 1, .ref tl]) = G50 at sd2 wd2 ⊢
  refine ⟨_, rfl, sml 3, fun d3 hd3 => ?_⟩
  obtain ⟨sd3, wd3⟩ := newW (H := G50) (t := d3) (xs := [.str "call", .int 1, .ref tl]) .call 1 rfl (.cons (wl9.keep (Keep.same (sd1.trans sd2))) .nil) hd3
  generalize upd G50 d3 (.tup [.str "call", .int 1, .ref tl]) = G51 at sd3 wd3 ⊢
  refine ⟨sml 3, fun d4 hd4 => ?_⟩
  obtain ⟨sd4, wd4⟩ := newW (H := G51) (t := d4) (xs := [.str "then", .ref d2, .ref d3]) .thn 0 rfl (.cons (wd2.keep (Keep.same sd3)) (.cons (wd3.keep (Keep.same (Same.refl _))) .nil)) hd4
  generalize upd G51 d4 (.tup [.str "then", .ref d2, .ref d3]) = G52 at sd4 wd4 ⊢
  refine ⟨sml 2, fun d5 hd5 => ?_⟩
  obtain ⟨sd5, wd5⟩ := newW (H := G52) (t := d5) (xs := [.str "num", .int 0]) .num 0 rfl .nil hd5
  generalize upd G52 d5 (.tup [.str "num", .int 0]) = G53 at sd5 wd5 ⊢
  refine ⟨sml 4, fun d6 hd6 => ?_⟩
  obtain ⟨sd6, wd6⟩ := newW (H := G53) (t := d6) (xs := [.str "if", .ref d1, .ref d4, .ref d5]) .ife 0 rfl (.cons (wd1.keep (Keep.same (sd2.trans (sd3.trans (sd4.trans sd5))))) (.cons (wd4.keep (Keep.same sd5)) (.cons (wd5.keep (Keep.same (Same.refl _))) .nil))) hd6
  generalize upd G53 d6 (.tup [.str "if", .ref d1, .ref d4, .ref d5]) = G54 at sd6 wd6 ⊢
  refine ⟨sml 1, fun f1 hf1 => ?_⟩
  obtain ⟨sf1, wf1⟩ := newW (H := G54) (t := f1) (xs := [.str "argument"]) .arg 0 rfl .nil hf1
  generalize upd G54 f1 (.tup [.str "argument"]) = G55 at sf1 wf1 ⊢
  refine ⟨sml 2, fun f2 hf2 => ?_⟩
  obtain ⟨sf2, wf2⟩ := newW (H := G55) (t := f2) (xs := [.str "num", .int 1]) .num 1 rfl .nil hf2
  generalize upd G55 f2 (.tup [.str "num", .int 1]) = G56 at sf2 wf2 ⊢
  refine ⟨_, rfl, sml 3, fun f3 hf3 => ?_⟩
  obtain ⟨sf3, wf3⟩ := newW (H := G56) (t := f3) (xs := [.str "call", .int 2, .ref tl]) .call 2 rfl (.cons (wl9.keep (Keep.same (sd1.trans (sd2.trans (sd3.trans (sd4.trans (sd5.trans (sd6.trans (sf1.trans sf2))))))))) .nil) hf3
  generalize upd G56 f3 (.tup [.str "call", .int 2, .ref tl]) = G57 at sf3 wf3 ⊢
  refine ⟨sml 3, fun f4 hf4 => ?_⟩
  obtain ⟨sf4, wf4⟩ := newW (H := G57) (t := f4) (xs := [.str "plus", .ref f2, .ref f3]) .plus 0 rfl (.cons (wf2.keep (Keep.same sf3)) (.cons (wf3.keep (Keep.same (Same.refl _))) .nil)) hf4
  generalize upd G57 f4 (.tup [.str "plus", .ref f2, .ref f3]) = G58 at sf4 wf4 ⊢
  refine ⟨_, rfl, sml 4, fun f5 hf5 => ?_⟩
  obtain ⟨sf5, wf5⟩ := newW (H := G58) (t := f5) (xs := [.str "if", .ref f1, .ref f4, te]) .ife 0 rfl (.cons (wf1.keep (Keep.same (sf2.trans (sf3.trans sf4)))) (.cons (wf4.keep (Keep.same (Same.refl _))) (.cons (wte.keep (Keep.same (sd1.trans (sd2.trans (sd3.trans (sd4.trans (sd5.trans (sd6.trans (sf1.trans (sf2.trans (sf3.trans sf4))))))))))) .nil))) hf5
  generalize upd G58 f5 (.tup [.str "if", .ref f1, .ref f4, te]) = G59 at sf5 wf5 ⊢
  have etr9 := (sa1.trans (sa2.trans (sa3.trans (sb1.trans (sb2.trans (sc1.trans (sc2.trans (sc3.trans (sle.trans (sd1.trans (sd2.trans (sd3.trans (sd4.trans (sd5.trans (sd6.trans (sf1.trans (sf2.trans (sf3.trans (sf4.trans sf5))))))))))))))))))) _ _ e8
  have w9 := w8.keep (Keep.same (sa1.trans (sa2.trans (sa3.trans (sb1.trans (sb2.trans (sc1.trans (sc2.trans (sc3.trans (sle.trans (sd1.trans (sd2.trans (sd3.trans (sd4.trans (sd5.trans (sd6.trans (sf1.trans (sf2.trans (sf3.trans (sf4.trans sf5))))))))))))))))))))
  refine ⟨_, rfl, tr, xs, trees3 (185 + a) 7, rfl, etr9, w9, hT2, by omega, by omega, fun Hs ys sys wys => ?_⟩
  refine ⟨_, rfl, sml 2, fun g1 hg1 => ?_⟩
  obtain ⟨sg1, wg1⟩ := newW (H := Hs) (t := g1) (xs := [.str "num", .int (8 + (b : Int))]) .num (8 + (b : Int)) rfl .nil hg1
  generalize upd Hs g1 (.tup [.str "num", .int (8 + (b : Int))]) = G60 at sg1 wg1 ⊢
  refine ⟨sml 3, fun g2 hg2 => ?_⟩
  obtain ⟨sg2, wg2⟩ := newW (H := G60) (t := g2) (xs := [.str "call", .int 2, .ref g1]) .call 2 rfl (.cons (wg1.keep (Keep.same (Same.refl _))) .nil) hg2
  generalize upd G60 g2 (.tup [.str "call", .int 2, .ref g1]) = G61 at sg2 wg2 ⊢
  refine ⟨sml 3, fun g3 hg3 => ?_⟩
  obtain ⟨sg3, wg3⟩ := newW (H := G61) (t := g3) (xs := [.str "plus", ys, .ref g2]) .plus 0 rfl (.cons (wys.keep (Keep.same (sg1.trans sg2))) (.cons (wg2.keep (Keep.same (Same.refl _))) .nil)) hg3
  generalize upd G61 g3 (.tup [.str "plus", ys, .ref g2]) = G62 at sg3 wg3 ⊢
  refine ⟨sml 2, fun fp1 hfp1 => ?_⟩
  obtain ⟨sfp1, wfp1⟩ := newF (H := G62) (t := fp1) (z := 1) (wg3.keep (Keep.same (Same.refl _))) hfp1
  generalize upd G62 fp1 (.tup [.int 1, .ref g3]) = G63 at sfp1 wfp1 ⊢
  refine ⟨_, rfl, sml 2, fun fp2 hfp2 => ?_⟩
  obtain ⟨sfp2, wfp2⟩ := newF (H := G63) (t := fp2) (z := 2) (wd6.keep (Keep.same (sf1.trans (sf2.trans (sf3.trans (sf4.trans (sf5.trans (sys.trans (sg1.trans (sg2.trans (sg3.trans sfp1))))))))))) hfp2
  generalize upd G63 fp2 (.tup [.int 2, .ref d6]) = G64 at sfp2 wfp2 ⊢
  refine ⟨_, rfl, sml 2, fun fp3 hfp3 => ?_⟩
  obtain ⟨sfp3, wfp3⟩ := newF (H := G64) (t := fp3) (z := 1) (wf5.keep (Keep.same (sys.trans (sg1.trans (sg2.trans (sg3.trans (sfp1.trans sfp2))))))) hfp3
  generalize upd G64 fp3 (.tup [.int 1, .ref f5]) = G65 at sfp3 wfp3 ⊢
  refine ⟨sml 3, fun pp hpp => ?_⟩
  have spp := Same.new (o := .tup [.ref fp1, .ref fp2, .ref fp3]) hpp
  have epp : upd G65 pp (.tup [.ref fp1, .ref fp2, .ref fp3]) pp = some (.tup [.ref fp1, .ref fp2, .ref fp3]) := upd_same
  generalize upd G65 pp (.tup [.ref fp1, .ref fp2, .ref fp3]) = G66 at spp epp ⊢
  refine ⟨_, rfl, ?_⟩
  refine ⟨sml 1, fun q1 hq1 => ?_⟩
  obtain ⟨sq1, wq1⟩ := newW (H := G66) (t := q1) (xs := [.str "argument"]) .arg 0 rfl .nil hq1
  generalize upd G66 q1 (.tup [.str "argument"]) = G67 at sq1 wq1 ⊢
  refine ⟨sml 2, fun q2 hq2 => ?_⟩
  obtain ⟨sq2, wq2⟩ := newF (H := G67) (t := q2) (z := 1) (wq1.keep (Keep.same (Same.refl _))) hq2
  generalize upd G67 q2 (.tup [.int 1, .ref q1]) = G68 at sq2 wq2 ⊢
  refine ⟨sml 1, fun qq hqq => ?_⟩
  have sqq := Same.new (o := .tup [.ref q2]) hqq
  have eqq : upd G68 qq (.tup [.ref q2]) qq = some (.tup [.ref q2]) := upd_same
  generalize upd G68 qq (.tup [.ref q2]) = G69 at sqq eqq ⊢
  refine ⟨pp, qq, _, _, rfl, rfl, SqT.of ((sq1.trans (sq2.trans sqq)) _ _ epp), SqT.of eqq, (fun z => nomatch z), sml 4, (fun z => nomatch z), fun _ pr hpr => ?_⟩
  have spr := Same.new (o := .tup ([V.ref fp1, V.ref fp2, V.ref fp3] ++ [V.ref q2])) hpr
  have epr : upd G69 pr (.tup ([V.ref fp1, V.ref fp2, V.ref fp3] ++ [V.ref q2])) pr = some (.tup [.ref fp1, .ref fp2, .ref fp3, .ref q2]) := upd_same
  generalize upd G69 pr (.tup ([V.ref fp1, V.ref fp2, V.ref fp3] ++ [V.ref q2])) = G70 at spr epr ⊢
  have eb : (8 : Int) + (b : Int) = ((8 + b : Nat) : Int) := by omega
  have ea : (185 : Int) + (a : Int) = ((185 + a : Nat) : Int) := by omega
  have hprog : PrAt G70 (.ref pr) (p3 (185 + a) (8 + b) l) := by
    refine ⟨pr, _, rfl, epr, ?_⟩
    unfold p3
    rw [← eb]
    exact .cons (wfp1.keep (Keep.same (sfp2.trans (sfp3.trans (spp.trans (sq1.trans (sq2.trans (sqq.trans spr)))))))) (.cons (wfp2.keep (Keep.same (sfp3.trans (spp.trans (sq1.trans (sq2.trans (sqq.trans spr))))))) (.cons (wfp3.keep (Keep.same (spp.trans (sq1.trans (sq2.trans (sqq.trans spr)))))) (.cons (wq2.keep (Keep.same (sqq.trans spr))) .nil)))
  refine ⟨.ref pr, p3 (185 + a) (8 + b) l, 0, rfl, hprog, hB, by decide, by decide, fun Hz r tt sa sall er et es => ?_⟩
  rw [hdue] at et
  refine ⟨_, rfl, _, rfl, _, rfl, _, rfl, 185 + a, 8 + b, l, by
    show [V.int (185 + (a : Int)), V.int (8 + (b : Int)), V.int (l : Int)] = _
    rw [ea, eb], by omega, by omega, fun Hq te2 send nte2 ete2 => ?_⟩
  refine ⟨sml 0, fun l0 hl0 => ?_⟩
  have sl0 := Same.new (o := .lst []) hl0
  have el0 : upd Hq l0 (.lst []) l0 = some (.lst []) := upd_same
  generalize upd Hq l0 (.lst []) = G71 at sl0 el0 ⊢
  refine ⟨sml 2, fun tq htq => ?_⟩
  have stq := Same.new (o := .tup [.ref te2, .ref l0]) htq
  have etq : upd G71 tq (.tup [.ref te2, .ref l0]) tq = some (.tup [.ref te2, .ref l0]) := upd_same
  generalize upd G71 tq (.tup [.ref te2, .ref l0]) = G72 at stq etq ⊢
  have fr := (send.trans (sl0.trans stq))
  refine ⟨.ref r, .ref tq, rfl, .inr (.inr ⟨r, tq, _, _, rfl, rfl, fr _ _ er, etq, (by show 2 ≤ 9000; decide), .cons (.inr (.inr ⟨tt, te2, _, _, rfl, rfl, fr _ _ et, (sl0.trans stq) _ _ ete2, (by show 2 ≤ 9000; decide), Al.flat _ (codeD_flat _)⟩)) (.cons (.inr (.inl ⟨sa, l0, [], [], rfl, rfl, fr _ _ es, stq _ _ el0, (by show 0 ≤ 9000; decide), .nil⟩)) .nil)⟩), fun Hf sf => ?_⟩
  have sA := ((sa1.trans (sa2.trans (sa3.trans (sb1.trans (sb2.trans (sc1.trans (sc2.trans (sc3.trans (sle.trans (sd1.trans (sd2.trans (sd3.trans (sd4.trans (sd5.trans (sd6.trans (sf1.trans (sf2.trans (sf3.trans (sf4.trans (sf5.trans (sys.trans (sg1.trans (sg2.trans (sg3.trans (sfp1.trans (sfp2.trans (sfp3.trans (spp.trans (sq1.trans (sq2.trans (sqq.trans (spr.trans (sall.trans (send.trans (sl0.trans stq)))))))))))))))))))))))))))))))))))).trans sf
  refine q Hf ?_ (d8.same sA)
  exact fun x o n1 n2 e => sA _ _ (b8 _ _ (ne_of_none e ntrH) (bb x o n1 n2 e))
end
end K18

namespace K18
open PySem PySem.Spec PyProof.Rows L2 Ov
section
variable {P : Program} {w : World} {K : PySem.W.Frag} {mg : Str → Option Value} {base : Heap}
theorem sc_law : FnScope ["_law_script", "_law_h", "_law_turn", "_law_many_here", "_law_less", "_law_again", "_law_body", "_law_due", "_law_inner", "_law_often", "_law_rest", "_law_calls", "_law_last", "_law_first", "_law_end", "_law_program", "_law_count"] ["_law_script"] (defScope s_law) := ⟨rfl, rfl, rfl, by decide +kernel, rfl, by decide +kernel, by decide +kernel⟩
-- 0 _law_script, 1 _law_h, 2 _law_turn, 3 _law_many_here, 4 _law_less, 5 _law_again, 6 _law_body, 7 _law_due, 8 _law_inner, 9 _law_often, 10 _law_rest, 11 _law_calls, 12 _law_last, 13 _law_first, 14 _law_end, 15 _law_program, 16 _law_count
theorem ok_law (T : Txt w K mg) (hP : P = R.prog) (c1 : chk1 = true) (c2 : chk2 = true) (c3 : chk3 = true) : FnOk P w K mg base CX0 125 (He.ga K "law") (fdOf K d_law) ["_law_script"] (spLaw K) := by
  have G_law_mix := ok_law_mix (P := P) (base := base) T
  have G_law_next := ok_law_next (P := P) (base := base) T
  have G_law_many := ok_law_many (P := P) (base := base) T 4
  have G_law_all := ok_law_all (P := P) (base := base) T hP
  have G_law_both_good := ok_law_both (P := P) (base := base) T hP c3
  have G_law_alike := ok_law_alike (P := P) (base := base) T 4
  refine T.F_law.ok sc_law (fun vs H Q E h => ?_) (fun cdv A outer s H vs Q E hr h => ?_)
  · obtain ⟨a, ns, rfl, _⟩ := h
    rfl
  obtain ⟨a, ns, rfl, ha, hl, q⟩ := h
  refine ⟨_, PSs.nox (pss_cons (ps_set (i := 1) sc_law.nd rfl (by first | exact Or.inl rfl | exact Or.inr rfl) (pe_call G_law_mix (hr.mono (by omega)) (by rfl) T.g_law_mix T.kp_law_mix T.b_law_mix .nil pass0 (pa_cons (pv 0) (pa_cons pe_int pa_nil))))
      (pss_cons (ps_for PassesOwn.never rfl (pi_range1 (by rfl) T.z_range (pa_cons pe_int pa_nil)) (pg_name (i := 2) sc_law.nd rfl (by first | exact Or.inl rfl | exact Or.inr rfl)) (pss_cons (ps_set (i := 3) sc_law.nd rfl (by first | exact Or.inl rfl | exact Or.inr rfl) (pe_op op_add pe_int (pe_call G_law_next (hr.mono (by omega)) (by rfl) T.g_law_next T.kp_law_next T.b_law_next .nil pass0 (pa_cons (pv 1) (pa_cons pe_int pa_nil)))))
      (pss_cons (ps_set (i := 4) sc_law.nd rfl (by first | exact Or.inl rfl | exact Or.inr rfl) (pe_tup (pa_cons pe_str (pa_cons (pe_tup (pa_cons pe_str pa_nil)) (pa_cons (pe_tup (pa_cons pe_str (pa_cons pe_int pa_nil))) pa_nil)))))
      (pss_cons (ps_set (i := 5) sc_law.nd rfl (by first | exact Or.inl rfl | exact Or.inr rfl) (pe_ix (r := rIxL K) ix_list (pe_lst (pa_cons (pe_tup (pa_cons pe_str (pa_cons pe_int (pa_cons (pv 4) pa_nil)))) (pa_cons (pe_tup (pa_cons pe_str (pa_cons (pe_tup (pa_cons pe_str (pa_cons pe_int pa_nil))) (pa_cons (pv 4) pa_nil)))) pa_nil))) (pe_call G_law_next (hr.mono (by omega)) (by rfl) T.g_law_next T.kp_law_next T.b_law_next .nil pass0 (pa_cons (pv 1) (pa_cons pe_int pa_nil))) (fun _ _ => rfl)))
      (pss_cons (ps_set (i := 6) sc_law.nd rfl (by first | exact Or.inl rfl | exact Or.inr rfl) (pe_tup (pa_cons pe_str (pa_cons (pe_tup (pa_cons pe_str pa_nil)) (pa_cons (pe_tup (pa_cons pe_str (pa_cons (pe_tup (pa_cons pe_str (pa_cons pe_int pa_nil))) (pa_cons (pv 5) pa_nil)))) (pa_cons (pe_tup (pa_cons pe_str (pa_cons pe_int pa_nil))) pa_nil))))))
      (Evl.pss_cut (ps_set (i := 7) sc_law.nd rfl (by first | exact Or.inl rfl | exact Or.inr rfl) (pe_ifExp (pt_cmpR op_lt (pv 3) pe_int (nomark _)) (pe_tup (pa_cons pe_str (pa_cons (pv 3) pa_nil))) (pe_tup (pa_cons pe_str (pa_cons pe_str pa_nil)))))
      (pss_cons (ps_if (pt_not (pt_val (pe_call G_law_alike (hr.mono (by omega)) (by rfl) T.g_law_alike T.kp_law_alike T.b_law_alike .nil pass0 (pa_cons (pe_call G_law_all (hr.mono (by omega)) (by rfl) T.g_law_all T.kp_law_all T.b_law_all .nil pass0 (pa_cons (pe_tup (pa_cons (pe_tup (pa_cons pe_int (pa_cons (pv 6) pa_nil))) pa_nil)) (pa_cons (pv 3) pa_nil))) (pa_cons (pe_tup (pa_cons (pv 7) (pa_cons (pe_lst pa_nil) pa_nil))) pa_nil))))) (pss_one (ps_ret pe_bl)) pss_nil)
      (pss_cons (ps_asg (pe_ix (r := rIxL K) ix_list (pe_lst (pa_cons (pe_tup (pa_cons pe_int (pa_cons pe_int pa_nil))) (pa_cons (pe_tup (pa_cons pe_int (pa_cons pe_int pa_nil))) (pa_cons (pe_tup (pa_cons pe_int (pa_cons pe_int pa_nil))) (pa_cons (pe_tup (pa_cons (pe_op op_add pe_int (pe_call G_law_next (hr.mono (by omega)) (by rfl) T.g_law_next T.kp_law_next T.b_law_next .nil pass0 (pa_cons (pv 1) (pa_cons pe_int pa_nil)))) (pa_cons (pe_op op_add pe_int (pe_call G_law_next (hr.mono (by omega)) (by rfl) T.g_law_next T.kp_law_next T.b_law_next .nil pass0 (pa_cons (pv 1) (pa_cons pe_int pa_nil)))) pa_nil))) pa_nil))))) (pe_call G_law_next (hr.mono (by omega)) (by rfl) T.g_law_next T.kp_law_next T.b_law_next .nil pass0 (pa_cons (pv 1) (pa_cons pe_int pa_nil))) (fun _ _ => rfl)) (Ov.pg_tupK (K := K) (n := 2) rfl rfl (pgs_cons (pg_name (i := 8) sc_law.nd rfl (by first | exact Or.inl rfl | exact Or.inr rfl)) (pgs_cons (pg_name (i := 9) sc_law.nd rfl (by first | exact Or.inl rfl | exact Or.inr rfl)) pgs_nil))))
      (pss_cons (ps_set (i := 10) sc_law.nd rfl (by first | exact Or.inl rfl | exact Or.inr rfl) (pe_call G_law_next (hr.mono (by omega)) (by rfl) T.g_law_next T.kp_law_next T.b_law_next .nil pass0 (pa_cons (pv 1) (pa_cons pe_int pa_nil))))
      (pss_cons (ps_set (i := 11) sc_law.nd rfl (by first | exact Or.inl rfl | exact Or.inr rfl) (pe_call G_law_many (hr.mono (by omega)) (by rfl) T.g_law_many T.kp_law_many T.b_law_many .nil pass0 (pa_cons (pe_tup (pa_cons pe_str (pa_cons pe_int (pa_cons (pe_tup (pa_cons pe_str (pa_cons pe_int pa_nil))) pa_nil)))) (pa_cons (pv 8) pa_nil))))
      (pss_cons (ps_set (i := 12) sc_law.nd rfl (by first | exact Or.inl rfl | exact Or.inr rfl) (pe_ix (r := rIxL K) ix_list (pe_lst (pa_cons (pe_tup (pa_cons pe_str (pa_cons pe_int pa_nil))) (pa_cons (pe_tup (pa_cons pe_str (pa_cons pe_int (pa_cons (pe_tup (pa_cons pe_str (pa_cons pe_int pa_nil))) pa_nil)))) (pa_cons (pe_tup (pa_cons pe_str (pa_cons (pe_tup (pa_cons pe_str (pa_cons pe_int pa_nil))) (pa_cons (pe_tup (pa_cons pe_str (pa_cons pe_int pa_nil))) pa_nil)))) pa_nil)))) (pe_call G_law_next (hr.mono (by omega)) (by rfl) T.g_law_next T.kp_law_next T.b_law_next .nil pass0 (pa_cons (pv 1) (pa_cons pe_int pa_nil))) (fun _ _ => rfl)))
      (pss_cons (ps_set (i := 13) sc_law.nd rfl (by first | exact Or.inl rfl | exact Or.inr rfl) (pe_tup (pa_cons pe_str (pa_cons (pe_tup (pa_cons pe_str pa_nil)) (pa_cons (pe_tup (pa_cons pe_str (pa_cons (pv 11) (pa_cons (pe_tup (pa_cons pe_str (pa_cons pe_int (pa_cons (pv 4) pa_nil)))) pa_nil)))) (pa_cons (pe_tup (pa_cons pe_str (pa_cons pe_int (pa_cons (pe_tup (pa_cons pe_str pa_nil)) pa_nil)))) pa_nil))))))
      (pss_cons (ps_set (i := 14) sc_law.nd rfl (by first | exact Or.inl rfl | exact Or.inr rfl) (pe_tup (pa_cons pe_str (pa_cons (pe_call G_law_many (hr.mono (by omega)) (by rfl) T.g_law_many T.kp_law_many T.b_law_many .nil pass0 (pa_cons (pe_tup (pa_cons pe_str (pa_cons pe_int (pa_cons (pe_tup (pa_cons pe_str (pa_cons pe_int pa_nil))) pa_nil)))) (pa_cons (pe_op op_add (pv 10) pe_int) pa_nil))) (pa_cons (pv 12) pa_nil)))))
      (pss_cons (ps_set (i := 15) sc_law.nd rfl (by first | exact Or.inl rfl | exact Or.inr rfl) (pe_tup (pa_cons (pe_tup (pa_cons pe_int (pa_cons (pv 13) pa_nil))) (pa_cons (pe_tup (pa_cons pe_int (pa_cons (pv 14) pa_nil))) (pa_cons (pe_tup (pa_cons pe_int (pa_cons (pe_tup (pa_cons pe_str (pa_cons (pe_tup (pa_cons pe_str pa_nil)) (pa_cons (pe_tup (pa_cons pe_str (pa_cons pe_int pa_nil))) pa_nil)))) pa_nil))) pa_nil)))))
      (pss_cons (ps_set (i := 15) sc_law.nd rfl (by first | exact Or.inl rfl | exact Or.inr rfl) (pe_op (r := rCatT K) op_catT (pv 15) (pe_tup (pa_cons (pe_tup (pa_cons pe_int (pa_cons (pe_call G_law_many (hr.mono (by omega)) (by rfl) T.g_law_many T.kp_law_many T.b_law_many .nil pass0 (pa_cons (pe_tup (pa_cons pe_str (pa_cons pe_int (pa_cons (pe_tup (pa_cons pe_str (pa_cons pe_int pa_nil))) pa_nil)))) (pa_cons (pv 9) pa_nil))) pa_nil))) pa_nil))))
      (pss_cons (ps_set (i := 16) sc_law.nd rfl (by first | exact Or.inl rfl | exact Or.inr rfl) (pe_op op_add (pe_op op_add (pe_op op_add (pe_op op_mul pe_int (pe_op op_add (pe_op op_mul (pv 8) (pe_op op_add pe_int (pv 9))) pe_int)) pe_int) (pv 10)) pe_int))
      (pss_cons (ps_set (i := 7) sc_law.nd rfl (by first | exact Or.inl rfl | exact Or.inr rfl) (pe_tup (pa_cons pe_str (pa_cons (pe_op op_mod (pe_op op_add (pe_op op_mul (pe_op op_mul pe_int (pv 8)) (pv 9)) pe_int) pe_int) pa_nil))))
      (Evl.pss_cut (ps_if (pt_cmpR op_ne (pe_ix (r := rIxT K) ix_tup (pv 12) pe_int (fun _ _ => rfl)) pe_str (nomark _)) (pss_one (ps_set (i := 7) sc_law.nd rfl (by first | exact Or.inl rfl | exact Or.inr rfl) (pe_tup (pa_cons pe_str (pa_cons pe_str pa_nil))))) pss_nil)
      (Evl.pss_cut (ps_if (PW.pt (pw_or (PW.pt (pw_and (pt_cmpR op_eq (pe_ix (r := rIxT K) ix_tup (pv 12) pe_int (fun _ _ => rfl)) pe_str (nomark _)) (pw_and1 (pt_cmpR op_gt (pv 16) pe_int (nomark _))))) (pw_or1 (pt_cmpR op_gt (pv 16) pe_int (nomark _))))) (pss_one (ps_set (i := 7) sc_law.nd rfl (by first | exact Or.inl rfl | exact Or.inr rfl) (pe_tup (pa_cons pe_str (pa_cons pe_str pa_nil))))) pss_nil)
      (pss_one (ps_if (PW.pt (pw_or (pt_not (pt_val (pe_call G_law_alike (hr.mono (by omega)) (by rfl) T.g_law_alike T.kp_law_alike T.b_law_alike .nil pass0 (pa_cons (pe_call G_law_all (hr.mono (by omega)) (by rfl) T.g_law_all T.kp_law_all T.b_law_all .nil pass0 (pa_cons (pv 15) (pa_cons pe_int pa_nil))) (pa_cons (pe_tup (pa_cons (pv 7) (pa_cons (pe_lst pa_nil) pa_nil))) pa_nil))))) (pw_or1 (pt_not (pt_val (pe_call G_law_both_good (hr.mono (by omega)) (by rfl) T.g_law_both_good T.kp_law_both_good T.b_law_both_good .nil pass0 (pa_cons (pv 1) pa_nil))))))) (pss_one (ps_ret pe_bl)) pss_nil)))))))))))))))))))))
      (pss_one (ps_ret pe_bl)))), ?_⟩
  refine ⟨_, rfl, a, ns, 67, rfl, ha, hl, by decide, by decide, fun h c H1 hh hc s1 d1 => ?_⟩
  refine ⟨4, rfl, by decide, by decide, ?_⟩
  refine for_range (lo := 0) (n := (4 : Int).toNat) (fun i σ' H' => ∃ (y2 y3 y4 y5 y6 y7 y8 y9 y10 y11 y12 y13 y14 y15 y16 : Option V), σ' = [some (.ref a), some (.ref h), y2, y3, y4, y5, y6, y7, y8, y9, y10, y11, y12, y13, y14, y15, y16] ∧ Dr H' h c) ⟨none, none, none, none, none, none, none, none, none, none, none, none, none, none, none, rfl, d1⟩ ?_ ?_
  · rintro i0 σ' H1 hi ⟨y2, y3, y4, y5, y6, y7, y8, y9, y10, y11, y12, y13, y14, y15, y16, rfl, d1⟩
    refine ⟨_, rfl, h, c, 7, rfl, d1, by decide, by decide, fun r1 H2 r10 r11 b2 d2 => ⟨_, _, rfl, rfl, ?_⟩⟩
    obtain ⟨m, rfl⟩ : ∃ m : Nat, r1 = (m : Int) := ⟨r1.toNat, by omega⟩
    have em : (9 : Int) + (m : Int) = ((9 + m : Nat) : Int) := by omega
    clear b2 d1
    refine ⟨sml 1, fun xa hxa => ?_⟩
    obtain ⟨sxa, wxa⟩ := newW (H := H2) (t := xa) (xs := [.str "argument"]) .arg 0 rfl .nil hxa
    generalize upd H2 xa (.tup [.str "argument"]) = G0 at sxa wxa ⊢
    refine ⟨sml 2, fun xb hxb => ?_⟩
    obtain ⟨sxb, wxb⟩ := newW (H := G0) (t := xb) (xs := [.str "num", .int 1]) .num 1 rfl .nil hxb
    generalize upd G0 xb (.tup [.str "num", .int 1]) = G1 at sxb wxb ⊢
    refine ⟨sml 3, fun tl htl => ?_⟩
    obtain ⟨stl, wtl⟩ := newW (H := G1) (t := tl) (xs := [.str "less", .ref xa, .ref xb]) .less 0 rfl (.cons (wxa.keep (Keep.same sxb)) (.cons (wxb.keep (Keep.same (Same.refl _))) .nil)) htl
    generalize upd G1 tl (.tup [.str "less", .ref xa, .ref xb]) = G2 at stl wtl ⊢
    refine ⟨_, rfl, sml 3, fun u1 hu1 => ?_⟩
    obtain ⟨su1, wu1⟩ := newW (H := G2) (t := u1) (xs := [.str "call", .int 0, .ref tl]) .call 0 rfl (.cons (wtl.keep (Keep.same (Same.refl _))) .nil) hu1
    generalize upd G2 u1 (.tup [.str "call", .int 0, .ref tl]) = G3 at su1 wu1 ⊢
    refine ⟨sml 2, fun u2 hu2 => ?_⟩
    obtain ⟨su2, wu2⟩ := newW (H := G3) (t := u2) (xs := [.str "way", .int 0]) .way 0 rfl .nil hu2
    generalize upd G3 u2 (.tup [.str "way", .int 0]) = G4 at su2 wu2 ⊢
    refine ⟨_, rfl, sml 3, fun u3 hu3 => ?_⟩
    obtain ⟨su3, wu3⟩ := newW (H := G4) (t := u3) (xs := [.str "through", .ref u2, .ref tl]) .through 0 rfl (.cons (wu2.keep (Keep.same (Same.refl _))) (.cons (wtl.keep (Keep.same (su1.trans su2))) .nil)) hu3
    generalize upd G4 u3 (.tup [.str "through", .ref u2, .ref tl]) = G5 at su3 wu3 ⊢
    have dla := d2.same (sxa.trans (sxb.trans (stl.trans (su1.trans (su2.trans su3)))))
    have wtl0 := (wtl.keep (Keep.same (su1.trans (su2.trans su3))))
    refine ⟨sml 2, fun la hla => ?_⟩
    have sla := Same.new (o := .lst [.ref u1, .ref u3]) hla
    have ela : upd G5 la (.lst [.ref u1, .ref u3]) la = some (.lst [.ref u1, .ref u3]) := upd_same
    generalize upd G5 la (.lst [.ref u1, .ref u3]) = G6 at sla ela ⊢
    have nla := dla.new hla
    have dg := dla.same sla
    refine ⟨_, rfl, h, c, 2, rfl, dg, by decide, by decide, fun rk H3 rk0 rk1 b3 d3 => ?_⟩
    obtain ⟨k, rfl⟩ : ∃ k : Nat, rk = (k : Int) := ⟨rk.toNat, by omega⟩
    have kb3 := Keep.but b3 dg
    have ela3 := b3 _ _ nla.1 nla.2 ela
    have hk2 : k < 2 := by omega
    obtain ⟨ta, hta, wta⟩ : ∃ ta, [V.ref u1, V.ref u3][k]? = some ta ∧ WAt H3 ta (again1 k) := by
      rcases (by omega : k = 0 ∨ k = 1) with rfl | rfl
      · exact ⟨_, rfl, (wu1.keep (Keep.same (su2.trans (su3.trans sla)))).keep kb3⟩
      · exact ⟨_, rfl, (wu3.keep (Keep.same sla)).keep kb3⟩
    have wl3 : WAt H3 (.ref tl) less1 := (wtl0.keep (Keep.same sla)).keep kb3
    refine ⟨la, _, (k : Int), ta, rfl, rfl, SqL.of ela3, atI_nat hta, ?_⟩
    clear ela3 nla dg dla kb3 b3 ela wtl0 d2 sxa sxb stl su1 su2 su3 sla wxa wxb wtl wu1 wu2 wu3
    refine ⟨sml 1, fun v1 hv1 => ?_⟩
    obtain ⟨sv1, wv1⟩ := newW (H := H3) (t := v1) (xs := [.str "argument"]) .arg 0 rfl .nil hv1
    generalize upd H3 v1 (.tup [.str "argument"]) = G20 at sv1 wv1 ⊢
    refine ⟨sml 2, fun v2 hv2 => ?_⟩
    obtain ⟨sv2, wv2⟩ := newW (H := G20) (t := v2) (xs := [.str "num", .int 1]) .num 1 rfl .nil hv2
    generalize upd G20 v2 (.tup [.str "num", .int 1]) = G21 at sv2 wv2 ⊢
    refine ⟨_, rfl, sml 3, fun v3 hv3 => ?_⟩
    obtain ⟨sv3, wv3⟩ := newW (H := G21) (t := v3) (xs := [.str "plus", .ref v2, ta]) .plus 0 rfl (.cons (wv2.keep (Keep.same (Same.refl _))) (.cons (wta.keep (Keep.same (sv1.trans sv2))) .nil)) hv3
    generalize upd G21 v3 (.tup [.str "plus", .ref v2, ta]) = G22 at sv3 wv3 ⊢
    refine ⟨sml 2, fun v4 hv4 => ?_⟩
    obtain ⟨sv4, wv4⟩ := newW (H := G22) (t := v4) (xs := [.str "num", .int 0]) .num 0 rfl .nil hv4
    generalize upd G22 v4 (.tup [.str "num", .int 0]) = G23 at sv4 wv4 ⊢
    refine ⟨sml 4, fun v5 hv5 => ?_⟩
    obtain ⟨sv5, wv5⟩ := newW (H := G23) (t := v5) (xs := [.str "if", .ref v1, .ref v3, .ref v4]) .ife 0 rfl (.cons (wv1.keep (Keep.same (sv2.trans (sv3.trans sv4)))) (.cons (wv3.keep (Keep.same sv4)) (.cons (wv4.keep (Keep.same (Same.refl _))) .nil))) hv5
    generalize upd G23 v5 (.tup [.str "if", .ref v1, .ref v3, .ref v4]) = G24 at sv5 wv5 ⊢
    have wl4 := wl3.keep (Keep.same (sv1.trans (sv2.trans (sv3.trans (sv4.trans sv5)))))
    have d4 := d3.same (sv1.trans (sv2.trans (sv3.trans (sv4.trans sv5))))
    refine ⟨fun σ' H' => ∃ td, σ' = [some (.ref a), some (.ref h), some (.int (0 + (i0 : Int))), some (.int (9 + (m : Int))), some (.ref tl), some ta, some (.ref v5), some (.ref td), y8, y9, y10, y11, y12, y13, y14, y15, y16] ∧ Same G24 H' ∧ H' td = some (.tup [.str (codeD (due1 (9 + m))).1, (codeD (due1 (9 + m))).2]), ?_, ?_⟩
    · refine ⟨_, rfl, _, _, rfl, rfl, _, rfl, ?_⟩
      unfold due1
      by_cases h13 : 9 + m < 13
      · rw [decide_eq_true (show (9 : Int) + (m : Int) < 13 by omega)]
        refine iteT ⟨_, rfl, sml 2, fun td htd => ⟨td, rfl, Same.new htd, ?_⟩⟩
        rw [upd_same, if_pos h13, ← em]
        rfl
      · rw [decide_eq_false (show ¬ (9 : Int) + (m : Int) < 13 by omega)]
        refine iteF ⟨sml 2, fun td htd => ⟨td, rfl, Same.new htd, ?_⟩⟩
        rw [upd_same, if_neg h13]
        rfl
    rintro σ' H5 ⟨td, rfl, std, etd⟩
    have wl5 := wl4.keep (Keep.same std)
    have d5 := d4.same std
    have wv55 := wv5.keep (Keep.same std)
    obtain ⟨hB1, hd1⟩ := chk1_at c1 (r := m) (c := k) (by omega) hk2
    clear wl3 wl4 d3 d4 std wta sv1 wv1 sv2 wv2 sv3 wv3 sv4 wv4 sv5 wv5
    refine ⟨_, rfl, sml 2, fun f1 hf1 => ?_⟩
    obtain ⟨sf1, wf1⟩ := newF (H := H5) (t := f1) (z := 1) wv55 hf1
    generalize upd H5 f1 (.tup [.int 1, .ref v5]) = G40 at sf1 wf1 ⊢
    refine ⟨sml 1, fun pp hpp => ?_⟩
    have spp := Same.new (o := .tup [.ref f1]) hpp
    have epp : upd G40 pp (.tup [.ref f1]) pp = some (.tup [.ref f1]) := upd_same
    generalize upd G40 pp (.tup [.ref f1]) = G41 at spp epp ⊢
    refine ⟨_, rfl, .ref pp, p1 k, ((9 + m : Nat) : Int), by
      show [V.ref pp, V.int (9 + (m : Int))] = _
      rw [em], ⟨pp, _, rfl, epp, .cons (wf1.keep (Keep.same spp)) .nil⟩, hB1, by omega, by omega, fun H6 r tt sa sal er et es => ?_⟩
    rw [hd1] at et
    have etd6 := (sf1.trans (spp.trans sal)) _ _ etd
    refine ⟨_, rfl, sml 0, fun l0 hl0 => ?_⟩
    have sl0 := Same.new (o := .lst []) hl0
    have el0 : upd H6 l0 (.lst []) l0 = some (.lst []) := upd_same
    generalize upd H6 l0 (.lst []) = G42 at sl0 el0 ⊢
    refine ⟨sml 2, fun tq htq => ?_⟩
    have stq := Same.new (o := .tup [.ref td, .ref l0]) htq
    have etq : upd G42 tq (.tup [.ref td, .ref l0]) tq = some (.tup [.ref td, .ref l0]) := upd_same
    generalize upd G42 tq (.tup [.ref td, .ref l0]) = G43 at stq etq ⊢
    refine ⟨.ref r, .ref tq, rfl, .inr (.inr ⟨r, tq, _, _, rfl, rfl, (sl0.trans stq) _ _ er, etq, (by show 2 ≤ 9000; decide), .cons (.inr (.inr ⟨tt, td, _, _, rfl, rfl, (sl0.trans stq) _ _ et, (sl0.trans stq) _ _ etd6, (by show 2 ≤ 9000; decide), Al.flat _ (codeD_flat _)⟩)) (.cons (.inr (.inl ⟨sa, l0, [], [], rfl, rfl, (sl0.trans stq) _ _ es, stq _ _ el0, (by show 0 ≤ 9000; decide), .nil⟩)) .nil)⟩), fun H7 s7 => ⟨_, rfl, iteF ?_⟩⟩
    have s57 : Same H5 H7 := (sf1.trans (spp.trans (sal.trans (sl0.trans (stq.trans s7)))))
    have wl7 := wl5.keep (Keep.same s57)
    have d7 := d5.same s57
    clear s57 s7 er et es etd etd6 etq el0 wl5 d5 wv55 sl0 stq sal epp spp sf1 wf1 hB1 hd1
    refine ⟨sml 2, fun ca hca => ?_⟩
    have sca := Same.new (o := .tup [.int 3, .int 5]) hca
    have eca : upd H7 ca (.tup [.int 3, .int 5]) ca = some (.tup [.int 3, .int 5]) := upd_same
    generalize upd H7 ca (.tup [.int 3, .int 5]) = G60 at sca eca ⊢
    refine ⟨sml 2, fun cb hcb => ?_⟩
    have scb := Same.new (o := .tup [.int 6, .int 2]) hcb
    have ecb : upd G60 cb (.tup [.int 6, .int 2]) cb = some (.tup [.int 6, .int 2]) := upd_same
    generalize upd G60 cb (.tup [.int 6, .int 2]) = G61 at scb ecb ⊢
    refine ⟨sml 2, fun cc hcc => ?_⟩
    have scc := Same.new (o := .tup [.int 2, .int 8]) hcc
    have ecc : upd G61 cc (.tup [.int 2, .int 8]) cc = some (.tup [.int 2, .int 8]) := upd_same
    generalize upd G61 cc (.tup [.int 2, .int 8]) = G62 at scc ecc ⊢
    have dg := d7.same (sca.trans (scb.trans scc))
    refine ⟨_, rfl, h, c, 6, rfl, dg, by decide, by decide, fun ra H8 ra0 ra1 b8 d8 => ⟨_, _, rfl, rfl, ?_⟩⟩
    refine ⟨_, rfl, h, c, 4, rfl, d8, by decide, by decide, fun rb H9 rb0 rb1 b9 d9 => ⟨_, _, rfl, rfl, ?_⟩⟩
    obtain ⟨na, rfl⟩ : ∃ k : Nat, ra = (k : Int) := ⟨ra.toNat, by omega⟩
    obtain ⟨nb, rfl⟩ : ∃ k : Nat, rb = (k : Int) := ⟨rb.toNat, by omega⟩
    have k79 : Keep H7 H9 := (Keep.same (sca.trans (scb.trans scc))).trans ((Keep.but b8 dg).trans (Keep.but b9 d8))
    have kab := (Keep.but b8 dg).trans (Keep.but b9 d8)
    have eca9 := kab _ _ ((scb.trans scc) _ _ eca)
    have ecb9 := kab _ _ (scc _ _ ecb)
    have ecc9 := kab _ _ ((Same.refl _) _ _ ecc)
    refine ⟨sml 2, fun cd hcd => ?_⟩
    have scd := Same.new (o := .tup [.int (1 + (na : Int)), .int (1 + (nb : Int))]) hcd
    have ecd : upd H9 cd (.tup [.int (1 + (na : Int)), .int (1 + (nb : Int))]) cd = some (.tup [.int (1 + (na : Int)), .int (1 + (nb : Int))]) := upd_same
    generalize upd H9 cd (.tup [.int (1 + (na : Int)), .int (1 + (nb : Int))]) = G70 at scd ecd ⊢
    refine ⟨sml 4, fun lq hlq => ?_⟩
    have slq := Same.new (o := .lst [.ref ca, .ref cb, .ref cc, .ref cd]) hlq
    have elq : upd G70 lq (.lst [.ref ca, .ref cb, .ref cc, .ref cd]) lq = some (.lst [.ref ca, .ref cb, .ref cc, .ref cd]) := upd_same
    generalize upd G70 lq (.lst [.ref ca, .ref cb, .ref cc, .ref cd]) = G71 at slq elq ⊢
    have nlq := (d9.same scd).new hlq
    have dh := d9.same (scd.trans slq)
    refine ⟨_, rfl, h, c, 4, rfl, dh, by decide, by decide, fun rq H10 rq0 rq1 b10 d10 => ?_⟩
    obtain ⟨kq, rfl⟩ : ∃ k : Nat, rq = (k : Int) := ⟨rq.toNat, by omega⟩
    have kb10 := Keep.but b10 dh
    have elq10 := b10 _ _ nlq.1 nlq.2 elq
    have k910 : Keep H9 H10 := (Keep.same (scd.trans slq)).trans kb10
    obtain ⟨tp, x, y, htp, etp, hxy, hx1, hx8, hy1, hy8⟩ : ∃ tp, ∃ x y : Nat, [V.ref ca, V.ref cb, V.ref cc, V.ref cd][kq]? = some (.ref tp) ∧ H10 tp = some (.tup [.int (x : Int), .int (y : Int)]) ∧ (x, y) ∈ pairs2 ∧ 1 ≤ x ∧ x ≤ 16 ∧ 1 ≤ y ∧ y ≤ 16 := by
      rcases (by omega : kq = 0 ∨ kq = 1 ∨ kq = 2 ∨ kq = 3) with rfl | rfl | rfl | rfl
      · exact ⟨ca, 3, 5, rfl, k910 _ _ eca9, by decide, by decide, by decide, by decide, by decide⟩
      · exact ⟨cb, 6, 2, rfl, k910 _ _ ecb9, by decide, by decide, by decide, by decide, by decide⟩
      · exact ⟨cc, 2, 8, rfl, k910 _ _ ecc9, by decide, by decide, by decide, by decide, by decide⟩
      · refine ⟨cd, 1 + na, 1 + nb, rfl, kb10 _ _ (slq _ _ ?_), ?_, by omega, by omega, by omega, by omega⟩
        · rw [ecd, Int.natCast_add, Int.natCast_add]
          rfl
        · unfold pairs2
          refine List.mem_append_right _ (List.mem_flatMap.mpr ⟨na, List.mem_range.mpr (by omega), List.mem_map.mpr ⟨nb, List.mem_range.mpr (by omega), ?_⟩⟩)
          rw [Nat.add_comm na 1, Nat.add_comm nb 1]
    refine ⟨lq, _, (kq : Int), .ref tp, rfl, rfl, SqL.of elq10, atI_nat htp, tp, _, rfl, SqT.of etp, rfl, _, _, rfl, _, _, rfl, rfl, ?_⟩
    have wl10 := (wl7.keep k79).keep k910
    refine ⟨_, rfl, h, c, 10, rfl, d10, by decide, by decide, fun rr H11 rr0 rr1 b11 d11 => ?_⟩
    obtain ⟨nr, rfl⟩ : ∃ k : Nat, rr = (k : Int) := ⟨rr.toNat, by omega⟩
    have wl11 := wl10.keep (Keep.but b11 d10)
    clear wl10 wl7 k79 k910 kab kb10 elq10 nlq dh dg d8 d9 d10 b8 b9 b10 b11 etp htp eca9 ecb9 ecc9 eca ecb ecc ecd elq sca scb scc scd slq d7
    refine ⟨sml 2, fun n1 hn1 => ?_⟩
    obtain ⟨sn1, wn1⟩ := newW (H := H11) (t := n1) (xs := [.str "num", .int 1]) .num 1 rfl .nil hn1
    generalize upd H11 n1 (.tup [.str "num", .int 1]) = G80 at sn1 wn1 ⊢
    refine ⟨sml 3, fun w1 hw1 => ?_⟩
    obtain ⟨sw1, ww1⟩ := newW (H := G80) (t := w1) (xs := [.str "call", .int 3, .ref n1]) .call 3 rfl (.cons (wn1.keep (Keep.same (Same.refl _))) .nil) hw1
    generalize upd G80 w1 (.tup [.str "call", .int 3, .ref n1]) = G81 at sw1 ww1 ⊢
    refine ⟨_, rfl, .ref w1, wCall 3 (wNum 1), x, rfl, ww1, hx1, hx8, by omega, fun Hm yc syc wyc => ?_⟩
    refine ⟨sml 2, fun e1 he1 => ?_⟩
    obtain ⟨se1, we1⟩ := newW (H := Hm) (t := e1) (xs := [.str "num", .int 5]) .num 5 rfl .nil he1
    generalize upd Hm e1 (.tup [.str "num", .int 5]) = G82 at se1 we1 ⊢
    refine ⟨sml 2, fun e2 he2 => ?_⟩
    obtain ⟨se2, we2⟩ := newW (H := G82) (t := e2) (xs := [.str "way", .int 2]) .way 2 rfl .nil he2
    generalize upd G82 e2 (.tup [.str "way", .int 2]) = G83 at se2 we2 ⊢
    refine ⟨sml 3, fun e3 he3 => ?_⟩
    obtain ⟨se3, we3⟩ := newW (H := G83) (t := e3) (xs := [.str "call", .int 2, .ref e2]) .call 2 rfl (.cons (we2.keep (Keep.same (Same.refl _))) .nil) he3
    generalize upd G83 e3 (.tup [.str "call", .int 2, .ref e2]) = G84 at se3 we3 ⊢
    refine ⟨sml 2, fun e4 he4 => ?_⟩
    obtain ⟨se4, we4⟩ := newW (H := G84) (t := e4) (xs := [.str "num", .int 3]) .num 3 rfl .nil he4
    generalize upd G84 e4 (.tup [.str "num", .int 3]) = G85 at se4 we4 ⊢
    refine ⟨sml 2, fun e5 he5 => ?_⟩
    obtain ⟨se5, we5⟩ := newW (H := G85) (t := e5) (xs := [.str "num", .int 1]) .num 1 rfl .nil he5
    generalize upd G85 e5 (.tup [.str "num", .int 1]) = G86 at se5 we5 ⊢
    refine ⟨sml 3, fun e6 he6 => ?_⟩
    obtain ⟨se6, we6⟩ := newW (H := G86) (t := e6) (xs := [.str "through", .ref e4, .ref e5]) .through 0 rfl (.cons (we4.keep (Keep.same se5)) (.cons (we5.keep (Keep.same (Same.refl _))) .nil)) he6
    generalize upd G86 e6 (.tup [.str "through", .ref e4, .ref e5]) = G87 at se6 we6 ⊢
    have dll := d11.same (sn1.trans (sw1.trans (syc.trans (se1.trans (se2.trans (se3.trans (se4.trans (se5.trans se6))))))))
    refine ⟨sml 3, fun ll hll => ?_⟩
    have sll := Same.new (o := .lst [.ref e1, .ref e3, .ref e6]) hll
    have ell : upd G87 ll (.lst [.ref e1, .ref e3, .ref e6]) ll = some (.lst [.ref e1, .ref e3, .ref e6]) := upd_same
    generalize upd G87 ll (.lst [.ref e1, .ref e3, .ref e6]) = G88 at sll ell ⊢
    have nll := dll.new hll
    have dg := dll.same sll
    refine ⟨_, rfl, h, c, 3, rfl, dg, by decide, by decide, fun rl H12 rl0 rl1 b12 d12 => ?_⟩
    obtain ⟨l, rfl⟩ : ∃ k : Nat, rl = (k : Int) := ⟨rl.toNat, by omega⟩
    have kb := Keep.but b12 dg
    have ell12 := b12 _ _ nll.1 nll.2 ell
    have hl3 : l < 3 := by omega
    obtain ⟨tz, oz, gz, uz, htz, hop, eaz, wtz⟩ : ∃ (tz : Addr) (oz : Op) (gz : Int) (uz : List V), [V.ref e1, V.ref e3, V.ref e6][l]? = some (.ref tz) ∧ (l = 0 ∧ oz = .num ∨ l = 1 ∧ oz = .call ∨ l = 2 ∧ oz = .through) ∧ H12 tz = some (.tup (.str oz.name :: (oz.pre gz ++ uz))) ∧ WAt H12 (.ref tz) (last2 l) := by
      rcases (by omega : l = 0 ∨ l = 1 ∨ l = 2) with rfl | rfl | rfl
      · have z := (we1.keep (Keep.same (se2.trans (se3.trans (se4.trans (se5.trans (se6.trans sll))))))).keep kb
        have z2 := z
        cases z2 with
        | mk h1 h2 => exact ⟨e1, _, _, _, rfl, by simp, h1, z⟩
      · have z := (we3.keep (Keep.same (se4.trans (se5.trans (se6.trans sll))))).keep kb
        have z2 := z
        cases z2 with
        | mk h1 h2 => exact ⟨e3, _, _, _, rfl, by simp, h1, z⟩
      · have z := (we6.keep (Keep.same sll)).keep kb
        have z2 := z
        cases z2 with
        | mk h1 h2 => exact ⟨e6, _, _, _, rfl, by simp, h1, z⟩
    refine ⟨ll, _, (l : Int), .ref tz, rfl, rfl, SqL.of ell12, atI_nat htz, ?_⟩
    have wl12 := (wl11.keep (Keep.same (sn1.trans (sw1.trans (syc.trans (se1.trans (se2.trans (se3.trans (se4.trans (se5.trans (se6.trans sll))))))))))).keep kb
    have wyc12 := (wyc.keep (Keep.same (se1.trans (se2.trans (se3.trans (se4.trans (se5.trans (se6.trans sll)))))))).keep kb
    clear wl11 kb ell12 ell nll dg dll b12 d11 sn1 sw1 syc se1 se2 se3 se4 se5 se6 sll wn1 ww1 wyc we1 we2 we3 we4 we5 we6
    refine ⟨sml 1, fun k1 hk1 => ?_⟩
    obtain ⟨sk1, wk1⟩ := newW (H := H12) (t := k1) (xs := [.str "argument"]) .arg 0 rfl .nil hk1
    generalize upd H12 k1 (.tup [.str "argument"]) = G100 at sk1 wk1 ⊢
    refine ⟨_, rfl, _, rfl, sml 3, fun k2 hk2 => ?_⟩
    obtain ⟨sk2, wk2⟩ := newW (H := G100) (t := k2) (xs := [.str "call", .int 0, .ref tl]) .call 0 rfl (.cons (wl12.keep (Keep.same sk1)) .nil) hk2
    generalize upd G100 k2 (.tup [.str "call", .int 0, .ref tl]) = G101 at sk2 wk2 ⊢
    refine ⟨sml 3, fun k3 hk3 => ?_⟩
    obtain ⟨sk3, wk3⟩ := newW (H := G101) (t := k3) (xs := [.str "plus", yc, .ref k2]) .plus 0 rfl (.cons (wyc12.keep (Keep.same (sk1.trans sk2))) (.cons (wk2.keep (Keep.same (Same.refl _))) .nil)) hk3
    generalize upd G101 k3 (.tup [.str "plus", yc, .ref k2]) = G102 at sk3 wk3 ⊢
    refine ⟨sml 1, fun k4 hk4 => ?_⟩
    obtain ⟨sk4, wk4⟩ := newW (H := G102) (t := k4) (xs := [.str "argument"]) .arg 0 rfl .nil hk4
    generalize upd G102 k4 (.tup [.str "argument"]) = G103 at sk4 wk4 ⊢
    refine ⟨sml 3, fun k5 hk5 => ?_⟩
    obtain ⟨sk5, wk5⟩ := newW (H := G103) (t := k5) (xs := [.str "call", .int 1, .ref k4]) .call 1 rfl (.cons (wk4.keep (Keep.same (Same.refl _))) .nil) hk5
    generalize upd G103 k5 (.tup [.str "call", .int 1, .ref k4]) = G104 at sk5 wk5 ⊢
    refine ⟨sml 4, fun k6 hk6 => ?_⟩
    obtain ⟨sk6, wk6⟩ := newW (H := G104) (t := k6) (xs := [.str "if", .ref k1, .ref k3, .ref k5]) .ife 0 rfl (.cons (wk1.keep (Keep.same (sk2.trans (sk3.trans (sk4.trans sk5))))) (.cons (wk3.keep (Keep.same (sk4.trans sk5))) (.cons (wk5.keep (Keep.same (Same.refl _))) .nil))) hk6
    generalize upd G104 k6 (.tup [.str "if", .ref k1, .ref k3, .ref k5]) = G105 at sk6 wk6 ⊢
    refine ⟨sml 2, fun m1 hm1 => ?_⟩
    obtain ⟨sm1, wm1⟩ := newW (H := G105) (t := m1) (xs := [.str "num", .int 1]) .num 1 rfl .nil hm1
    generalize upd G105 m1 (.tup [.str "num", .int 1]) = G106 at sm1 wm1 ⊢
    refine ⟨sml 3, fun m2 hm2 => ?_⟩
    obtain ⟨sm2, wm2⟩ := newW (H := G106) (t := m2) (xs := [.str "call", .int 2, .ref m1]) .call 2 rfl (.cons (wm1.keep (Keep.same (Same.refl _))) .nil) hm2
    generalize upd G106 m2 (.tup [.str "call", .int 2, .ref m1]) = G107 at sm2 wm2 ⊢
    refine ⟨_, rfl, _, _, rfl, rfl, .ref m2, wCall 2 (wNum 1), nr + 1, by
      show [V.ref m2, V.int ((nr : Int) + 1)] = _
      rw [show (nr : Int) + 1 = ((nr + 1 : Nat) : Int) by omega], (wm2.keep (Keep.same (Same.refl _))), by omega, by omega, by omega, fun Hn ym sym wym => ?_⟩
    refine ⟨_, rfl, sml 3, fun m3 hm3 => ?_⟩
    obtain ⟨sm3, wm3⟩ := newW (H := Hn) (t := m3) (xs := [.str "then", ym, .ref tz]) .thn 0 rfl (.cons wym (.cons (wtz.keep (Keep.same (sk1.trans (sk2.trans (sk3.trans (sk4.trans (sk5.trans (sk6.trans (sm1.trans (sm2.trans sym)))))))))) .nil)) hm3
    generalize upd Hn m3 (.tup [.str "then", ym, .ref tz]) = G108 at sm3 wm3 ⊢
    refine ⟨_, rfl, sml 2, fun fp1 hfp1 => ?_⟩
    obtain ⟨sfp1, wfp1⟩ := newF (H := G108) (t := fp1) (z := 2) (wk6.keep (Keep.same (sm1.trans (sm2.trans (sym.trans sm3))))) hfp1
    generalize upd G108 fp1 (.tup [.int 2, .ref k6]) = G109 at sfp1 wfp1 ⊢
    refine ⟨_, rfl, sml 2, fun fp2 hfp2 => ?_⟩
    obtain ⟨sfp2, wfp2⟩ := newF (H := G109) (t := fp2) (z := 3) (wm3.keep (Keep.same sfp1)) hfp2
    generalize upd G109 fp2 (.tup [.int 3, .ref m3]) = G110 at sfp2 wfp2 ⊢
    refine ⟨sml 1, fun o1 ho1 => ?_⟩
    obtain ⟨so1, wo1⟩ := newW (H := G110) (t := o1) (xs := [.str "argument"]) .arg 0 rfl .nil ho1
    generalize upd G110 o1 (.tup [.str "argument"]) = G111 at so1 wo1 ⊢
    refine ⟨sml 2, fun o2 ho2 => ?_⟩
    obtain ⟨so2, wo2⟩ := newW (H := G111) (t := o2) (xs := [.str "num", .int 0]) .num 0 rfl .nil ho2
    generalize upd G111 o2 (.tup [.str "num", .int 0]) = G112 at so2 wo2 ⊢
    refine ⟨sml 3, fun o3 ho3 => ?_⟩
    obtain ⟨so3, wo3⟩ := newW (H := G112) (t := o3) (xs := [.str "plus", .ref o1, .ref o2]) .plus 0 rfl (.cons (wo1.keep (Keep.same so2)) (.cons (wo2.keep (Keep.same (Same.refl _))) .nil)) ho3
    generalize upd G112 o3 (.tup [.str "plus", .ref o1, .ref o2]) = G113 at so3 wo3 ⊢
    refine ⟨sml 2, fun fp3 hfp3 => ?_⟩
    obtain ⟨sfp3, wfp3⟩ := newF (H := G113) (t := fp3) (z := 1) (wo3.keep (Keep.same (Same.refl _))) hfp3
    generalize upd G113 fp3 (.tup [.int 1, .ref o3]) = G114 at sfp3 wfp3 ⊢
    refine ⟨sml 3, fun pp2 hpp2 => ?_⟩
    have spp2 := Same.new (o := .tup [.ref fp1, .ref fp2, .ref fp3]) hpp2
    have epp2 : upd G114 pp2 (.tup [.ref fp1, .ref fp2, .ref fp3]) pp2 = some (.tup [.ref fp1, .ref fp2, .ref fp3]) := upd_same
    generalize upd G114 pp2 (.tup [.ref fp1, .ref fp2, .ref fp3]) = G115 at spp2 epp2 ⊢
    refine ⟨_, rfl, ?_⟩
    refine ⟨sml 2, fun r1 hr1 => ?_⟩
    obtain ⟨sr1, wr1⟩ := newW (H := G115) (t := r1) (xs := [.str "num", .int 1]) .num 1 rfl .nil hr1
    generalize upd G115 r1 (.tup [.str "num", .int 1]) = G116 at sr1 wr1 ⊢
    refine ⟨sml 3, fun r2 hr2 => ?_⟩
    obtain ⟨sr2, wr2⟩ := newW (H := G116) (t := r2) (xs := [.str "call", .int 2, .ref r1]) .call 2 rfl (.cons (wr1.keep (Keep.same (Same.refl _))) .nil) hr2
    generalize upd G116 r2 (.tup [.str "call", .int 2, .ref r1]) = G117 at sr2 wr2 ⊢
    refine ⟨_, rfl, .ref r2, wCall 2 (wNum 1), y, rfl, (wr2.keep (Keep.same (Same.refl _))), hy1, hy8, by omega, fun Ho yo syo wyo => ?_⟩
    refine ⟨sml 2, fun fp4 hfp4 => ?_⟩
    obtain ⟨sfp4, wfp4⟩ := newF (H := Ho) (t := fp4) (z := 1) wyo hfp4
    generalize upd Ho fp4 (.tup [.int 1, yo]) = G118 at sfp4 wfp4 ⊢
    refine ⟨sml 1, fun qq hqq => ?_⟩
    have sqq := Same.new (o := .tup [.ref fp4]) hqq
    have eqq : upd G118 qq (.tup [.ref fp4]) qq = some (.tup [.ref fp4]) := upd_same
    generalize upd G118 qq (.tup [.ref fp4]) = G119 at sqq eqq ⊢
    refine ⟨pp2, qq, _, _, rfl, rfl, SqT.of ((sr1.trans (sr2.trans (syo.trans (sfp4.trans sqq)))) _ _ epp2), SqT.of eqq, (fun z => nomatch z), sml 4, (fun z => nomatch z), fun _ pr hpr => ?_⟩
    have spr := Same.new (o := .tup ([V.ref fp1, V.ref fp2, V.ref fp3] ++ [V.ref fp4])) hpr
    have epr : upd G119 pr (.tup ([V.ref fp1, V.ref fp2, V.ref fp3] ++ [V.ref fp4])) pr = some (.tup [.ref fp1, .ref fp2, .ref fp3, .ref fp4]) := upd_same
    generalize upd G119 pr (.tup ([V.ref fp1, V.ref fp2, V.ref fp3] ++ [V.ref fp4])) = G120 at spr epr ⊢
    obtain ⟨hB2, hd2⟩ := chk2_at c2 hxy (r := nr) (l := l) (by omega) hl3
    have hprog : PrAt G120 (.ref pr) (p2 x y nr l) := ⟨pr, _, rfl, epr, .cons (wfp1.keep (Keep.same (sfp2.trans (so1.trans (so2.trans (so3.trans (sfp3.trans (spp2.trans (sr1.trans (sr2.trans (syo.trans (sfp4.trans (sqq.trans spr))))))))))))) (.cons (wfp2.keep (Keep.same (so1.trans (so2.trans (so3.trans (sfp3.trans (spp2.trans (sr1.trans (sr2.trans (syo.trans (sfp4.trans (sqq.trans spr)))))))))))) (.cons (wfp3.keep (Keep.same (spp2.trans (sr1.trans (sr2.trans (syo.trans (sfp4.trans (sqq.trans spr)))))))) (.cons (wfp4.keep (Keep.same (sqq.trans spr))) .nil)))⟩
    have dx := d12.same (sk1.trans (sk2.trans (sk3.trans (sk4.trans (sk5.trans (sk6.trans (sm1.trans (sm2.trans (sym.trans (sm3.trans (sfp1.trans (sfp2.trans (so1.trans (so2.trans (so3.trans (sfp3.trans (spp2.trans (sr1.trans (sr2.trans (syo.trans (sfp4.trans (sqq.trans spr))))))))))))))))))))))
    have etz := (sk1.trans (sk2.trans (sk3.trans (sk4.trans (sk5.trans (sk6.trans (sm1.trans (sm2.trans (sym.trans (sm3.trans (sfp1.trans (sfp2.trans (so1.trans (so2.trans (so3.trans (sfp3.trans (spp2.trans (sr1.trans (sr2.trans (syo.trans (sfp4.trans (sqq.trans spr)))))))))))))))))))))) _ _ eaz
    clear d12 eaz wtz wl12 wyc12 epr eqq epp2 sk1 sk2 sk3 sk4 sk5 sk6 sm1 sm2 sym sm3 sfp1 sfp2 so1 so2 so3 sfp3 spp2 sr1 sr2 syo sfp4 sqq spr wk1 wk2 wk3 wk4 wk5 wk6 wm1 wm2 wym wm3 wfp1 wfp2 wo1 wo2 wo3 wfp3 wr1 wr2 wyo wfp4
    have xb : ((x : Int) < 100 ∧ (0 : Int) ≤ (x : Int)) ∧ (y : Int) < 100 ∧ (0 : Int) ≤ (y : Int) := ⟨⟨by omega, by omega⟩, by omega, by omega⟩
    have ec : (10 : Int) * ((x : Int) * (1 + (y : Int)) + 1) + 1 + (nr : Int) + 1 = ((count2 x y nr : Nat) : Int) := by
      unfold count2
      push_cast
      rfl
    refine ⟨_, rfl, _, rfl, _, _, rfl, rfl, _, _, rfl, rfl, .inl ⟨by omega, by omega⟩, _, _, rfl, rfl, _, _, rfl, rfl, .inl ⟨by omega, by omega⟩, _, _, rfl, rfl, _, rfl, _, _, rfl, rfl, _, _, rfl, rfl, ?_⟩
    refine ⟨_, rfl, _, _, rfl, rfl, .inl ⟨by omega, by omega⟩, _, rfl, _, _, rfl, rfl, .inl ⟨by omega, by omega⟩, _, _, rfl, rfl, _, _, rfl, rfl, (by show (0 : Int) < 1000; decide), sml 2, fun t0 ht0 => ?_⟩
    have st0 := Same.new (o := .tup [.str "number", .int ((10 * (x : Int) * (y : Int) + 5) % 1000)]) ht0
    have et0 : upd G120 t0 (.tup [.str "number", .int ((10 * (x : Int) * (y : Int) + 5) % 1000)]) t0 = some (.tup [.str "number", .int ((10 * (x : Int) * (y : Int) + 5) % 1000)]) := upd_same
    generalize upd G120 t0 (.tup [.str "number", .int ((10 * (x : Int) * (y : Int) + 5) % 1000)]) = Hd at st0 et0 ⊢
    have etzd := st0 _ _ etz
    refine ⟨fun σ' H' => ∃ td, σ' = [some (.ref a), some (.ref h), some (.int (0 + (i0 : Int))), some (.int (9 + (m : Int))), some (.ref tl), some ta, some (.ref v5), some (.ref td), some (.int (x : Int)), some (.int (y : Int)), some (.int (nr : Int)), some yc, some (.ref tz), some (.ref k6), some (.ref m3), some (.ref pr), some (.int (10 * ((x : Int) * (1 + (y : Int)) + 1) + 1 + (nr : Int) + 1))] ∧ Same Hd H' ∧ H' td = some (.tup [.str (codeD (if l ≠ 0 then (2, 0) else (0, (10 * (x : Int) * (y : Int) + 5) % 1000))).1, (codeD (if l ≠ 0 then (2, 0) else (0, (10 * (x : Int) * (y : Int) + 5) % 1000))).2]), ?_, ?_⟩
    · refine ⟨_, rfl, tz, _, 0, _, rfl, rfl, SqT.of etzd, atI_nat (j := 0) rfl, rfl, _, rfl, ?_⟩
      rcases hop with ⟨rfl, rfl⟩ | ⟨rfl, rfl⟩ | ⟨rfl, rfl⟩
      · refine iteF ⟨t0, rfl, Same.refl _, et0⟩
      · refine iteT ⟨sml 2, fun td2 htd2 => ⟨td2, rfl, Same.new htd2, ?_⟩⟩
        rw [upd_same]
        rfl
      · refine iteT ⟨sml 2, fun td2 htd2 => ⟨td2, rfl, Same.new htd2, ?_⟩⟩
        rw [upd_same]
        rfl
    rintro σ' Hf ⟨td2, rfl, sdf, etdf⟩
    have etzf := sdf _ _ etzd
    refine ⟨fun σ' H' => ∃ td3, σ' = [some (.ref a), some (.ref h), some (.int (0 + (i0 : Int))), some (.int (9 + (m : Int))), some (.ref tl), some ta, some (.ref v5), some (.ref td3), some (.int (x : Int)), some (.int (y : Int)), some (.int (nr : Int)), some yc, some (.ref tz), some (.ref k6), some (.ref m3), some (.ref pr), some (.int (10 * ((x : Int) * (1 + (y : Int)) + 1) + 1 + (nr : Int) + 1))] ∧ Same Hf H' ∧ H' td3 = some (.tup [.str (codeD (due2 x y nr l)).1, (codeD (due2 x y nr l)).2]), ?_, ?_⟩
    · unfold due2
      refine ⟨_, rfl, tz, _, 0, _, rfl, rfl, SqT.of etzf, atI_nat (j := 0) rfl, rfl, _, rfl, ?_⟩
      have big : ∀ D : Ends, D.nx = (fun σ' H' => True) → True := fun _ _ => trivial
      by_cases hcall : l = 1
      · obtain ⟨rfl, rfl⟩ : l = 1 ∧ oz = .call := by
          rcases hop with ⟨e, z⟩ | ⟨e, z⟩ | ⟨e, z⟩
          · omega
          · exact ⟨e, z⟩
          · omega
        refine iteT ⟨_, rfl, _, _, rfl, rfl, _, rfl, ?_⟩
        rw [ec]
        by_cases h199 : 199 < count2 x y nr
        · rw [decide_eq_true (show (199 : Int) < ((count2 x y nr : Nat) : Int) by omega)]
          refine iteT (iteT ⟨sml 2, fun td3 htd3 => ⟨td3, rfl, Same.new htd3, ?_⟩⟩)
          rw [upd_same, if_pos (.inl ⟨rfl, h199⟩)]
          rfl
        · rw [decide_eq_false (show ¬ (199 : Int) < ((count2 x y nr : Nat) : Int) by omega)]
          refine iteF ⟨_, rfl, _, _, rfl, rfl, _, rfl, ?_⟩
          rw [decide_eq_false (show ¬ (200 : Int) < ((count2 x y nr : Nat) : Int) by omega)]
          refine iteF ⟨td2, rfl, Same.refl _, ?_⟩
          rw [if_neg (by omega)]
          exact etdf
      · have hn : decide (V.str oz.name = V.str "call") = false := by
          rcases hop with ⟨e, rfl⟩ | ⟨e, rfl⟩ | ⟨e, rfl⟩
          · decide +kernel
          · exact absurd e hcall
          · decide +kernel
        rw [hn]
        refine iteF (iteF ⟨_, rfl, _, _, rfl, rfl, _, rfl, ?_⟩)
        rw [ec]
        by_cases h200 : 200 < count2 x y nr
        · rw [decide_eq_true (show (200 : Int) < ((count2 x y nr : Nat) : Int) by omega)]
          refine iteT ⟨sml 2, fun td3 htd3 => ⟨td3, rfl, Same.new htd3, ?_⟩⟩
          rw [upd_same, if_pos (.inr h200)]
          rfl
        · rw [decide_eq_false (show ¬ (200 : Int) < ((count2 x y nr : Nat) : Int) by omega)]
          refine iteF ⟨td2, rfl, Same.refl _, ?_⟩
          rw [if_neg (by omega)]
          exact etdf
    rintro σ' Hg ⟨td3, rfl, sfg, etd3⟩
    have sall := st0.trans (sdf.trans sfg)
    have dg := dx.same sall
    refine ⟨_, rfl, .ref pr, p2 x y nr l, 10, rfl, hprog.keep (Keep.same sall), hB2, by decide, by decide, fun Hh r tt sa sal er et es => ?_⟩
    rw [hd2] at et
    have etd4 := sal _ _ etd3
    refine ⟨_, rfl, sml 0, fun l0 hl0 => ?_⟩
    have sl0 := Same.new (o := .lst []) hl0
    have el0 : upd Hh l0 (.lst []) l0 = some (.lst []) := upd_same
    generalize upd Hh l0 (.lst []) = G200 at sl0 el0 ⊢
    refine ⟨sml 2, fun tq htq => ?_⟩
    have stq := Same.new (o := .tup [.ref td3, .ref l0]) htq
    have etq : upd G200 tq (.tup [.ref td3, .ref l0]) tq = some (.tup [.ref td3, .ref l0]) := upd_same
    generalize upd G200 tq (.tup [.ref td3, .ref l0]) = G201 at stq etq ⊢
    refine ⟨.ref r, .ref tq, rfl, .inr (.inr ⟨r, tq, _, _, rfl, rfl, (sl0.trans stq) _ _ er, etq, (by show 2 ≤ 9000; decide), .cons (.inr (.inr ⟨tt, td3, _, _, rfl, rfl, (sl0.trans stq) _ _ et, (sl0.trans stq) _ _ etd4, (by show 2 ≤ 9000; decide), Al.flat _ (codeD_flat _)⟩)) (.cons (.inr (.inl ⟨sa, l0, [], [], rfl, rfl, (sl0.trans stq) _ _ es, stq _ _ el0, (by show 0 ≤ 9000; decide), .nil⟩)) .nil)⟩), fun Hi si => ⟨_, rfl, iteF ?_⟩⟩
    have di := dg.same (sal.trans ((sl0.trans stq).trans si))
    exact ⟨_, rfl, h, c, rfl, di, fun Hj bj dj => ⟨_, rfl, iteF ⟨_, _, _, _, _, _, _, _, _, _, _, _, _, _, _, rfl, dj⟩⟩⟩
  · rintro σ' H1 ⟨y2, y3, y4, y5, y6, y7, y8, y9, y10, y11, y12, y13, y14, y15, y16, rfl, d1⟩
    exact q _
end
end K18

open PySem PySem.W PySem.Calls PyProof.Rows
theorem PySem.Challenge.cw_overlayhall_k18_whole_bounds_of_runs_holds : PySem.Challenge.rw_overlayhall_k18_whole_bounds_of_runs.Holds := by
  w_on; o_law
  refine HandSHeadRun.head_any (r := OpenLaw.row PySem.Challenge.rw_overlayhall_k18_whole_bounds_of_runs) (q := view (OpenLaw.row PySem.Challenge.rw_overlayhall_k18_whole_bounds_of_runs).prog [78]) (H := K18.hk) (ob := K18.ob) (M := 9000) (loose := K18.names) (d := HandSHeadRun.topDef (OpenLaw.row PySem.Challenge.rw_overlayhall_k18_whole_bounds_of_runs).prog 78) (kwd := []) K18.ob_eq
    (by kernel_rfl) (fun s => by kernel_rfl) K18.run (by kernel_rfl) (by kernel_rfl) (by kernel_rfl) (by rfl) (by first | assumption | decide +kernel) (by decide +kernel) ⟨rfl, rfl, rfl, rfl, rfl, by decide +kernel⟩ ?hw ?hc
  case hw => w_witness2
  case hc =>
    refine L2.walk_ofE (l := PySem.Challenge.rw_overlayhall_k18_whole_bounds_of_runs) (n := 63) (k := 125) (x := "_law_script") (CX := L2.CX0) rfl (by decide) (by kernel_rfl) ⟨rfl, by decide, by decide⟩ ?F (fun _ _ _ _ z => z)
    intro w mg fa h Y G hmg0
    obtain ⟨K, KX, c, z⟩ := Y
    have T := K18.Txt.of (w := w) KX G c z
    have hmg : mg ("law" : PySem.Str) = some (.ref fa) := by
      have e : (HandSHeadRun.topDef (OpenLaw.row PySem.Challenge.rw_overlayhall_k18_whole_bounds_of_runs).prog 78).name = ("law" : PySem.Str) := by kernel_rfl
      rw [← e]
      exact hmg0
    cases hmg.symm.trans T.g_law
    have b := L2.FunD.bindsA (ps := ["_law_script"]) T.F_law fun _ _ _ _ _ _ us hl => match us, hl with | [_], _ => rfl
    exact ⟨K, K18.fdOf K K18.d_law, Ov.spLaw K, KX, fun s v => b s [v] rfl, fun H a ns hl _ hS => ⟨a, ns, rfl, hS, hl, fun _ => rfl⟩, fun base _ _ => K18.ok_law T rfl Ov.chk1_ok Ov.chk2_ok Ov.chk3_ok⟩

