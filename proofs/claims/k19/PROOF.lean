import PyProof.Rows.All
import Wide.All
import OpenK.AllK
import Wide.FinOn
import KE.KStateDown
import HandS.ForMost
import HandS.Evl
import HandS.WordsExc
import HandS.Defaults
import HandS.More
import HandS.Wide
import HandS.IsInst
import HandS.Zip
import HandS.SortInts
import HandS.TupMul
import HandS.TupLe
import HandS.TupAny
import HandS.Conv
import HandS.Style
import HandS.Walk
import KE.GoesMore
import KE.GoesZip
import KE.GoesEnum
import HandS.Head0
import HandS.Head1
import HandS.Head2
import HandS.HeadEnd
import HandS.HeadHook1
import HandS.HeadHook2
import HandS.HeadHook3
import HandS.HeadHook4
import HandS.HeadWalk
import HandS.Deep
import HandS.TryOnly
import HandS.Exc
import HandS.ExcOwn
import HandS.ExcSuper
import HandS.ForSpec
import Open.SpecLaws
import KE.OsGo
import HandS.Small
import HandS.FStr
import HandS.ExcIs
import HandS.Lambda
import HandS.NestedK
import HandS.Flow
import HandS.Text
import HandS.Star
import HandS.RaiseMore
import PySem.Challenge.RW_overlayhall_k19_whole_written_and_read
set_option Elab.async false
set_option linter.all false
set_option maxRecDepth 100000
set_option maxHeartbeats 0
/-! ### what all laws share: the drawer, data -/
namespace Ov
open PySem PySem.Spec PyProof.Rows L2
/-- the drawer: its list at h, its cells at c -/
def Dr (H : Hp) (h c : Addr) : Prop := ∃ (m k : Int) (xs : List Int), H h = some (.lst [.int m, .ref c, .int k]) ∧ H c = some (.lst (xs.map V.int)) ∧ xs.length ≤ 63
/-- all but the drawer stays -/
def But (h c : Addr) (H H' : Hp) : Prop := ∀ a o, a ≠ h → a ≠ c → H a = some o → H' a = some o
theorem But.refl {h c : Addr} (H : Hp) : But h c H H := fun _ _ _ _ e => e
theorem But.trans {h c : Addr} {H H1 H2 : Hp} (a : But h c H H1) (b : But h c H1 H2) : But h c H H2 := fun x o n1 n2 e => b x o n1 n2 (a x o n1 n2 e)
theorem But.same {h c : Addr} {H H' : Hp} (a : Same H H') : But h c H H' := fun x o _ _ e => a x o e
theorem Same.new {H : Hp} {p : Addr} {o : HO} (h : H p = none) : Same H (upd H p o) := fun b u q => by rw [upd_ne (ne_of_none q h)]; exact q
theorem But.new {h c : Addr} {H : Hp} {p : Addr} {o : HO} (e : H p = none) : But h c H (upd H p o) := .same (Same.new e)
theorem But.updh {h c : Addr} {H : Hp} {o : HO} : But h c H (upd H h o) := fun x u n1 _ e => by rw [upd_ne n1]; exact e
theorem But.updc {h c : Addr} {H : Hp} {o : HO} : But h c H (upd H c o) := fun x u _ n2 e => by rw [upd_ne n2]; exact e
theorem But.tup {h c a : Addr} {H H' : Hp} {xs : List V} (b : But h c H H') (d : Dr H h c) (e : H a = some (.tup xs)) : H' a = some (.tup xs) := by
  obtain ⟨m, k, ns, h1, h2, _⟩ := d
  exact b a _ (ne_of e h1 (by intro z; cases z)) (ne_of e h2 (by intro z; cases z)) e
theorem Dr.same {h c : Addr} {H H' : Hp} (d : Dr H h c) (e : Same H H') : Dr H' h c := by
  obtain ⟨m, k, ns, h1, h2, h3⟩ := d
  exact ⟨m, k, ns, e _ _ h1, e _ _ h2, h3⟩
theorem But.updn {h c D : Addr} {H H' : Hp} {o : HO} (b : But h c H H') (hD : H D = none) : But h c H (upd H' D o) := fun a u n1 n2 e => by rw [upd_ne (ne_of_none e hD)]; exact b a u n1 n2 e
theorem Same.updn {D : Addr} {H H' : Hp} {o : HO} (b : Same H H') (hD : H D = none) : Same H (upd H' D o) := fun a u e => by rw [upd_ne (ne_of_none e hD)]; exact b a u e
theorem Dr.upd {h c D : Addr} {H : Hp} {o : HO} (d : Dr H h c) (n1 : D ≠ h) (n2 : D ≠ c) : Dr (upd H D o) h c := by
  obtain ⟨m, k, ns, h1, h2, h3⟩ := d
  exact ⟨m, k, ns, by rw [upd_ne n1.symm]; exact h1, by rw [upd_ne n2.symm]; exact h2, h3⟩
theorem Dr.ne {h c : Addr} {H : Hp} (d : Dr H h c) : h ≠ c := by
  obtain ⟨m, k, ns, h1, h2, _⟩ := d
  refine ne_of h1 h2 (fun z => ?_)
  have z1 : [V.int m, .ref c, .int k] = ns.map V.int := by injection z
  have z2 := congrArg (fun l : List V => l[1]?) z1
  have z3 : some (V.ref c) = (ns.map V.int)[1]? := z2
  rw [List.getElem?_map] at z3
  cases q : ns[1]? with
  | none => rw [q] at z3; cases z3
  | some u => rw [q] at z3; cases z3
/-- a draw: one of n -/
def spNext : Sp := fun vs H Q _ => ∃ (h c : Addr) (n : Int), vs = [.ref h, .int n] ∧ Dr H h c ∧ 0 < n ∧ n ≤ 1000000 ∧ ∀ (r : Int) (H' : Hp), 0 ≤ r → r < n → But h c H H' → Dr H' h c → Q (.int r) H'
/-- the drawer is made of the script -/
def spMix (K : PySem.W.Frag) : Sp := fun vs H Q _ => ∃ (a : Addr) (ns : List Int) (z : Int), vs = [.ref a, .int z] ∧ SqL K H a (ns.map V.int) ∧ ns.length ≤ 63 ∧ -(2 ^ 31) < z ∧ z < 2 ^ 31 ∧ ∀ (h c : Addr) (H' : Hp), H h = none → H c = none → Same H H' → Dr H' h c → Q (.ref h) H'
/-! ### rules with the written part told (within a comprehension) -/
section
variable {X : Cx} {K : PySem.W.Frag}
theorem pi_listK {tg l : Expr} {tl : TE} (hK : X.K = K) (hl : PE X l tl) : PI X tg l (iList K tl) := by subst hK; exact pi_list hl
theorem pi_tupK {tg l : Expr} {tl : TE} (hK : X.K = K) (hl : PE X l tl) : PI X tg l (iTup K tl) := by subst hK; exact pi_tup hl
theorem pg_tupK {es : List Expr} {k : Nat} {pos : Pos} {t : TGs} {n : Nat} (hK : X.K = K) (hc : X.calm = true) (h : PGs X es t)
    (hn : (assignEach es X.env).length = n := by rfl) (hst : (assignEach es X.env).findIdx? (·.1) = none := by rfl) : PG X (.Tuple es k pos) (gTup K n t) := by subst hK; exact pg_tup hc h hn hst
theorem pe_bm0K {o : Expr} {to : TE} {name : Str} {apos cpos : Pos} {T id : String} {r : V → List V → Hp → VK → Prop} (hK : X.K = K) (pa : PlainAttrs T) (slot : Slot T name id) (hty : typeOf (.builtin id) = pure (.type "method_descriptor")) (hm : MtR X id r) (ho : PE X o to)
    (hbase : attributeBase o name X.env (eval o X.env) = eval o X.env := by rfl) (hline : (apos.endLine == cpos.line) = true := by rfl) : PE X (.Call (.Attribute o name apos) [] [] cpos) (tBM0 K T r to) := by subst hK; exact pe_bm0 pa slot hty hm ho hbase hline
theorem pe_bmK {o e : Expr} {es : List Expr} {to : TE} {t : TA} {name : Str} {apos cpos : Pos} {T id : String} {r : V → List V → Hp → VK → Prop} (hK : X.K = K) (pa : PlainAttrs T) (slot : Slot T name id) (hty : typeOf (.builtin id) = pure (.type "method_descriptor")) (hm : MtR X id r) (ho : PE X o to) (ha : PA X (e :: es) t)
    (hbase : attributeBase o name X.env (eval o X.env) = eval o X.env := by rfl)
    (hfew : ((backTo cpos (starEach (e :: es) X.env)).all (fun x => !x.1) && (backToKw cpos (keywordEach [] X.env)).all (fun x => x.1.isSome)
      && decide ((e :: es).length + ([] : List Keyword).length + (if ([] : List Keyword).isEmpty then 0 else 1) < 30)) = true := by rfl)
    (hline : (apos.endLine == cpos.line) = true := by rfl) (hs : starEach (e :: es) X.env = (false, eval e X.env) :: starEach es X.env := by rfl) (hplain : (backTo cpos (starEach es X.env)).any (·.1) = false := by rfl) : PE X (.Call (.Attribute o name apos) (e :: es) [] cpos) (tBM K T r to t) := by subst hK; exact pe_bm pa slot hty hm ho ha hbase hfew hline hs hplain
theorem pe_revLK {e : Expr} {te : TE} {k : Nat} {p1 p2 p3 pos : Pos} (hK : X.K = K) (he : PE X e te) : PE X (.Subscript e (.Slice none none (some (.UnaryOp .USub (.Constant (.int 1) k p1) p2)) p3) pos) (tRevL K te) := by subst hK; exact pe_revL he
theorem pi_zipAK {e e2 : Expr} {ta : TA} {p pos tpos : Pos} {elts : List Expr} {kk : Nat} (hK : X.K = K) (hg : Gl X "zip") (hm : X.mg "zip" = none) (ha : PA X [e, e2] ta)
    (hs : starEach [e, e2] X.env = (false, eval e X.env) :: starEach [e2] X.env := by rfl) (hpl : (backTo pos (starEach [e2] X.env)).any (·.1) = false := by rfl) :
    PI X (.Tuple elts kk tpos) (.Call (.Name "zip" p) [e, e2] [] pos) (RZ.iZipA K ta) := by subst hK; exact RZ.pi_zipA hg hm ha hs hpl
end
/-- what can't be asked -/
theorem fn0 {P : Program} {w : World} {K : PySem.W.Frag} {mg : Str → Option Value} {base : Heap} {k : Nat} {f : Addr} {fd : FuncData} {ps : List Str} {sp : Sp} (no : ∀ vs H Q E, ¬ sp vs H Q E) : FnOk P w K mg base CX0 k f fd ps sp :=
  ⟨fun vs H Q E h => absurd h (no vs H Q E), fun A outer s H args us vs Q E _ _ _ _ h => absurd h (no vs H Q E)⟩
/-- a promise for each i is a promise of some i -/
theorem fn_ex {ι : Type} {P : Program} {w : World} {K : PySem.W.Frag} {mg : Str → Option Value} {base : Heap} {CX : CXT} {k : ι → Nat} {m : Nat} {f : Addr} {fd : FuncData} {ps : List Str} {sp : ι → Sp} (h : ∀ i, FnOk P w K mg base CX (k i) f fd ps (sp i)) (le : ∀ i, k i ≤ m) :
    FnOk P w K mg base CX m f fd ps (fun vs H Q E => ∃ i, sp i vs H Q E) :=
  ⟨fun vs H Q E ⟨i, x⟩ => (h i).len vs H Q E x, fun A outer s H args us vs Q E hr h1 h2 h3 ⟨i, x⟩ => (h i).run A outer s H args us vs Q E (hr.mono (le i)) h1 h2 h3 x⟩
/-! ### comprehensions without a test -/
theorem lc_rangeY {lo : Int} {n : Nat} {g : TG} {te : TE} {vs : List Nat} {σ : L2.St} {H1 : Hp} {D : Addr} {Qd : Hp → Prop} (Pv : Nat → Hp → Prop) (h0 : Pv 0 (upd H1 D (.lst [])))
    (hs : ∀ i H, i < n → Pv i H → g (.int (lo + i)) (wipe σ vs) H fun σ2 H2 => wipe σ2 vs = wipe σ vs ∧ te σ2 H2 fun y H4 => ∃ acc, H4 D = some (.lst acc) ∧ acc.length < sizeLine ∧ Pv (i + 1) (upd H4 D (.lst (acc ++ [y])))) (hd : ∀ H, Pv n H → Qd H) :
    ∃ W : Nat → Nat → Hp → Prop, (∃ m, W 0 m (upd H1 D (.lst []))) ∧ ∀ i m H, W i m H →
      ((Itr lo n).stop i H ∧ Qd H) ∨ ((Itr lo n).go i H ∧ ∃ Nx : Hp → Prop, (∀ H', Nx H' → ∃ m', m' < m ∧ W (i + 1) m' H') ∧ ∀ x H', (Itr lo n).yld i H x H' → g x (wipe σ vs) H' fun σ2 H2 => wipe σ2 vs = wipe σ vs ∧ tYes σ2 H2 fun b H3 =>
        if b = true then te σ2 H3 fun y H4 => ∃ acc, H4 D = some (.lst acc) ∧ acc.length < sizeLine ∧ Nx (upd H4 D (.lst (acc ++ [y]))) else Nx H3) := lc_range (tt := tYes) Pv h0 hs hd
theorem lc_listY {K : PySem.W.Frag} {a : Addr} {xs : List V} {g : TG} {te : TE} {vs : List Nat} {σ : L2.St} {H1 : Hp} {D : Addr} {Qd : Hp → Prop} (Pv : Nat → Hp → Prop) (h0 : Pv 0 (upd H1 D (.lst []))) (hl : ∀ i H, i ≤ xs.length → Pv i H → SqL K H a xs)
    (hs : ∀ i x H, xs[i]? = some x → Pv i H → g x (wipe σ vs) H fun σ2 H2 => wipe σ2 vs = wipe σ vs ∧ te σ2 H2 fun y H4 => ∃ acc, H4 D = some (.lst acc) ∧ acc.length < sizeLine ∧ Pv (i + 1) (upd H4 D (.lst (acc ++ [y])))) (hd : ∀ H, Pv xs.length H → Qd H) :
    ∃ W : Nat → Nat → Hp → Prop, (∃ m, W 0 m (upd H1 D (.lst []))) ∧ ∀ i m H, W i m H →
      ((Itl K a).stop i H ∧ Qd H) ∨ ((Itl K a).go i H ∧ ∃ Nx : Hp → Prop, (∀ H', Nx H' → ∃ m', m' < m ∧ W (i + 1) m' H') ∧ ∀ x H', (Itl K a).yld i H x H' → g x (wipe σ vs) H' fun σ2 H2 => wipe σ2 vs = wipe σ vs ∧ tYes σ2 H2 fun b H3 =>
        if b = true then te σ2 H3 fun y H4 => ∃ acc, H4 D = some (.lst acc) ∧ acc.length < sizeLine ∧ Nx (upd H4 D (.lst (acc ++ [y]))) else Nx H3) := lc_list (tt := tYes) Pv h0 hl hs hd
theorem lc_tupY {K : PySem.W.Frag} {a : Addr} {xs : List V} {g : TG} {te : TE} {vs : List Nat} {σ : L2.St} {H1 : Hp} {D : Addr} {Qd : Hp → Prop} (Pv : Nat → Hp → Prop) (h0 : Pv 0 (upd H1 D (.lst []))) (hl : ∀ i H, i ≤ xs.length → Pv i H → SqT K H a xs)
    (hs : ∀ i x H, xs[i]? = some x → Pv i H → g x (wipe σ vs) H fun σ2 H2 => wipe σ2 vs = wipe σ vs ∧ te σ2 H2 fun y H4 => ∃ acc, H4 D = some (.lst acc) ∧ acc.length < sizeLine ∧ Pv (i + 1) (upd H4 D (.lst (acc ++ [y])))) (hd : ∀ H, Pv xs.length H → Qd H) :
    ∃ W : Nat → Nat → Hp → Prop, (∃ m, W 0 m (upd H1 D (.lst []))) ∧ ∀ i m H, W i m H →
      ((Itt K a).stop i H ∧ Qd H) ∨ ((Itt K a).go i H ∧ ∃ Nx : Hp → Prop, (∀ H', Nx H' → ∃ m', m' < m ∧ W (i + 1) m' H') ∧ ∀ x H', (Itt K a).yld i H x H' → g x (wipe σ vs) H' fun σ2 H2 => wipe σ2 vs = wipe σ vs ∧ tYes σ2 H2 fun b H3 =>
        if b = true then te σ2 H3 fun y H4 => ∃ acc, H4 D = some (.lst acc) ∧ acc.length < sizeLine ∧ Nx (upd H4 D (.lst (acc ++ [y]))) else Nx H3) := lc_tup (tt := tYes) Pv h0 hl hs hd
def rTupS (K : PySem.W.Frag) : List V → Hp → VK → Prop := fun xs H Q => ∃ p ys, xs = [.ref p] ∧ ((SqL K H p ys ∧ ∀ l, H l = none → Q (.ref l) (upd H l (.tup ys))) ∨ (SqT K H p ys ∧ Q (.ref p) H))
def rInKd (K : PySem.W.Frag) (d : Addr) (neg : Bool) : V → V → Hp → VK → Prop := fun x y H Q => ∃ (z : Str) (r : Option Value), x = .str z ∧ y = .ref d ∧ PySem.W.nsIn K d z = some r ∧ Q (.bl (if neg then !r.isSome else r.isSome)) H
theorem sm (n : Nat) (h : n ≤ 1000 := by omega) : n < sizeLine := Nat.lt_of_le_of_lt h (by decide)
theorem sml (n : Nat) (h : n ≤ 1000 := by omega) : n ≤ sizeLine := Nat.le_of_lt (sm n h)
theorem dpInts {K : PySem.W.Frag} {H : Hp} : ∀ ns : List Int, DpAll K H (ns.map V.int) (ns.map PyData.int)
  | [] => .nil
  | n :: ns => .cons (.int n) (dpInts ns)
theorem intsDepth : ∀ ns : List Int, PyData.depthAll (ns.map PyData.int) = 0
  | [] => by simp [PyData.depthAll]
  | n :: ns => by simp [PyData.depthAll, PyData.depth, intsDepth ns]
theorem intsLay : ∀ ns : List Int, PyData.canLayAll0 (ns.map PyData.int) = true
  | [] => by simp [PyData.canLayAll0]
  | n :: ns => by simp [PyData.canLayAll0, PyData.canLay0, intsLay ns]
theorem intsShaped (ns : List Int) : SeqAt.shaped (.list (ns.map PyData.int)) = true := by
  show (PyData.canLay0 (.list (ns.map PyData.int)) && decide (PyData.depth (.list (ns.map PyData.int)) ≤ 64)) = true
  rw [Bool.and_eq_true]
  refine ⟨by simp only [PyData.canLay0]; exact intsLay ns, decide_eq_true ?_⟩
  simp only [PyData.depth]
  rw [intsDepth]
  omega
theorem eqvNil (ns : List Int) : PyData.eqv (.list (ns.map PyData.int)) (.list []) = ns.isEmpty := by
  cases ns with
  | nil => simp [PyData.eqv, PyData.eqvAll]
  | cons n ns => simp [PyData.eqv, PyData.eqvAll]
theorem k_tuple_tuple {K : PySem.W.Frag} : PySem.W.kitOne K (.type "tuple") (.type "tuple") = some true := kit_ty (by decide +kernel)
theorem k_tuple_int {K : PySem.W.Frag} : PySem.W.kitOne K (.type "tuple") (.type "int") = some false := kit_ty (by decide +kernel)
theorem k_tuple_str {K : PySem.W.Frag} : PySem.W.kitOne K (.type "tuple") (.type "str") = some false := kit_ty (by decide +kernel)
theorem k_tuple_bool {K : PySem.W.Frag} : PySem.W.kitOne K (.type "tuple") (.type "bool") = some false := kit_ty (by decide +kernel)
theorem k_tuple_list {K : PySem.W.Frag} : PySem.W.kitOne K (.type "tuple") (.type "list") = some false := kit_ty (by decide +kernel)
theorem k_int_tuple {K : PySem.W.Frag} : PySem.W.kitOne K (.type "int") (.type "tuple") = some false := kit_ty (by decide +kernel)
theorem k_int_int {K : PySem.W.Frag} : PySem.W.kitOne K (.type "int") (.type "int") = some true := kit_ty (by decide +kernel)
theorem k_int_str {K : PySem.W.Frag} : PySem.W.kitOne K (.type "int") (.type "str") = some false := kit_ty (by decide +kernel)
theorem k_int_bool {K : PySem.W.Frag} : PySem.W.kitOne K (.type "int") (.type "bool") = some false := kit_ty (by decide +kernel)
theorem k_int_list {K : PySem.W.Frag} : PySem.W.kitOne K (.type "int") (.type "list") = some false := kit_ty (by decide +kernel)
theorem k_str_tuple {K : PySem.W.Frag} : PySem.W.kitOne K (.type "str") (.type "tuple") = some false := kit_ty (by decide +kernel)
theorem k_str_int {K : PySem.W.Frag} : PySem.W.kitOne K (.type "str") (.type "int") = some false := kit_ty (by decide +kernel)
theorem k_str_str {K : PySem.W.Frag} : PySem.W.kitOne K (.type "str") (.type "str") = some true := kit_ty (by decide +kernel)
theorem k_str_bool {K : PySem.W.Frag} : PySem.W.kitOne K (.type "str") (.type "bool") = some false := kit_ty (by decide +kernel)
theorem k_str_list {K : PySem.W.Frag} : PySem.W.kitOne K (.type "str") (.type "list") = some false := kit_ty (by decide +kernel)
theorem k_bool_tuple {K : PySem.W.Frag} : PySem.W.kitOne K (.type "bool") (.type "tuple") = some false := kit_ty (by decide +kernel)
theorem k_bool_int {K : PySem.W.Frag} : PySem.W.kitOne K (.type "bool") (.type "int") = some true := kit_ty (by decide +kernel)
theorem k_bool_str {K : PySem.W.Frag} : PySem.W.kitOne K (.type "bool") (.type "str") = some false := kit_ty (by decide +kernel)
theorem k_bool_bool {K : PySem.W.Frag} : PySem.W.kitOne K (.type "bool") (.type "bool") = some true := kit_ty (by decide +kernel)
theorem k_bool_list {K : PySem.W.Frag} : PySem.W.kitOne K (.type "bool") (.type "list") = some false := kit_ty (by decide +kernel)
theorem k_list_tuple {K : PySem.W.Frag} : PySem.W.kitOne K (.type "list") (.type "tuple") = some false := kit_ty (by decide +kernel)
theorem k_list_int {K : PySem.W.Frag} : PySem.W.kitOne K (.type "list") (.type "int") = some false := kit_ty (by decide +kernel)
theorem k_list_str {K : PySem.W.Frag} : PySem.W.kitOne K (.type "list") (.type "str") = some false := kit_ty (by decide +kernel)
theorem k_list_bool {K : PySem.W.Frag} : PySem.W.kitOne K (.type "list") (.type "bool") = some false := kit_ty (by decide +kernel)
theorem k_list_list {K : PySem.W.Frag} : PySem.W.kitOne K (.type "list") (.type "list") = some true := kit_ty (by decide +kernel)
theorem k_NoneType_tuple {K : PySem.W.Frag} : PySem.W.kitOne K (.type "NoneType") (.type "tuple") = some false := kit_ty (by decide +kernel)
theorem k_NoneType_int {K : PySem.W.Frag} : PySem.W.kitOne K (.type "NoneType") (.type "int") = some false := kit_ty (by decide +kernel)
theorem k_NoneType_str {K : PySem.W.Frag} : PySem.W.kitOne K (.type "NoneType") (.type "str") = some false := kit_ty (by decide +kernel)
theorem k_NoneType_bool {K : PySem.W.Frag} : PySem.W.kitOne K (.type "NoneType") (.type "bool") = some false := kit_ty (by decide +kernel)
theorem k_NoneType_list {K : PySem.W.Frag} : PySem.W.kitOne K (.type "NoneType") (.type "list") = some false := kit_ty (by decide +kernel)
end Ov
/-! ### bodies as data -/
namespace Ov
open PySem PySem.Spec PyProof.Rows L2
inductive Op where
  | num | arg | way | plus | less | times | ife | thn | say | call | through
  deriving DecidableEq
def Op.name : Op → Str
  | .num => "num" | .arg => "argument" | .way => "way" | .plus => "plus" | .less => "less" | .times => "times" | .ife => "if" | .thn => "then" | .say => "say" | .call => "call" | .through => "through"
def Op.arity : Op → Nat
  | .num => 0 | .arg => 0 | .way => 0 | .plus => 2 | .less => 2 | .times => 2 | .ife => 3 | .thn => 2 | .say => 1 | .call => 1 | .through => 2
def Op.gives : Op → Bool
  | .num => true | .way => true | .call => true | _ => false
def Op.pre (o : Op) (g : Int) : List V := if o.gives then [.int g] else []
def Op.fits (n : Nat) : Op → Int → Prop
  | .num, g => 0 ≤ g ∧ g ≤ 99
  | .way, g => 0 ≤ g ∧ g < n
  | .call, g => 0 ≤ g ∧ g < n
  | _, _ => True
/-- a word and what is within it -/
inductive W where
  | mk (o : Op) (g : Int) (as : List W)
def W.op : W → Op
  | .mk o _ _ => o
def W.g : W → Int
  | .mk _ g _ => g
def W.as : W → List W
  | .mk _ _ as => as
mutual
def W.size : W → Nat
  | .mk _ _ as => 1 + W.sizes as
def W.sizes : List W → Nat
  | [] => 0
  | w :: ws => w.size + W.sizes ws
end
/-- words of n functions, at most d within one another -/
inductive WOk (n : Nat) : Nat → W → Prop
  | mk {d : Nat} {o : Op} {g : Int} {as : List W} : as.length = o.arity → o.fits n g → (∀ a ∈ as, WOk n d a) → WOk n (d + 1) (.mk o g as)
theorem WOk.mono {n d e : Nat} {w : W} (h : WOk n d w) : d ≤ e → WOk n e w := by
  induction h generalizing e with
  | @mk d o g as h1 h2 _ ih =>
    intro le
    obtain ⟨f, rfl⟩ : ∃ f, e = f + 1 := ⟨e - 1, by omega⟩
    exact .mk h1 h2 fun a ha => ih a ha (by omega)
mutual
/-- the word w stands at v -/
inductive WAt (H : Hp) : V → W → Prop
  | mk {a : Addr} {o : Op} {g : Int} {vs : List V} {as : List W} : H a = some (.tup (.str o.name :: (o.pre g ++ vs))) → WsAt H vs as → WAt H (.ref a) (.mk o g as)
inductive WsAt (H : Hp) : List V → List W → Prop
  | nil : WsAt H [] []
  | cons {v : V} {vs : List V} {w : W} {ws : List W} : WAt H v w → WsAt H vs ws → WsAt H (v :: vs) (w :: ws)
end
/-- tuples stay -/
def Keep (H H' : Hp) : Prop := ∀ a xs, H a = some (.tup xs) → H' a = some (.tup xs)
theorem Keep.refl (H : Hp) : Keep H H := fun _ _ e => e
theorem Keep.trans {H H1 H2 : Hp} (a : Keep H H1) (b : Keep H1 H2) : Keep H H2 := fun x o e => b x o (a x o e)
theorem Keep.same {H H' : Hp} (e : Same H H') : Keep H H' := fun a xs h => e a _ h
theorem Keep.but {h c : Addr} {H H' : Hp} (b : But h c H H') (d : Dr H h c) : Keep H H' := fun _ _ e => b.tup d e
theorem Keep.updL {H : Hp} {a : Addr} {xs ys : List V} (e : H a = some (.lst xs)) : Keep H (upd H a (.lst ys)) := fun b zs h => by
  rw [upd_ne (ne_of h e (by intro z; cases z))]
  exact h
mutual
theorem WAt.keep {H H' : Hp} (k : Keep H H') : ∀ {v : V} {w : W}, WAt H v w → WAt H' v w
  | _, _, .mk h r => .mk (k _ _ h) (WsAt.keep k r)
theorem WsAt.keep {H H' : Hp} (k : Keep H H') : ∀ {vs : List V} {ws : List W}, WsAt H vs ws → WsAt H' vs ws
  | _, _, .nil => .nil
  | _, _, .cons h r => .cons (h.keep k) (WsAt.keep k r)
end
theorem WsAt.length {H : Hp} : ∀ {vs : List V} {ws : List W}, WsAt H vs ws → vs.length = ws.length
  | _, _, .nil => rfl
  | _, _, .cons _ r => congrArg Nat.succ (WsAt.length r)
theorem WsAt.get {H : Hp} : ∀ {vs : List V} {ws : List W} {i : Nat} {v : V}, WsAt H vs ws → vs[i]? = some v → ∃ w, ws[i]? = some w ∧ WAt H v w
  | _, _, _, _, .nil, e => by simp at e
  | _, _, 0, _, .cons h r, e => by
    have e2 := Option.some.inj e
    subst e2
    exact ⟨_, rfl, h⟩
  | _, _, i + 1, v, .cons _ r, e => WsAt.get (i := i) (v := v) r e
theorem WAt.ref {H : Hp} {v : V} {w : W} (h : WAt H v w) : ∃ b xs, v = .ref b ∧ H b = some (.tup xs) := by
  cases h with
  | mk h _ => exact ⟨_, _, rfl, h⟩
theorem W.size_mk (o : Op) (g : Int) (as : List W) : (W.mk o g as).size = 1 + W.sizes as := by rw [W.size]
theorem W.sizes_sum : ∀ ws : List W, ((W.sizes ws : Nat) : Int) = (ws.map fun z => (z.size : Int)).sum
  | [] => by unfold W.sizes; rfl
  | w :: ws => by
    have ih := W.sizes_sum ws
    unfold W.sizes
    rw [List.map_cons, List.sum_cons]
    omega
/-- a word of n functions, d deep, at v -/
def Wd (H : Hp) (n d : Nat) (v : V) : Prop := ∃ w, WAt H v w ∧ WOk n d w
theorem Wd.keep {H H' : Hp} {n d : Nat} {v : V} (k : Keep H H') (h : Wd H n d v) : Wd H' n d v := by
  obtain ⟨w, h1, h2⟩ := h
  exact ⟨w, h1.keep k, h2⟩
theorem Wd.mono {H : Hp} {n d e : Nat} {v : V} (h : Wd H n d v) (le : d ≤ e) : Wd H n e v := by
  obtain ⟨w, h1, h2⟩ := h
  exact ⟨w, h1, h2.mono le⟩
theorem wd0 {H : Hp} {n d : Nat} {a : Addr} (o : Op) (g : Int) (e : H a = some (.tup (.str o.name :: (o.pre g ++ [])))) (f : o.fits n g) (ha : o.arity = 0 := by rfl) : Wd H n (d + 1) (.ref a) :=
  ⟨.mk o g [], .mk e .nil, .mk ha.symm f (fun _ h => by cases h)⟩
theorem wd1 {H : Hp} {n d : Nat} {a : Addr} {x : V} (o : Op) (g : Int) (e : H a = some (.tup (.str o.name :: (o.pre g ++ [x])))) (f : o.fits n g) (hx : Wd H n d x) (ha : o.arity = 1 := by rfl) : Wd H n (d + 1) (.ref a) := by
  obtain ⟨w, h1, h2⟩ := hx
  exact ⟨.mk o g [w], .mk e (.cons h1 .nil), .mk ha.symm f (fun z h => by
    rcases List.mem_singleton.mp h with rfl
    exact h2)⟩
theorem wd2 {H : Hp} {n d : Nat} {a : Addr} {x y : V} (o : Op) (g : Int) (e : H a = some (.tup (.str o.name :: (o.pre g ++ [x, y])))) (f : o.fits n g) (hx : Wd H n d x) (hy : Wd H n d y) (ha : o.arity = 2 := by rfl) : Wd H n (d + 1) (.ref a) := by
  obtain ⟨w, h1, h2⟩ := hx
  obtain ⟨u, h3, h4⟩ := hy
  exact ⟨.mk o g [w, u], .mk e (.cons h1 (.cons h3 .nil)), .mk ha.symm f (fun z h => by
    simp only [List.mem_cons, List.mem_nil_iff, or_false] at h
    rcases h with rfl | rfl
    · exact h2
    · exact h4)⟩
theorem wd3 {H : Hp} {n d : Nat} {a : Addr} {x y z : V} (o : Op) (g : Int) (e : H a = some (.tup (.str o.name :: (o.pre g ++ [x, y, z])))) (f : o.fits n g) (hx : Wd H n d x) (hy : Wd H n d y) (hz : Wd H n d z) (ha : o.arity = 3 := by rfl) : Wd H n (d + 1) (.ref a) := by
  obtain ⟨w, h1, h2⟩ := hx
  obtain ⟨u, h3, h4⟩ := hy
  obtain ⟨q, h5, h6⟩ := hz
  exact ⟨.mk o g [w, u, q], .mk e (.cons h1 (.cons h3 (.cons h5 .nil))), .mk ha.symm f (fun r h => by
    simp only [List.mem_cons, List.mem_nil_iff, or_false] at h
    rcases h with rfl | rfl | rfl
    · exact h2
    · exact h4
    · exact h6)⟩
/-! ### what a body is drawn by -/
def KindS (k : Str) : Prop := k = "number" ∨ k = "way"
structure EnvAt (H : Hp) (h c e : Addr) (n : Nat) (came : Str) (pl kl : Addr) (ps : List Int) (ks : List Str) : Prop where
  e : H e = some (.dK [(.inr "came", .str came), (.inr "plain", .ref pl), (.inr "kinds", .ref kl)])
  ck : KindS came
  p : H pl = some (.lst (ps.map V.int))
  p0 : ps ≠ []
  p8 : ps.length ≤ 8
  pn : ∀ x ∈ ps, 0 ≤ x ∧ x < n
  k : H kl = some (.lst (ks.map V.str))
  kn : ks.length = n
  n1 : 1 ≤ n
  n8 : n ≤ 8
  kk : ∀ x ∈ ks, KindS x
  ph : pl ≠ h
  pc : pl ≠ c
  kh : kl ≠ h
  kc : kl ≠ c
theorem EnvAt.but {H H' : Hp} {h c e : Addr} {n : Nat} {came : Str} {pl kl : Addr} {ps : List Int} {ks : List Str} (x : EnvAt H h c e n came pl kl ps ks) (d : Dr H h c) (b : But h c H H') : EnvAt H' h c e n came pl kl ps ks := by
  obtain ⟨m, k, ns, h1, h2, _⟩ := d
  exact { x with
    e := b _ _ (ne_of x.e h1 (by intro z; cases z)) (ne_of x.e h2 (by intro z; cases z)) x.e
    p := b _ _ x.ph x.pc x.p
    k := b _ _ x.kh x.kc x.k }
theorem EnvAt.same {H H' : Hp} {h c e : Addr} {n : Nat} {came : Str} {pl kl : Addr} {ps : List Int} {ks : List Str} (x : EnvAt H h c e n came pl kl ps ks) (b : Same H H') : EnvAt H' h c e n came pl kl ps ks :=
  { x with
    e := b _ _ x.e
    p := b _ _ x.p
    k := b _ _ x.k }
theorem kind_at {ks : List Str} (hk : ∀ x ∈ ks, KindS x) {r : Int} (h0 : 0 ≤ r) (h1 : r < ks.length) : ∃ k, KindS k ∧ atI (ks.map V.str) r = some (.str k) := by
  obtain ⟨j, rfl⟩ : ∃ j : Nat, r = (j : Int) := ⟨r.toNat, by omega⟩
  have hl : j < ks.length := by omega
  refine ⟨ks[j], hk _ (List.getElem_mem hl), ?_⟩
  exact atI_nat (by rw [List.getElem?_map, List.getElem?_eq_getElem hl]; rfl)
theorem int_at {ps : List Int} {P : Int → Prop} (hk : ∀ x ∈ ps, P x) {r : Int} (h0 : 0 ≤ r) (h1 : r < ps.length) : ∃ k, P k ∧ atI (ps.map V.int) r = some (.int k) := by
  obtain ⟨j, rfl⟩ : ∃ j : Nat, r = (j : Int) := ⟨r.toNat, by omega⟩
  have hl : j < ps.length := by omega
  refine ⟨ps[j], hk _ (List.getElem_mem hl), ?_⟩
  exact atI_nat (by rw [List.getElem?_map, List.getElem?_eq_getElem hl]; rfl)
theorem val_at {vs : List V} {P : V → Prop} (hk : ∀ x ∈ vs, P x) {r : Int} (h0 : 0 ≤ r) (h1 : r < vs.length) : ∃ k, P k ∧ atI vs r = some k := by
  obtain ⟨j, rfl⟩ : ∃ j : Nat, r = (j : Int) := ⟨r.toNat, by omega⟩
  have hl : j < vs.length := by omega
  refine ⟨vs[j], hk _ (List.getElem_mem hl), ?_⟩
  exact atI_nat (List.getElem?_eq_getElem hl)
theorem two_at (x y : V) {r : Int} (h0 : 0 ≤ r) (h1 : r < 2) : atI [x, y] r = some (if r = 0 then x else y) := by
  rcases (by omega : r = 0 ∨ r = 1) with rfl | rfl <;> rfl
/-- the shape of a body's promise: a word of n functions comes, d deep -/
def spWord (n : Nat) (d : Nat) (pre : List V → Hp → Addr → Addr → Prop) : Sp := fun vs H Q _ => ∃ h c, pre vs H h c ∧ Dr H h c ∧
  ∀ v H', But h c H H' → Dr H' h c → Wd H' n d v → Q v H'
def preE (n : Nat) (h c e : Addr) (H : Hp) : Prop := ∃ came pl kl ps ks, EnvAt H h c e n came pl kl ps ks
theorem preE.but {H H' : Hp} {h c e : Addr} {n : Nat} (x : preE n h c e H) (d : Dr H h c) (b : But h c H H') : preE n h c e H' := by
  obtain ⟨came, pl, kl, ps, ks, x⟩ := x
  exact ⟨came, pl, kl, ps, ks, x.but d b⟩
def preLeaf (n : Nat) : List V → Hp → Addr → Addr → Prop := fun vs H h c => ∃ e k, vs = [.ref h, .ref e, .str k] ∧ KindS k ∧ preE n h c e H
def preBody (n m : Nat) : List V → Hp → Addr → Addr → Prop := fun vs H h c => ∃ e k z, vs = [.ref h, .ref e, .str k, .int z] ∧ z = (m : Int) ∧ KindS k ∧ preE n h c e H
def preDeep (n m : Nat) : List V → Hp → Addr → Addr → Prop := fun vs H h c => ∃ e z, vs = [.ref h, .ref e, .int z] ∧ z = (m : Int) ∧ preE n h c e H
theorem kindN : KindS "number" := .inl rfl
theorem kindW : KindS "way" := .inr rfl
theorem two_kinds (r : Int) (h0 : 0 ≤ r) (h1 : r < 2) : ∃ k, KindS k ∧ atI [V.str "number", .str "way"] r = some (.str k) := by
  rcases (by omega : r = 0 ∨ r = 1) with rfl | rfl
  · exact ⟨_, kindN, rfl⟩
  · exact ⟨_, kindW, rfl⟩
theorem three_words (r : Int) (h0 : 0 ≤ r) (h1 : r < 3) : ∃ o : Op, o.arity = 2 ∧ o.gives = false ∧ (∀ n g, o.fits n g) ∧ atI [V.str "plus", .str "less", .str "times"] r = some (.str o.name) := by
  rcases (by omega : r = 0 ∨ r = 1 ∨ r = 2) with rfl | rfl | rfl
  · exact ⟨.plus, rfl, rfl, fun _ _ => trivial, rfl⟩
  · exact ⟨.less, rfl, rfl, fun _ _ => trivial, rfl⟩
  · exact ⟨.times, rfl, rfl, fun _ _ => trivial, rfl⟩
theorem Dr.new {H : Hp} {h c l : Addr} (d : Dr H h c) (hl : H l = none) : l ≠ h ∧ l ≠ c := by
  obtain ⟨m, k, ns, h1, h2, _⟩ := d
  exact ⟨(ne_of_none h1 hl).symm, (ne_of_none h2 hl).symm⟩
theorem wds_keep {H H' : Hp} {n d : Nat} {vs : List V} (k : Keep H H') (h : ∀ v ∈ vs, Wd H n d v) : ∀ v ∈ vs, Wd H' n d v := fun v hv => (h v hv).keep k
theorem wds_app {H : Hp} {n d : Nat} {vs us : List V} (h : ∀ v ∈ vs, Wd H n d v) (h' : ∀ v ∈ us, Wd H n d v) : ∀ v ∈ vs ++ us, Wd H n d v := fun v hv => by
  rcases List.mem_append.mp hv with q | q
  · exact h v q
  · exact h' v q
theorem wds_one {H : Hp} {n d : Nat} {v : V} (h : Wd H n d v) : ∀ u ∈ [v], Wd H n d u := fun u hu => by
  rcases List.mem_singleton.mp hu with rfl
  exact h
end Ov
namespace Ov
open PySem PySem.Spec PyProof.Rows L2
def spWords (d : Nat) : Sp := fun vs H Q _ => ∃ v n u, vs = [v] ∧ WAt H v u ∧ WOk n d u ∧ ∀ H', Same H H' → Q (.int (u.size : Int)) H'
end Ov
/-! ### programs -/
namespace Ov
open PySem PySem.Spec PyProof.Rows L2
/-- the function f stands at v -/
def FAt (H : Hp) (v : V) (f : Int × W) : Prop := ∃ b bv, v = .ref b ∧ H b = some (.tup [.int f.1, bv]) ∧ WAt H bv f.2
def PrAt (H : Hp) (v : V) (p : List (Int × W)) : Prop := ∃ a vs, v = .ref a ∧ H a = some (.tup vs) ∧ Paired (FAt H) vs p
def FOk (n : Nat) (f : Int × W) : Prop := 1 ≤ f.1 ∧ f.1 ≤ 8 ∧ WOk n 7 f.2 ∧ f.2.size ≤ 40
structure PrOk (p : List (Int × W)) : Prop where
  l1 : 1 ≤ p.length
  l8 : p.length ≤ 8
  f : ∀ f ∈ p, FOk p.length f
theorem FAt.keep {H H' : Hp} {v : V} {f : Int × W} (k : Keep H H') (h : FAt H v f) : FAt H' v f := by
  obtain ⟨b, bv, e, h1, h2⟩ := h
  exact ⟨b, bv, e, k _ _ h1, h2.keep k⟩
theorem PrAt.keep {H H' : Hp} {v : V} {p : List (Int × W)} (k : Keep H H') (h : PrAt H v p) : PrAt H' v p := by
  obtain ⟨a, vs, e, h1, h2⟩ := h
  exact ⟨a, vs, e, k _ _ h1, L2.Paired.mapP h2 fun _ _ z => z.keep k⟩
theorem wok0 {n : Nat} {w : W} : ¬ WOk n 0 w := fun h => nomatch h
theorem wok1_size {n : Nat} {w : W} (h : WOk n 1 w) : w.size = 1 := by
  cases h with
  | @mk d o g as h1 h2 h3 =>
    cases as with
    | nil => rw [W.size_mk]; rfl
    | cons a r => exact absurd (h3 a List.mem_cons_self) wok0
theorem three_kinds (r : Int) (h0 : 0 ≤ r) (h1 : r < 3) : ∃ k, KindS k ∧ atI [V.str "number", .str "number", .str "way"] r = some (.str k) := by
  rcases (by omega : r = 0 ∨ r = 1 ∨ r = 2) with rfl | rfl | rfl
  · exact ⟨_, kindN, rfl⟩
  · exact ⟨_, kindN, rfl⟩
  · exact ⟨_, kindW, rfl⟩
theorem four_kinds (r : Int) (h0 : 0 ≤ r) (h1 : r < 4) : ∃ k, KindS k ∧ atI [V.str "number", .str "number", .str "number", .str "way"] r = some (.str k) := by
  rcases (by omega : r = 0 ∨ r = 1 ∨ r = 2 ∨ r = 3) with rfl | rfl | rfl | rfl
  · exact ⟨_, kindN, rfl⟩
  · exact ⟨_, kindN, rfl⟩
  · exact ⟨_, kindN, rfl⟩
  · exact ⟨_, kindW, rfl⟩
theorem two_sizes (r : Int) (h0 : 0 ≤ r) (h1 : r < 2) : ∃ z : Int, 1 ≤ z ∧ z ≤ 8 ∧ atI [V.int 2, .int 8] r = some (.int z) := by
  rcases (by omega : r = 0 ∨ r = 1) with rfl | rfl
  · exact ⟨2, by decide, by decide, rfl⟩
  · exact ⟨8, by decide, by decide, rfl⟩
/-- a program is drawn -/
def spProgram : Sp := fun vs H Q _ => ∃ h c m, vs = [.ref h, .int m] ∧ Dr H h c ∧ 1 ≤ m ∧ m ≤ 8 ∧ ∀ v H' p, But h c H H' → Dr H' h c → PrAt H' v p → PrOk p → Q v H'
/-- the bodies' promises, for any number of functions and any depth up to 4 -/
def spBodies : Sp := fun vs H Q E => ∃ i : Nat × _root_.Fin 5, spWord i.1 (i.2.val + 2) (preBody i.1 i.2.val) vs H Q E
def spLeaves : Sp := fun vs H Q E => ∃ n : Nat, spWord n 1 (preLeaf n) vs H Q E
end Ov
/-! ### trees as data -/
namespace Ov
open PySem PySem.Spec PyProof.Rows L2
theorem flat_set {α : Type} (x : α) : ∀ (ps : List (List α)) (k : Nat) (p : List α), ps[k]? = some p → (ps.set k (p ++ [x])).flatten.Perm (ps.flatten ++ [x])
  | [], k, p, h => by simp at h
  | q :: r, 0, p, h => by
    have e : q = p := Option.some.inj h
    subst e
    show ((q ++ [x]) ++ r.flatten).Perm ((q ++ r.flatten) ++ [x])
    rw [List.append_assoc, List.append_assoc]
    exact List.Perm.append_left q List.perm_append_comm
  | q :: r, k + 1, p, h => by
    show (q ++ (r.set k (p ++ [x])).flatten).Perm ((q ++ r.flatten) ++ [x])
    rw [List.append_assoc]
    exact List.Perm.append_left q (flat_set x r k p h)
theorem erase_perm {α : Type} : ∀ (l : List α) (k : Nat) (x : α), l[k]? = some x → (x :: l.eraseIdx k).Perm l
  | [], k, x, h => by simp at h
  | a :: r, 0, x, h => by
    have e : a = x := Option.some.inj h
    subst e
    exact List.Perm.refl _
  | a :: r, k + 1, x, h => by
    have ih := erase_perm r k x h
    show (x :: a :: r.eraseIdx k).Perm (a :: r)
    exact (List.Perm.swap a x _).trans (ih.cons a)
def nV (p : List Nat) : List V := p.map fun (x : Nat) => V.int (x : Int)
theorem nV_len (p : List Nat) : (nV p).length = p.length := List.length_map _
theorem nV_get {p : List Nat} {k x : Nat} (h : p[k]? = some x) : (nV p)[k]? = some (.int (x : Int)) := by unfold nV; rw [List.getElem?_map, h]; rfl
theorem nV_app (p : List Nat) (x : Nat) : nV (p ++ [x]) = nV p ++ [.int (x : Int)] := List.map_append
theorem nV_erase : ∀ (p : List Nat) (k : Nat), (nV p).eraseIdx k = nV (p.eraseIdx k)
  | [], _ => rfl
  | _ :: _, 0 => rfl
  | a :: r, k + 1 => congrArg (V.int (a : Int) :: ·) (nV_erase r k)
theorem rgV_nV (n : Nat) : rgV 0 (n : Int) = nV (List.range n) := by
  unfold rgV nV
  rw [show ((n : Int) - 0).toNat = n by omega]
  refine List.map_congr_left fun i _ => ?_
  rw [Int.zero_add]
/-- what parts of i functions are -/
structure PInv (i : Nat) (ps : List (List Nat)) : Prop where
  ne : ∀ p ∈ ps, p ≠ []
  rise : ∀ p ∈ ps, p.Pairwise (· < ·)
  firsts : (ps.map (·.headD 0)).Pairwise (· < ·)
  perm : ps.flatten.Perm (List.range i)
theorem PInv.lt {i : Nat} {ps : List (List Nat)} (h : PInv i ps) {p : List Nat} (hp : p ∈ ps) {x : Nat} (hx : x ∈ p) : x < i :=
  List.mem_range.mp (h.perm.mem_iff.mp (List.mem_flatten.mpr ⟨p, hp, hx⟩))
theorem PInv.head {i : Nat} {ps : List (List Nat)} (h : PInv i ps) {p : List Nat} (hp : p ∈ ps) : p.headD 0 < i := by
  have ne := h.ne p hp
  cases p with
  | nil => exact absurd rfl ne
  | cons a r => exact h.lt hp List.mem_cons_self
theorem PInv.app {i : Nat} {ps : List (List Nat)} (h : PInv i ps) : PInv (i + 1) (ps ++ [[i]]) where
  ne := fun p hp => by
    rcases List.mem_append.mp hp with z | z
    · exact h.ne p z
    · rw [List.mem_singleton.mp z]; exact List.cons_ne_nil _ _
  rise := fun p hp => by
    rcases List.mem_append.mp hp with z | z
    · exact h.rise p z
    · rw [List.mem_singleton.mp z]; exact List.pairwise_singleton _ _
  firsts := by
    rw [List.map_append, List.pairwise_append]
    refine ⟨h.firsts, List.pairwise_singleton _ _, fun a ha b hb => ?_⟩
    obtain ⟨p, hp, rfl⟩ := List.mem_map.mp ha
    have e : b = i := by simpa using hb
    rw [e]
    exact h.head hp
  perm := by
    rw [List.flatten_append, List.range_succ]
    exact List.Perm.append_right _ h.perm
theorem mem_set_cases {α : Type} {l : List α} {k : Nat} {x y : α} (h : y ∈ l.set k x) : y ∈ l ∨ y = x := List.mem_or_eq_of_mem_set h
theorem PInv.set {i k : Nat} {ps : List (List Nat)} {p : List Nat} (h : PInv i ps) (hk : ps[k]? = some p) : PInv (i + 1) (ps.set k (p ++ [i])) where
  ne := fun q hq => by
    rcases mem_set_cases hq with z | z
    · exact h.ne q z
    · rw [z]; simp
  rise := fun q hq => by
    rcases mem_set_cases hq with z | z
    · exact h.rise q z
    · rw [z, List.pairwise_append]
      refine ⟨h.rise p (List.mem_of_getElem? hk), List.pairwise_singleton _ _, fun a ha b hb => ?_⟩
      rw [List.mem_singleton.mp hb]
      exact h.lt (List.mem_of_getElem? hk) ha
  firsts := by
    have e : (ps.set k (p ++ [i])).map (·.headD 0) = ps.map (·.headD 0) := by
      rw [List.map_set]
      have ne := h.ne p (List.mem_of_getElem? hk)
      have e2 : (p ++ [i]).headD 0 = p.headD 0 := by
        cases p with
        | nil => exact absurd rfl ne
        | cons a r => rfl
      rw [e2]
      refine List.ext_getElem? fun j => ?_
      rw [List.getElem?_set]
      split
      · rename_i z
        subst z
        rw [List.getElem?_map, hk]
        split
        · rfl
        · rename_i y
          have := (List.getElem?_eq_some_iff.mp hk).1
          rw [List.length_map] at y
          exact absurd this y
      · rfl
    rw [e]
    exact h.firsts
  perm := by
    rw [List.range_succ]
    exact (flat_set i ps k p hk).trans (List.Perm.append_right _ h.perm)
/-- on what parts stand, by their order -/
def SInv (od : List Nat) (st : List Int) : Prop := ∀ (t x : Nat), od[t]? = some x → st[x]? = some (-1) ∨ ∃ (j y : Nat), j < t ∧ od[j]? = some y ∧ st[x]? = some ((y : Nat) : Int)
theorem SInv.set {od : List Nat} {st : List Int} {k x : Nat} {z : Int} (h : SInv od st) (nd : od.Nodup) (hk : od[k]? = some x) (hx : x < st.length) (hz : z = -1 ∨ ∃ (j y : Nat), j < k ∧ od[j]? = some y ∧ z = ((y : Nat) : Int)) : SInv od (st.set x z) := fun t y hy => by
  by_cases e : x = y
  · subst e
    have et : t = k := by
      obtain ⟨h1, e1⟩ := List.getElem?_eq_some_iff.mp hy
      obtain ⟨h2, e2⟩ := List.getElem?_eq_some_iff.mp hk
      exact (List.getElem_inj nd).mp (e1.trans e2.symm)
    subst et
    rw [List.getElem?_set_self hx]
    rcases hz with rfl | ⟨j, y, h1, h2, rfl⟩
    · exact .inl rfl
    · exact .inr ⟨j, y, h1, h2, rfl⟩
  · rw [List.getElem?_set_ne e]
    exact h t y hy
/-- a tree of n functions: parts, on what they stand -/
structure TrOk (n : Nat) (ps : List (List Nat)) (st : List Int) : Prop where
  p : PInv n ps
  len : st.length = ps.length
  ord : ∃ od : List Nat, od.Perm (List.range ps.length) ∧ SInv od st
def PartAt (H : Hp) (v : V) (p : List Nat) : Prop := ∃ b, v = .ref b ∧ H b = some (.tup (nV p))
def TrAt (H : Hp) (v : V) (ps : List (List Nat)) (st : List Int) : Prop := ∃ a pa sa vs, v = .ref a ∧ H a = some (.tup [.ref pa, .ref sa]) ∧ H pa = some (.tup vs) ∧ Paired (PartAt H) vs ps ∧ H sa = some (.tup (st.map V.int))
theorem PartAt.keep {H H' : Hp} {v : V} {p : List Nat} (k : Keep H H') (h : PartAt H v p) : PartAt H' v p := by
  obtain ⟨b, e, h⟩ := h
  exact ⟨b, e, k _ _ h⟩
theorem TrAt.keep {H H' : Hp} {v : V} {ps : List (List Nat)} {st : List Int} (k : Keep H H') (h : TrAt H v ps st) : TrAt H' v ps st := by
  obtain ⟨a, pa, sa, vs, e, h1, h2, h3, h4⟩ := h
  exact ⟨a, pa, sa, vs, e, k _ _ h1, k _ _ h2, L2.Paired.mapP h3 fun _ _ z => z.keep k, k _ _ h4⟩
/-- lists that grow: each its own -/
def LsAt (H : Hp) (bs : List Addr) (qs : List (List Nat)) : Prop := Paired (fun b q => H b = some (.lst (nV q))) bs qs
theorem LsAt.keep {H H' : Hp} : ∀ {bs : List Addr} {qs : List (List Nat)}, (∀ b ∈ bs, ∀ o, H b = some o → H' b = some o) → LsAt H bs qs → LsAt H' bs qs
  | _, _, _, .nil => .nil
  | _, _, k, .cons h r => .cons (k _ List.mem_cons_self _ h) (LsAt.keep (fun b hb => k b (List.mem_cons_of_mem _ hb)) r)
theorem LsAt.get {H : Hp} : ∀ {bs : List Addr} {qs : List (List Nat)} {k : Nat} {q : List Nat}, LsAt H bs qs → qs[k]? = some q → ∃ b, bs[k]? = some b ∧ H b = some (.lst (nV q))
  | _, _, _, _, .nil, e => by simp at e
  | _, _, 0, q, .cons h r, e => by
    have e2 := Option.some.inj e
    subst e2
    exact ⟨_, rfl, h⟩
  | _, _, k + 1, q, .cons _ r, e => LsAt.get (k := k) (q := q) r e
theorem LsAt.set {H : Hp} : ∀ {bs : List Addr} {qs : List (List Nat)} {k : Nat} {b : Addr} {q' : List Nat}, LsAt H bs qs → bs.Nodup → bs[k]? = some b → LsAt (upd H b (.lst (nV q'))) bs (qs.set k q')
  | _, _, _, _, _, .nil, _, e => by simp at e
  | a :: bs, _ :: qs, 0, b, q', .cons h r, nd, e => by
    have e2 : a = b := Option.some.inj e
    subst e2
    refine .cons upd_same (LsAt.keep (fun c hc o ho => ?_) r)
    have ne : c ≠ a := fun z => by rw [z] at hc; exact (List.nodup_cons.mp nd).1 hc
    rw [upd_ne ne]
    exact ho
  | a :: bs, _ :: qs, k + 1, b, q', .cons h r, nd, e => by
    have hb : b ∈ bs := List.mem_of_getElem? (show bs[k]? = some b from e)
    have ne : a ≠ b := fun z => by rw [z] at nd; exact (List.nodup_cons.mp nd).1 hb
    exact .cons (by rw [upd_ne ne]; exact h) (LsAt.set r (List.nodup_cons.mp nd).2 e)
theorem LsAt.mem {H : Hp} : ∀ {bs : List Addr} {qs : List (List Nat)}, LsAt H bs qs → ∀ b ∈ bs, ∃ q, H b = some (.lst (nV q))
  | _, _, .nil, b, hb => nomatch hb
  | _, _, .cons h r, b, hb => by
    rcases List.mem_cons.mp hb with z | z
    · rw [z]; exact ⟨_, h⟩
    · exact LsAt.mem r b z
theorem cut_to (xs : List V) (k : Nat) (h : k ≤ xs.length) : cutV xs none (some (k : Int)) = xs.take k := by
  unfold cutV
  rw [HT.sIx_none, HT.sIx_nat, Nat.min_eq_left h, List.drop_zero, Nat.sub_zero]
theorem mem_flat_len : ∀ {ps : List (List Nat)} {p : List Nat}, p ∈ ps → p.length ≤ ps.flatten.length
  | q :: r, p, h => by
    rw [List.flatten_cons, List.length_append]
    rcases List.mem_cons.mp h with z | z
    · rw [z]; omega
    · have := mem_flat_len z; omega
theorem flat_len : ∀ {ps : List (List Nat)}, (∀ p ∈ ps, p ≠ []) → ps.length ≤ ps.flatten.length
  | [], _ => Nat.le_refl _
  | q :: r, h => by
    have h1 := flat_len (ps := r) fun p hp => h p (List.mem_cons_of_mem _ hp)
    have h2 := List.length_pos_iff.mpr (h q List.mem_cons_self)
    rw [List.flatten_cons, List.length_append, List.length_cons]
    omega
theorem PInv.plen {i : Nat} {ps : List (List Nat)} (h : PInv i ps) {p : List Nat} (hp : p ∈ ps) : p.length ≤ i := by
  have h1 := mem_flat_len hp
  have h2 := h.perm.length_eq
  rw [List.length_range] at h2
  omega
theorem PInv.count {i : Nat} {ps : List (List Nat)} (h : PInv i ps) : ps.length ≤ i := by
  have h1 := flat_len h.ne
  have h2 := h.perm.length_eq
  rw [List.length_range] at h2
  omega
theorem PInv.pos {i : Nat} {ps : List (List Nat)} (h : PInv i ps) (hi : 0 < i) : 0 < ps.length := by
  cases ps with
  | nil =>
    have h2 := h.perm.length_eq
    rw [List.length_range] at h2
    exact absurd h2 (by show ¬ 0 = i; omega)
  | cons a r => exact Nat.succ_pos _
theorem set_last (ps : List (List Nat)) (x : List Nat) : (ps ++ [[]]).set ps.length x = ps ++ [x] := by
  rw [List.set_append_right (h := Nat.le_refl _), Nat.sub_self]
  rfl
theorem rep_neg (m : Nat) : (List.replicate ((m : Nat) : Int).toNat [V.int (-1)]).flatten = (List.replicate m (-1 : Int)).map V.int := by
  rw [Int.toNat_natCast]
  induction m with
  | zero => rfl
  | succ m ih =>
    show [V.int (-1)] ++ (List.replicate m [V.int (-1)]).flatten = _
    rw [ih]
    rfl
theorem SInv.start (od : List Nat) (m : Nat) (h : ∀ x ∈ od, x < m) : SInv od (List.replicate m (-1)) := fun t x hx => .inl (by
  rw [List.getElem?_replicate, if_pos (h x (List.mem_of_getElem? hx))])
/-- a tree is drawn -/
def spTree : Sp := fun vs H Q _ => ∃ h c a n vp, vs = [.ref h, .ref a] ∧ Dr H h c ∧ H a = some (.tup vp) ∧ vp.length = n ∧ 1 ≤ n ∧ n ≤ 8 ∧ ∀ v H' ps st, But h c H H' → Dr H' h c → TrAt H' v ps st → TrOk n ps st → Q v H'
end Ov
/-! ### enumerate and zip over lists and tuples alike -/
namespace Ov
open PySem PySem.Spec PyProof.Rows L2
/-- what is walked: a list | a tuple -/
inductive Sk where
  | l | t
def Sk.S (K : PySem.W.Frag) (H : Hp) (a : Addr) (xs : List V) : Sk → Prop
  | .l => SqL K H a xs
  | .t => SqT K H a xs
def Sk.It (h : Heap) (it a : Addr) (i : Nat) : Sk → Prop
  | .l => h.IsListIter it a i
  | .t => h.IsTupleIter it a i
def Sk.Is (h : Heap) (a : Addr) (its : Array Value) : Sk → Prop
  | .l => h.IsList a its
  | .t => h.IsTuple a its
def Sk.new (a : Addr) : Sk → Obj
  | .l => { cls := .type "list_iterator", data := .fields #[.ref a, .int 0 0] }
  | .t => { cls := .type "tuple_iterator", data := .fields #[.ref a, .int 0 0] }
def Sk.St (k : Sk) (it a : Addr) (its : Array Value) : Nat → Heap → Prop := fun i h => k.It h it a i ∧ k.Is h a its
theorem Sk.draws (k : Sk) {P : Program} {w : World} {A : Around} (hh : A.handled = none) (it a : Addr) (ne : a ≠ it) (its : Array Value) : Draws P w A it [it, a] its.size (fun i v => its[i]? = some v) (k.St it a its) := by
  cases k
  · exact Draws.list hh it a ne its
  · exact Draws.tuple hh it a ne its
theorem Sk.begins (k : Sk) (a : Addr) (its : Array Value) : Begins (.ref a) (k.new a) (fun h => k.Is h a its) := by
  cases k
  · exact begins_list a its
  · exact begins_tuple a its
theorem Sk.it_obj {k : Sk} {h : Heap} {it a : Addr} {i : Nat} (x : k.It h it a i) : ∃ o, h.get? it = some o ∧ ∀ v, o.data ≠ .cell v := by
  cases k
  · obtain ⟨o, h1, _, h2⟩ := x
    exact ⟨o, h1, fun v z => by rw [h2] at z; cases z⟩
  · obtain ⟨o, h1, _, h2⟩ := x
    exact ⟨o, h1, fun v z => by rw [h2] at z; cases z⟩
theorem Sk.it_keep {k : Sk} {h g : Heap} {it a : Addr} {i : Nat} (x : k.It h it a i) (q : ∀ o, h.get? it = some o → g.get? it = some o) : k.It g it a i := by
  cases k
  · exact Heap.IsListIter.at x q
  · exact Heap.IsTupleIter.at x q
theorem Sk.it_new {k : Sk} {h : Heap} {it a : Addr} (e : h.get? it = some (k.new a)) : k.It h it a 0 := by
  cases k
  · exact ⟨_, e, rfl, rfl⟩
  · exact ⟨_, e, rfl, rfl⟩
theorem Sk.is_lt {k : Sk} {h : Heap} {a : Addr} {its : Array Value} (x : k.Is h a its) : a < h.objs.size := by
  cases k
  · obtain ⟨o, e, _⟩ := x
    exact Heap.lt_size e
  · obtain ⟨o, e, _⟩ := x
    exact Heap.lt_size e
theorem Sk.read {k : Sk} {X : Cx} {pins : List (Addr × Obj)} {σ : L2.St} {H : Hp} {s : Shared} {a : Addr} {xs : List V} (I : Inv X pins σ H s) (h : k.S X.K H a xs) : ∃ its, Vals xs its ∧ k.Is s.heap a its.toArray := by
  cases k
  · obtain ⟨its, r, p, _⟩ := I.list h
    exact ⟨its, r, p.isList⟩
  · obtain ⟨its, r, p, _⟩ := I.tuple h
    exact ⟨its, r, p⟩
theorem Sk.inj {k : Sk} {X : Cx} {pins : List (Addr × Obj)} {σ : L2.St} {H : Hp} {s : Shared} {a : Addr} {xs ys : List V} (I : Inv X pins σ H s) (h : k.S X.K H a xs) (h' : k.S X.K H a ys) : xs = ys := by
  cases k
  · exact I.list_inj h h'
  · exact I.tuple_inj h h'
/-- enumerate: each item in a new pair -/
def EnI (K : PySem.W.Frag) (k : Sk) (a : Addr) : L2.It where
  go := fun i H => ∃ (xs : List V) (x : V), k.S K H a xs ∧ xs[i]? = some x
  yld := fun i H v H' => ∃ T x, v = .ref T ∧ H T = none ∧ H' = upd H T (.tup [.int (i : Nat), x]) ∧ ∀ xs, k.S K H a xs → xs[i]? = some x
  stop := fun i H => ∃ xs : List V, k.S K H a xs ∧ i = xs.length
/-- zip -/
def ZpI (K : PySem.W.Frag) (k m : Sk) (a b : Addr) : L2.It where
  go := fun i H => ∃ (xs ys : List V) (x y : V), k.S K H a xs ∧ m.S K H b ys ∧ xs[i]? = some x ∧ ys[i]? = some y
  yld := fun i H v H' => ∃ T x y, v = .ref T ∧ H T = none ∧ H' = upd H T (.tup [x, y]) ∧ (∀ xs, k.S K H a xs → xs[i]? = some x) ∧ ∀ ys, m.S K H b ys → ys[i]? = some y
  stop := fun i H => ∃ xs ys : List V, k.S K H a xs ∧ m.S K H b ys ∧ i ≤ xs.length ∧ i ≤ ys.length ∧ (i = xs.length ∨ i = ys.length)
/-- the cells of an enumerate -/
def EnT (k : Sk) (e it a : Addr) : Nat → Heap → Prop := fun i h => (∃ old, IsEnum h e it ((i : Nat) : Int) old) ∧ k.It h it a i ∧ e ≠ it ∧ a ≠ it ∧ e ≠ a
theorem two_mem {b e it : Addr} (h : b ∈ [e, it]) : b = e ∨ b = it := by simpa using h
theorem en_turn {P : Program} {w : World} {K : PySem.W.Frag} {elts : List Expr} {kk : Nat} {tpos : Pos} (k : Sk) (e it a : Addr) : Turn P w K (.Tuple elts kk tpos) (EnI K k a) [e, it] e (EnT k e it a) := by
  refine { mem := List.mem_cons_self, obj := ?_, keep := ?_, item := ?_, done := ?_, self := ?_ }
  · rintro i h ⟨⟨old, h1⟩, h2, _⟩ b hb
    rcases two_mem hb with z | z
    · refine ⟨_, by rw [z]; exact h1, ?_⟩
      intro v y
      cases y
    · rw [z]
      exact Sk.it_obj h2
  · rintro i h g ⟨⟨old, h1⟩, h2, h3⟩ q
    exact ⟨⟨old, q e (by simp) _ h1⟩, Sk.it_keep h2 (q it (by simp)), h3⟩
  · rintro X rfl rfl rfl hc i pins s σ H E I hf ⟨⟨old, h1⟩, h2, n1, n2, n3⟩ ⟨xs, x, hq, hx⟩
    obtain ⟨its, rv, his⟩ := Sk.read I hq
    obtain ⟨u, hu, ru⟩ := rv.get hx
    have hlt : i < its.toArray.size := by rw [List.size_toArray]; exact (List.getElem?_eq_some_iff.mp hu).1
    have hel : e < s.heap.objs.size := Heap.lt_size h1
    have hil : it < s.heap.objs.size := by obtain ⟨_, z, _⟩ := Sk.it_obj h2; exact Heap.lt_size z
    refine wpAny_pyNext_enum_itemD (k.draws (A := X.A.in1) (I.ok.hd hc) it a n2 its.toArray) h1 ⟨h2, his⟩ hlt n1 (by simp; exact ⟨n1, n3⟩) fun y g tk py out st hT hsz hk => ?_
    obtain rfl : y = u := by
      have z : its[i]? = some y := by simpa using py
      exact Option.some.inj (z.symm.trans hu)
    refine ⟨_, rfl, wpAny_letOwnedTupleGo_enum (s := { s with heap := g, toks := tk + 1 }) out fun g2 he2 sb => ?_⟩
    have hT2 : g2.get? s.heap.objs.size = some { cls := .type "tuple", data := .seq #[.int i tk, y] } := by rw [sb.2 _ (Nat.ne_of_gt hel)]; exact hT
    have ok : ObjOk X.prog X.w (upd H s.heap.objs.size (.tup [.int (i : Nat), x])) g2 s.heap.objs.size (.tup [.int (i : Nat), x]) := ⟨sml 2, [.int i tk, y], .cons ⟨tk, rfl⟩ (.cons ru .nil), ⟨_, hT2, rfl, _, rfl⟩⟩
    have I2 : Inv X pins σ (upd H s.heap.objs.size (.tup [.int (i : Nat), x])) { s with heap := g2, toks := tk + 1 } := by
      refine I.turnedNew (ch := [e, it]) (fun b o hb q => ?_) hf (Nat.le_refl _) ok
      have b1 : b ≠ e := fun z => hb (by rw [z]; simp)
      have b2 : b ≠ it := fun z => hb (by rw [z]; simp)
      rw [sb.2 b b1]
      exact hk b o b1 b2 q
    refine ⟨.ref s.heap.objs.size, _, I2, rfl, ⟨_, x, rfl, I.hok.fresh (Nat.le_refl _), rfl, fun ys hy => ?_⟩, ⟨⟨y, ?_⟩, ?_, n1, n2, n3⟩, fun b hb => ?_⟩
    · rw [Sk.inj I hy hq]
      exact hx
    · rw [show ((i + 1 : Nat) : Int) = (i : Int) + 1 by omega]
      exact he2
    · exact Sk.it_keep st.1 fun o z => by rw [sb.2 it n1.symm]; exact z
    · have b1 : b ≠ s.heap.objs.size := by
        rcases two_mem hb with z | z
        · rw [z]; exact Nat.ne_of_lt hel
        · rw [z]; exact Nat.ne_of_lt hil
      rw [upd_ne b1]
      exact (hf b hb).1
  · rintro X rfl rfl rfl hc i pins s σ H E I hf ⟨⟨old, h1⟩, h2, n1, n2, n3⟩ ⟨xs, hq, hx⟩
    subst hx
    obtain ⟨its, rv, his⟩ := Sk.read I hq
    have el : xs.length = its.toArray.size := by rw [List.size_toArray]; exact rv.length
    rw [el] at h2
    obtain ⟨f0, f1, f2, f3, f4, f5⟩ := hf it (by simp)
    exact wpAny_pyNext_enum_endD (k.draws (A := X.A.in1) (I.ok.hd hc) it a n2 its.toArray) h1 ⟨h2, his⟩ fun g q => ⟨rfl, I.turned (t' := s.toks) (fun b o hb z => q b o hb z) f0 f1 f3 f4 f5⟩
  · rintro A i s Q E ⟨⟨old, h1⟩, _⟩ q
    exact wpAny_pyIter_enum h1 q
/-- enumerate(x) makes two cells -/
theorem en_meets {v : Value} {o : Obj} {C : Heap → Prop} (B : Begins v o C) : Meets (Builtin.«enumerate.__new__» ⟨[.type "enumerate", v], []⟩) (fun _ R s => C s.heap ∧
    R (.ok (.ret (.ref (s.heap.push o).objs.size))) { s with heap := (s.heap.push o).push { cls := .type "enumerate", data := .fields #[.none, .bool false, .ref s.heap.objs.size, rawInt 0, .none, .none] } }) := .of_wp fun prog w A R s h => by
  obtain ⟨hp, gs, dr, tk, os⟩ := s
  obtain ⟨hC, h⟩ := h
  have sub := sub_enumerate
  have go : ∀ {B1 : Around} {E Q : Value → Shared → Prop}, Q (.ref hp.objs.size) ⟨hp.push o, gs, dr, tk, os⟩ → wpAny (model prog w) B1 (pyIter v) Q E ⟨hp, gs, dr, tk, os⟩ := fun q => B.iter prog w _ _ ⟨hp, gs, dr, tk, os⟩ _ hC q
  wp_walk using go
  refine wpAny_stack_any fun st => wpAny_pure ?_
  split
  · rename_i c _ _ _ _ _
    cases (c == Value.type "enumerate") <;> (wp_walk using go; exact ⟨_, rfl, h⟩)
  · wp_walk using go
    exact ⟨_, rfl, h⟩
theorem en_call {P : Program} {w : World} {A : Around} {E Q : Value → Shared → Prop} {s : Shared} {v : Value} {o : Obj} {C : Heap → Prop} (B : Begins v o C) (hC : C s.heap)
    (q : ∀ g, IsEnum g (s.heap.objs.size + 1) s.heap.objs.size 0 .none → g.get? s.heap.objs.size = some o → (∀ b u, s.heap.get? b = some u → g.get? b = some u) → Q (.ref (s.heap.objs.size + 1)) { s with heap := g }) :
    wpAny (model P w) A (call (.type "enumerate") [v]) Q E s := by
  have z : (s.heap.push o).objs.size = s.heap.objs.size + 1 := Heap.size_push ..
  have e1 := Heap.get?_push_size (s.heap.push o) (o := { cls := .type "enumerate", data := .fields #[.none, .bool false, .ref s.heap.objs.size, rawInt 0, .none, .none] }) rfl
  rw [z] at e1
  refine callType_new F.called_enumerate (by decide) (F.typeCall_enumerate_1 _) (F.newCall_enumerate_1 _) (fun obj => F.args_object_init_2 obj _) F.entry_enumerate_new (en_meets B) ⟨hC, ?_⟩
  show _ ∧ _
  rw [z]
  exact ⟨⟨_, e1, rfl⟩, q _ e1 (Heap.get?_push_of_some _ (Heap.get?_push_size _ B.free)) fun b u x => Heap.get?_push_of_some _ (Heap.get?_push_of_some _ x)⟩
def iEn (K : PySem.W.Frag) (k : Sk) (ta : TA) : L2.TI := fun σ H R => ta σ H fun vs H1 => ∃ a xs, vs = [.ref a] ∧ k.S K H1 a xs ∧ R (EnI K k a) H1
theorem pi_en {X : Cx} {K : PySem.W.Frag} {e : Expr} {ta : TA} {p pos tpos : Pos} {elts : List Expr} {kk : Nat} (k : Sk) (hK : X.K = K) (hg : Gl X "enumerate") (hm : X.mg "enumerate" = none) (ha : PA X [e] ta) (hs : starEach [e] X.env = [(false, eval e X.env)] := by rfl) :
    PI X (.Tuple elts kk tpos) (.Call (.Name "enumerate" p) [e] [] pos) (iEn K k ta) := by
  subst hK
  refine ⟨fun pins s σ H R I h => Call_ (ld_blt I hg hm boot_enumerate (PyProof.Rows.callWith_type1 (thn (ha.run pos pins s σ H _ I h) fun us s1 ⟨vs, H1, I1, r1, q1⟩ => ?_) hs rfl))⟩
  obtain ⟨a, xs, rfl, hq, q⟩ := q1
  obtain ⟨u, rfl, ru⟩ := r1.one
  cases ru
  obtain ⟨its, rv, his⟩ := Sk.read I1 hq
  refine en_call (k.begins a its.toArray) his fun g h1 h2 hk => wpAny_pyIter_enum h1 ?_
  have I2 : Inv X pins σ H1 { s1 with heap := g } := I1.kept (t' := s1.toks) hk
  have la := Sk.is_lt his
  refine ⟨s1.heap.objs.size + 1, [s1.heap.objs.size + 1, s1.heap.objs.size], _, _, H1, rfl, I2, en_turn k (s1.heap.objs.size + 1) s1.heap.objs.size a, ⟨⟨.none, h1⟩, Sk.it_new h2, Nat.succ_ne_self _, Nat.ne_of_lt la, Nat.ne_of_gt (Nat.lt_succ_of_lt la)⟩, fun b hb => ?_, q⟩
  have le : s1.heap.objs.size ≤ b := by rcases two_mem hb with z | z <;> (rw [z]; first | exact Nat.le_refl _ | exact Nat.le_succ _)
  exact I1.fpOk le (I1.hok.fresh le)
/-- the cells of a zip -/
def ZpT (k m : Sk) (z ti to_ i1 i2 a b : Addr) : Nat → Heap → Prop := fun i h => IsZip h z ti to_ .none ∧ IsTupOf2 h ti (.ref i1) (.ref i2) ∧ (∃ x y, IsTupOf2 h to_ x y) ∧ k.It h i1 a i ∧ m.It h i2 b i
theorem five_mem {c z ti to_ i1 i2 : Addr} (h : c ∈ [z, ti, to_, i1, i2]) : c = z ∨ c = ti ∨ c = to_ ∨ c = i1 ∨ c = i2 := by simpa using h
theorem zp_sep {z ti to_ i1 i2 a b : Addr} (D : ZipApart z ti to_ i1 i2 a b) : ZipSep2 z ti to_ i1 i2 [i1, a] [i2, b] where
  TIz := D.TIz
  TOz := D.TOz
  TITO := D.TITO
  TIi1 := D.TIi1
  mem1 := List.mem_cons_self
  zf1 := by simp; exact ⟨D.i1z.symm, D.l1z.symm⟩
  Tf1 := by simp; exact ⟨D.TOi1, D.l1TO.symm⟩
  TIi2 := D.TIi2
  mem2 := List.mem_cons_self
  zf2 := by simp; exact ⟨D.i2z.symm, D.l2z.symm⟩
  Tf2 := by simp; exact ⟨D.TOi2, D.l2TO.symm⟩
  sep1_2 := by simp; exact ⟨D.i12, D.l2i1.symm⟩
  sep2_1 := by simp; exact ⟨D.i12.symm, D.l1i2.symm⟩
theorem zp_turn {P : Program} {w : World} {K : PySem.W.Frag} {elts : List Expr} {kk : Nat} {tpos : Pos} (k m : Sk) {z ti to_ i1 i2 a b : Addr} (D : ZipApart z ti to_ i1 i2 a b) : Turn P w K (.Tuple elts kk tpos) (ZpI K k m a b) [z, ti, to_, i1, i2] z (ZpT k m z ti to_ i1 i2 a b) := by
  refine { mem := List.mem_cons_self, obj := ?_, keep := ?_, item := ?_, done := ?_, self := ?_ }
  · rintro i h ⟨hz, h1, ⟨x, y, h2⟩, h3, h4⟩ c hc
    rcases five_mem hc with e | e | e | e | e <;> rw [e]
    · refine ⟨_, hz, ?_⟩
      intro v y
      cases y
    · refine ⟨_, h1, ?_⟩
      intro v y
      cases y
    · refine ⟨_, h2, ?_⟩
      intro v y
      cases y
    · exact Sk.it_obj h3
    · exact Sk.it_obj h4
  · rintro i h g ⟨hz, h1, ⟨x, y, h2⟩, h3, h4⟩ q
    exact ⟨q z (by simp) _ hz, q ti (by simp) _ h1, ⟨x, y, q to_ (by simp) _ h2⟩, Sk.it_keep h3 (q i1 (by simp)), Sk.it_keep h4 (q i2 (by simp))⟩
  · rintro X rfl rfl rfl hc i pins s σ H E I hf ⟨hz, h1, ⟨x0, y0, h2⟩, h3, h4⟩ ⟨xs, ys, x, y, hqx, hqy, hx, hy⟩
    obtain ⟨its, rv, his⟩ := Sk.read I hqx
    obtain ⟨jts, rw_, hjs⟩ := Sk.read I hqy
    obtain ⟨u, hu, ru⟩ := rv.get hx
    obtain ⟨v, hv, rv2⟩ := rw_.get hy
    have l1 : i < its.toArray.size := by rw [List.size_toArray]; exact (List.getElem?_eq_some_iff.mp hu).1
    have l2 : i < jts.toArray.size := by rw [List.size_toArray]; exact (List.getElem?_eq_some_iff.mp hv).1
    have hzl : z < s.heap.objs.size := Heap.lt_size hz
    refine wpAny_pyNext_zipD2_item (zp_sep D) (k.draws (A := X.A.in1) (I.ok.hd hc) i1 a D.l1i1 its.toArray) (m.draws (A := X.A.in1) (I.ok.hd hc) i2 b D.l2i2 jts.toArray) hz h1 h2 ⟨h3, his⟩ ⟨h4, hjs⟩ l1 l2 fun u' v' g tk pu pv z1 t1 s1 s2 hT hsz hk => ?_
    obtain rfl : u' = u := by
      have e : its[i]? = some u' := by simpa using pu
      exact Option.some.inj (e.symm.trans hu)
    obtain rfl : v' = v := by
      have e : jts[i]? = some v' := by simpa using pv
      exact Option.some.inj (e.symm.trans hv)
    refine ⟨_, rfl, wpAny_letOwnedTupleGo_zip (s := { s with heap := g, toks := tk }) z1 fun g2 z2 sb => ?_⟩
    have hT2 : g2.get? s.heap.objs.size = some { cls := .type "tuple", data := .seq #[u', v'] } := by rw [sb.2 _ (Nat.ne_of_gt hzl)]; exact hT
    have ok : ObjOk X.prog X.w (upd H s.heap.objs.size (.tup [x, y])) g2 s.heap.objs.size (.tup [x, y]) := ⟨sml 2, [u', v'], .cons ru (.cons rv2 .nil), ⟨_, hT2, rfl, _, rfl⟩⟩
    have I2 : Inv X pins σ (upd H s.heap.objs.size (.tup [x, y])) { s with heap := g2, toks := tk } := by
      refine I.turnedNew (ch := [z, ti, to_, i1, i2]) (fun c o hc2 q => ?_) hf (Nat.le_refl _) ok
      have n1 : c ≠ z := fun e => hc2 (by rw [e]; simp)
      have n2 : c ≠ to_ := fun e => hc2 (by rw [e]; simp)
      have n3 : c ≠ i1 := fun e => hc2 (by rw [e]; simp)
      have n4 : c ≠ i2 := fun e => hc2 (by rw [e]; simp)
      rw [sb.2 c n1]
      exact hk c o n1 n2 n3 n4 q
    refine ⟨.ref s.heap.objs.size, _, I2, rfl, ⟨_, x, y, rfl, I.hok.fresh (Nat.le_refl _), rfl, fun l hl => ?_, fun l hl => ?_⟩, ⟨z2, ?_, ⟨u', v', ?_⟩, ?_, ?_⟩, fun c hcm => ?_⟩
    · rw [Sk.inj I hl hqx]; exact hx
    · rw [Sk.inj I hl hqy]; exact hy
    · rw [show IsTupOf2 g2 ti (.ref i1) (.ref i2) = (g2.get? ti = _) from rfl, sb.2 ti D.TIz]
      exact hk _ _ D.TIz D.TITO D.TIi1 D.TIi2 h1
    · rw [show IsTupOf2 g2 to_ u' v' = (g2.get? to_ = _) from rfl, sb.2 to_ D.TOz]
      exact t1
    · exact Sk.it_keep s1.1 fun o e => by rw [sb.2 i1 D.i1z]; exact e
    · exact Sk.it_keep s2.1 fun o e => by rw [sb.2 i2 D.i2z]; exact e
    · have lt : c < s.heap.objs.size := by
        rcases five_mem hcm with e | e | e | e | e <;> rw [e]
        · exact hzl
        · exact Heap.lt_size h1
        · exact Heap.lt_size h2
        · obtain ⟨_, q, _⟩ := Sk.it_obj h3; exact Heap.lt_size q
        · obtain ⟨_, q, _⟩ := Sk.it_obj h4; exact Heap.lt_size q
      rw [upd_ne (Nat.ne_of_lt lt)]
      exact (hf c hcm).1
  · rintro X rfl rfl rfl hc i pins s σ H E I hf ⟨hz, h1, ⟨x0, y0, h2⟩, h3, h4⟩ ⟨xs, ys, hqx, hqy, le1, le2, hend⟩
    obtain ⟨its, rv, his⟩ := Sk.read I hqx
    obtain ⟨jts, rw_, hjs⟩ := Sk.read I hqy
    have e1 : xs.length = its.toArray.size := by rw [List.size_toArray]; exact rv.length
    have e2 : ys.length = jts.toArray.size := by rw [List.size_toArray]; exact rw_.length
    refine wpAny_pyNext_zipD2_end (zp_sep D) (k.draws (A := X.A.in1) (I.ok.hd hc) i1 a D.l1i1 its.toArray) (m.draws (A := X.A.in1) (I.ok.hd hc) i2 b D.l2i2 jts.toArray) hz h1 h2 ⟨h3, his⟩ ⟨h4, hjs⟩ (by omega) (by omega) (by omega) fun g tk hk => ⟨rfl, I.turnedL (ch := [z, ti, to_, i1, i2]) (fun c o hc2 q => ?_) hf⟩
    exact hk c o (fun e => hc2 (by rw [e]; simp)) (fun e => hc2 (by rw [e]; simp)) (fun e => hc2 (by rw [e]; simp)) (fun e => hc2 (by rw [e]; simp)) q
  · rintro A i s Q E ⟨hz, _⟩ q
    exact wpAny_pyIter_zip hz q
def iZp (K : PySem.W.Frag) (k m : Sk) (ta : TA) : L2.TI := fun σ H R => ta σ H fun vs H1 => ∃ a b xs ys, vs = [.ref a, .ref b] ∧ k.S K H1 a xs ∧ m.S K H1 b ys ∧ R (ZpI K k m a b) H1
theorem pi_zp {X : Cx} {K : PySem.W.Frag} {e e2 : Expr} {ta : TA} {p pos tpos : Pos} {elts : List Expr} {kk : Nat} (k m : Sk) (hK : X.K = K) (hg : Gl X "zip") (hm : X.mg "zip" = none) (ha : PA X [e, e2] ta)
    (hs : starEach [e, e2] X.env = (false, eval e X.env) :: starEach [e2] X.env := by rfl) (hpl : (backTo pos (starEach [e2] X.env)).any (·.1) = false := by rfl) :
    PI X (.Tuple elts kk tpos) (.Call (.Name "zip" p) [e, e2] [] pos) (iZp K k m ta) := by
  subst hK
  refine ⟨fun pins s σ H R I h => Call_ (ld_blt I hg hm PyProof.Rows.boot_zip (PyProof.Rows.callWith_type1 (thn (ha.run pos pins s σ H _ I h) fun us s1 ⟨vs, H1, I1, r1, q1⟩ => ?_) hs hpl))⟩
  obtain ⟨a, b, xs, ys, rfl, hqx, hqy, q⟩ := q1
  obtain ⟨u, v, rfl, ru, rv⟩ := vals2 r1
  cases ru
  cases rv
  obtain ⟨its, _, his⟩ := Sk.read I1 hqx
  obtain ⟨jts, _, hjs⟩ := Sk.read I1 hqy
  refine zip_begins2 (k.begins a its.toArray) (m.begins b jts.toArray) his hjs fun g hz h1 h2 h3 h4 hsz hk => wpAny_pyIter_zip hz ?_
  have I2 : Inv X pins σ H1 { s1 with heap := g } := I1.kept (t' := s1.toks) hk
  refine ⟨s1.heap.objs.size + 4, [s1.heap.objs.size + 4, s1.heap.objs.size + 2, s1.heap.objs.size + 3, s1.heap.objs.size, s1.heap.objs.size + 1], _, _, H1, rfl, I2, zp_turn k m (PySem.W.ktu_apart s1.heap.objs.size a b (Sk.is_lt his) (Sk.is_lt hjs)), ⟨hz, h1, ⟨_, _, h2⟩, Sk.it_new h3, Sk.it_new h4⟩, fun c hc => ?_, q⟩
  have le : s1.heap.objs.size ≤ c := by rcases five_mem hc with e | e | e | e | e <;> (rw [e]; first | exact Nat.le_refl _ | exact Nat.le_add_right _ _)
  exact I1.fpOk le (I1.hok.fresh le)
/-! ### their walks -/
theorem walk_en {K : PySem.W.Frag} {k : Sk} {a : Addr} {xs : List V} : Walk (EnI K k a) xs.length (fun H => k.S K H a xs) (YPair (fun i => some (.int (i : Nat))) (fun i => xs[i]?)) where
  goes := fun i H hi q => ⟨xs, xs[i], q, List.getElem?_eq_getElem hi⟩
  stops := fun H q => ⟨xs, q, rfl⟩
  yields := fun i H v H' hi q ⟨T, x, h1, h2, h3, h4⟩ => ⟨T, .int (i : Nat), x, h1, h2, h3, rfl, h4 xs q⟩
theorem walk_zp {K : PySem.W.Frag} {k m : Sk} {a b : Addr} {xs ys : List V} {n : Nat} (hn : n = min xs.length ys.length) : Walk (ZpI K k m a b) n (fun H => k.S K H a xs ∧ m.S K H b ys) (YPair (fun i => xs[i]?) (fun i => ys[i]?)) where
  goes := fun i H hi q => ⟨xs, ys, xs[i]'(by omega), ys[i]'(by omega), q.1, q.2, List.getElem?_eq_getElem (by omega), List.getElem?_eq_getElem (by omega)⟩
  stops := fun H q => ⟨xs, ys, q.1, q.2, by omega, by omega, by omega⟩
  yields := fun i H v H' hi q ⟨T, x, y, h1, h2, h3, h4, h5⟩ => ⟨T, x, y, h1, h2, h3, h4 xs q.1, h5 ys q.2⟩
/-! ### comprehensions over walks -/
section
variable {J J1 : L2.It} {n n1 : Nat} {G G1 : Hp → Prop} {Y Y1 : Nat → Hp → V → Hp → Prop} {g g1 : TG} {te : TE} {vs vs1 : List Nat} {σ σ2 : L2.St} {H1 H4 : Hp} {D : Addr} {Qd Nx : Hp → Prop} {wi1 : L2.TI}
theorem lc_itY (w : Walk J n G Y) (Pv : Nat → Hp → Prop) (h0 : Pv 0 (upd H1 D (.lst []))) (hG : ∀ i H, i ≤ n → Pv i H → G H)
    (hs : ∀ i x H H', i < n → Pv i H → Y i H x H' → g x (wipe σ vs) H' fun σ2 H2 => wipe σ2 vs = wipe σ vs ∧ te σ2 H2 fun y H4 => ∃ acc, H4 D = some (.lst acc) ∧ acc.length < sizeLine ∧ Pv (i + 1) (upd H4 D (.lst (acc ++ [y])))) (hd : ∀ H, Pv n H → Qd H) :
    ∃ W : Nat → Nat → Hp → Prop, (∃ m, W 0 m (upd H1 D (.lst []))) ∧ ∀ i m H, W i m H →
      (J.stop i H ∧ Qd H) ∨ (J.go i H ∧ ∃ Nx : Hp → Prop, (∀ H', Nx H' → ∃ m', m' < m ∧ W (i + 1) m' H') ∧ ∀ x H', J.yld i H x H' → g x (wipe σ vs) H' fun σ2 H2 => wipe σ2 vs = wipe σ vs ∧ tYes σ2 H2 fun b H3 =>
        if b = true then te σ2 H3 fun y H4 => ∃ acc, H4 D = some (.lst acc) ∧ acc.length < sizeLine ∧ Nx (upd H4 D (.lst (acc ++ [y]))) else Nx H3) := lc_it (tt := tYes) w Pv h0 hG hs hd
/-- the inner of two -/
def Lc2In (g1 : TG) (te : TE) (vs1 : List Nat) (σ2 : L2.St) (D : Addr) (Nx : Hp → Prop) (J1 : L2.It) (H4 : Hp) : Prop := ∃ W1 : Nat → Nat → Hp → Prop, (∃ m, W1 0 m H4) ∧ ∀ j k H, W1 j k H →
  (J1.stop j H ∧ Nx H) ∨ (J1.go j H ∧ ∃ Nx1 : Hp → Prop, (∀ H', Nx1 H' → ∃ k', k' < k ∧ W1 (j + 1) k' H') ∧ ∀ x H', J1.yld j H x H' → g1 x (wipe σ2 vs1) H' fun σ3 H5 => wipe σ3 vs1 = wipe σ2 vs1 ∧ tYes σ3 H5 fun b H6 =>
    if b = true then te σ3 H6 fun y H7 => ∃ acc, H7 D = some (.lst acc) ∧ acc.length < sizeLine ∧ Nx1 (upd H7 D (.lst (acc ++ [y]))) else Nx1 H6)
theorem lc2_in (w : Walk J1 n1 G1 Y1) (Pv : Nat → Hp → Prop) (h0 : Pv 0 H4) (hG : ∀ i H, i ≤ n1 → Pv i H → G1 H)
    (hs : ∀ i x H H', i < n1 → Pv i H → Y1 i H x H' → g1 x (wipe σ2 vs1) H' fun σ3 H5 => wipe σ3 vs1 = wipe σ2 vs1 ∧ te σ3 H5 fun y H7 => ∃ acc, H7 D = some (.lst acc) ∧ acc.length < sizeLine ∧ Pv (i + 1) (upd H7 D (.lst (acc ++ [y])))) (hd : ∀ H, Pv n1 H → Nx H) : Lc2In g1 te vs1 σ2 D Nx J1 H4 := by
  refine ⟨fun i m H => m = n1 - i ∧ i ≤ n1 ∧ Pv i H, ⟨n1, rfl, Nat.zero_le _, h0⟩, ?_⟩
  rintro i m H ⟨rfl, hi, p⟩
  by_cases lt : i < n1
  · exact .inr ⟨w.goes i H lt (hG i H hi p), Pv (i + 1), fun H' p' => ⟨n1 - (i + 1), by omega, rfl, lt, p'⟩, fun x H' y => hs i x H H' lt p (w.yields i H x H' lt (hG i H hi p) y)⟩
  · obtain rfl : i = n1 := by omega
    exact .inl ⟨w.stops H (hG _ H hi p), hd H p⟩
theorem lc2_out (w : Walk J n G Y) (Pv : Nat → Hp → Prop) (h0 : Pv 0 (upd H1 D (.lst []))) (hG : ∀ i H, i ≤ n → Pv i H → G H)
    (hs : ∀ i x H H', i < n → Pv i H → Y i H x H' → g x (wipe σ vs) H' fun σ2 H2 => wipe σ2 vs = wipe σ vs ∧ wi1 σ2 H2 fun J1 H4 => Lc2In g1 te vs1 σ2 D (Pv (i + 1)) J1 H4) (hd : ∀ H, Pv n H → Qd H) :
    ∃ W : Nat → Nat → Hp → Prop, (∃ m, W 0 m (upd H1 D (.lst []))) ∧ ∀ i m H, W i m H →
      (J.stop i H ∧ Qd H) ∨ (J.go i H ∧ ∃ Nx : Hp → Prop, (∀ H', Nx H' → ∃ m', m' < m ∧ W (i + 1) m' H') ∧ ∀ x H', J.yld i H x H' → g x (wipe σ vs) H' fun σ2 H2 => wipe σ2 vs = wipe σ vs ∧ tYes σ2 H2 fun b H3 =>
        if b = true then wi1 σ2 H3 fun J1 H4 => ∃ W1 : Nat → Nat → Hp → Prop, (∃ m, W1 0 m H4) ∧ ∀ j k H, W1 j k H →
          (J1.stop j H ∧ Nx H) ∨ (J1.go j H ∧ ∃ Nx1 : Hp → Prop, (∀ H', Nx1 H' → ∃ k', k' < k ∧ W1 (j + 1) k' H') ∧ ∀ x H', J1.yld j H x H' → g1 x (wipe σ2 vs1) H' fun σ3 H5 => wipe σ3 vs1 = wipe σ2 vs1 ∧ tYes σ3 H5 fun b H6 =>
            if b = true then te σ3 H6 fun y H7 => ∃ acc, H7 D = some (.lst acc) ∧ acc.length < sizeLine ∧ Nx1 (upd H7 D (.lst (acc ++ [y]))) else Nx1 H6)
        else Nx H3) := by
  refine ⟨fun i m H => m = n - i ∧ i ≤ n ∧ Pv i H, ⟨n, rfl, Nat.zero_le _, h0⟩, ?_⟩
  rintro i m H ⟨rfl, hi, p⟩
  by_cases lt : i < n
  · exact .inr ⟨w.goes i H lt (hG i H hi p), Pv (i + 1), fun H' p' => ⟨n - (i + 1), by omega, rfl, lt, p'⟩, fun x H' y => hs i x H H' lt p (w.yields i H x H' lt (hG i H hi p) y)⟩
  · obtain rfl : i = n := by omega
    exact .inl ⟨w.stops H (hG _ H hi p), hd H p⟩
end
end Ov
/-! ### the program's promises -/
namespace Ov
open PySem PySem.Spec PyProof.Rows L2
def spBetween : Sp := fun vs H Q _ => ∃ v lo hi : Int, vs = [.int v, .int lo, .int hi] ∧ Q (.bl (decide (lo ≤ v ∧ v ≤ hi))) H
/-- the word at a: its name, what is given, the arms -/
def WordAt (H : Hp) (a : Addr) (o : Op) (g : Int) (us : List V) : Prop := H a = some (.tup (.str o.name :: (o.pre g ++ us))) ∧ us.length = o.arity
def Op.gV (o : Op) (g : Int) : V := if o.gives then .int g else .non
def spGivenOf : Sp := fun vs H Q _ => ∃ a o g us, vs = [.ref a] ∧ WordAt H a o g us ∧ Q (o.gV g) H
def spArmsOf : Sp := fun vs H Q _ => ∃ a o g us, vs = [.ref a] ∧ WordAt H a o g us ∧ ∀ p, H p = none → Q (.ref p) (upd H p (.tup us))
def spGivenFits : Sp := fun vs H Q _ => ∃ (o : Op) (g : Int) (n : Nat), vs = [.str (if o = .num then "number" else "function"), .int g, .int (n : Int)] ∧ o.gives = true ∧ o.fits n g ∧ Q (.bl true) H
/-- the numbers of a word's arms, of which the first is b -/
def starts : Nat → List W → List Nat
  | _, [] => []
  | b, a :: r => b :: starts (b + a.size) r
mutual
/-- the rows of a word that is the b-th -/
def W.rows : Nat → W → List (Op × Int × List Nat)
  | b, .mk o g as => (o, g, starts (b + 1) as) :: W.rowss (b + 1) as
def W.rowss : Nat → List W → List (Op × Int × List Nat)
  | _, [] => []
  | b, a :: r => a.rows b ++ W.rowss (b + a.size) r
end
theorem W.rows_mk (b : Nat) (o : Op) (g : Int) (as : List W) : (W.mk o g as).rows b = (o, g, starts (b + 1) as) :: W.rowss (b + 1) as := by rw [W.rows]
mutual
theorem W.rows_len : ∀ (b : Nat) (w : W), (w.rows b).length = w.size
  | b, .mk o g as => by
    rw [W.rows_mk, W.size_mk, List.length_cons, W.rowss_len (b + 1) as]
    omega
theorem W.rowss_len : ∀ (b : Nat) (ws : List W), (W.rowss b ws).length = W.sizes ws
  | b, [] => by rw [W.rowss, W.sizes]; rfl
  | b, a :: r => by rw [W.rowss, W.sizes, List.length_append, W.rows_len b a, W.rowss_len _ r]
end
def RowAt (H : Hp) (v : V) (r : Op × Int × List Nat) : Prop := ∃ t a, v = .ref t ∧ H t = some (.tup [.str r.1.name, r.1.gV r.2.1, .ref a]) ∧ H a = some (.tup (nV r.2.2))
theorem RowAt.keep {H H' : Hp} {v : V} {r : Op × Int × List Nat} (k : Keep H H') (h : RowAt H v r) : RowAt H' v r := by
  obtain ⟨t, a, e, h1, h2⟩ := h
  exact ⟨t, a, e, k _ _ h1, k _ _ h2⟩
/-- all but the list at l stays -/
def ButL (l : Addr) (H H' : Hp) : Prop := ∀ a o, a ≠ l → H a = some o → H' a = some o
def spAddWord (d : Nat) : Sp := fun vs H Q _ => ∃ l v n u xs, vs = [.ref l, v] ∧ H l = some (.lst xs) ∧ WAt H v u ∧ WOk n d u ∧ xs.length + u.size ≤ 1000 ∧
  ∀ H' ys, ButL l H H' → H' l = some (.lst (xs ++ ys)) → Paired (RowAt H') ys (u.rows xs.length) → Q (.int (xs.length : Int)) H'
def spWordsOf : Sp := fun vs H Q _ => ∃ v n u, vs = [v] ∧ WAt H v u ∧ WOk n 7 u ∧ u.size ≤ 900 ∧ ∀ H' p ys, Same H H' → H p = none → H' p = some (.lst ys) → Paired (RowAt H') ys (u.rows 0) → Q (.ref p) H'
def spWordFits (d : Nat) : Sp := fun vs H Q _ => ∃ (v : V) (n : Nat) (u : W) (r : Int), vs = [v, .int (n : Int), .int r] ∧ WAt H v u ∧ WOk n d u ∧ 0 ≤ r ∧ r + (d : Int) ≤ 7 ∧ ∀ H', Same H H' → Q (.bl true) H'
def spFunctionFits : Sp := fun vs H Q _ => ∃ (v : V) (n : Nat) (f : Int × W), vs = [v, .int (n : Int)] ∧ FAt H v f ∧ FOk n f ∧ ∀ H', Same H H' → Q (.bl true) H'
def spCheckProgram : Sp := fun vs H Q _ => ∃ v p, vs = [v] ∧ PrAt H v p ∧ PrOk p ∧ ∀ H', Same H H' → Q .non H'
def spCheckFunction : Sp := fun vs H Q _ => ∃ (f n : Nat), vs = [.int (f : Int), .int (n : Int)] ∧ f < n ∧ Q .non H
theorem W.sizes_snoc : ∀ (ws : List W) (w : W), W.sizes (ws ++ [w]) = W.sizes ws + w.size
  | [], w => by simp [W.sizes]
  | a :: r, w => by rw [List.cons_append, W.sizes, W.sizes, W.sizes_snoc r w]; omega
theorem starts_snoc : ∀ (b : Nat) (ws : List W) (w : W), starts b (ws ++ [w]) = starts b ws ++ [b + W.sizes ws]
  | b, [], w => by rw [W.sizes]; rfl
  | b, a :: r, w => by
    show b :: starts (b + a.size) (r ++ [w]) = b :: (starts (b + a.size) r ++ [_])
    rw [starts_snoc (b + a.size) r w, W.sizes, Nat.add_assoc]
theorem rowss_snoc : ∀ (b : Nat) (ws : List W) (w : W), W.rowss b (ws ++ [w]) = W.rowss b ws ++ w.rows (b + W.sizes ws)
  | b, [], w => by rw [List.nil_append, W.rowss, W.rowss, W.rowss, W.sizes]; simp
  | b, a :: r, w => by rw [List.cons_append, W.rowss, W.rowss, rowss_snoc _ r w, W.sizes, List.append_assoc, Nat.add_assoc]
theorem starts_len : ∀ (b : Nat) (ws : List W), (starts b ws).length = ws.length
  | _, [] => rfl
  | b, a :: r => congrArg Nat.succ (starts_len (b + a.size) r)
theorem sizes_take_le : ∀ (ws : List W) (i : Nat), W.sizes (ws.take i) ≤ W.sizes ws
  | [], i => by rw [List.take_nil]; exact Nat.le_refl _
  | a :: r, 0 => by rw [List.take_zero, W.sizes]; exact Nat.zero_le _
  | a :: r, i + 1 => by rw [List.take_succ_cons, W.sizes, W.sizes]; exact Nat.add_le_add_left (sizes_take_le r i) _
theorem size_get : ∀ (ws : List W) (i : Nat) (w : W), ws[i]? = some w → W.sizes (ws.take i) + w.size ≤ W.sizes ws
  | [], i, w, h => by simp at h
  | a :: r, 0, w, h => by
    have e : a = w := Option.some.inj h
    rw [e, List.take_zero, W.sizes, W.sizes]
    omega
  | a :: r, i + 1, w, h => by
    have ih := size_get r i w h
    rw [List.take_succ_cons, W.sizes, W.sizes]
    omega
theorem ButL.trans {l : Addr} {H H1 H2 : Hp} (a : ButL l H H1) (b : ButL l H1 H2) : ButL l H H2 := fun x o n e => b x o n (a x o n e)
theorem ButL.same {l : Addr} {H H' : Hp} (a : Same H H') : ButL l H H' := fun x o _ e => a x o e
theorem ButL.upd {l : Addr} {H : Hp} {o : HO} : ButL l H (upd H l o) := fun x u n e => by rw [upd_ne n]; exact e
theorem ButL.keep {l : Addr} {xs : List V} {H H' : Hp} (b : ButL l H H') (e : H l = some (.lst xs)) : Keep H H' := fun a ys h => b a _ (ne_of h e (by intro z; cases z)) h
theorem paired_app {α β : Type} {R : α → β → Prop} : ∀ {a c : List α} {b d : List β}, Paired R a b → Paired R c d → Paired R (a ++ c) (b ++ d)
  | _, _, _, _, .nil, h => h
  | _, _, _, _, .cons h r, h' => .cons h (paired_app r h')
theorem Paired.get2 {α β : Type} {R : α → β → Prop} : ∀ {a : List α} {b : List β} {i : Nat} {x : α}, Paired R a b → a[i]? = some x → ∃ y, b[i]? = some y ∧ R x y
  | _, _, _, _, .nil, e => by simp at e
  | _, _, 0, _, .cons h r, e => by
    have e2 := Option.some.inj e
    subst e2
    exact ⟨_, rfl, h⟩
  | _, _, i + 1, x, .cons _ r, e => Paired.get2 (i := i) (x := x) r e
theorem set_mid (xs ys : List V) (x y : V) : (xs ++ [x] ++ ys).set xs.length y = xs ++ y :: ys := by
  rw [List.append_assoc, List.set_append_right (h := Nat.le_refl _), Nat.sub_self]
  rfl
end Ov
/-! ### ways down -/
namespace Ov
open PySem PySem.Spec PyProof.Rows L2
/-- under x lie l, from the undermost on -/
inductive Down (st : List Int) : Nat → List Nat → Prop
  | base {x : Nat} : st[x]? = some (-1) → Down st x []
  | step {x y : Nat} {l : List Nat} : st[x]? = some ((y : Nat) : Int) → Down st y l → Down st x (l ++ [y])
theorem Down.uniq {st : List Int} {x : Nat} {l m : List Nat} (h : Down st x l) (h' : Down st x m) : l = m := by
  induction h generalizing m with
  | base e =>
    cases h' with
    | base _ => rfl
    | @step _ y l e' _ =>
      have z := Option.some.inj (e.symm.trans e')
      omega
  | @step x y l e _ ih =>
    cases h' with
    | base e' =>
      have z := Option.some.inj (e'.symm.trans e)
      omega
    | @step _ y' l' e' h2 =>
      have z := Option.some.inj (e.symm.trans e')
      obtain rfl : y = y' := by omega
      rw [ih h2]
theorem SInv.down {od : List Nat} {st : List Int} (h : SInv od st) : ∀ (t x : Nat), od[t]? = some x → ∃ l, Down st x l ∧ l.length ≤ t ∧ ∀ y ∈ l, y ∈ od := by
  intro t
  induction t using Nat.strongRecOn with
  | ind t ih =>
    intro x hx
    rcases h t x hx with e | ⟨j, y, hj, hy, e⟩
    · exact ⟨[], .base e, Nat.zero_le _, (fun _ z => nomatch z)⟩
    · obtain ⟨l, h1, h2, h3⟩ := ih j hj y hy
      refine ⟨l ++ [y], .step e h1, by rw [List.length_append, List.length_singleton]; omega, fun z hz => ?_⟩
      rcases List.mem_append.mp hz with q | q
      · exact h3 z q
      · rw [List.mem_singleton.mp q]
        exact List.mem_of_getElem? hy
/-- the ways down of a tree's parts -/
structure Dn (n : Nat) (ps : List (List Nat)) (st : List Int) (dn : Nat → List Nat) : Prop where
  down : ∀ x, x < ps.length → Down st x (dn x)
  len : ∀ x, x < ps.length → (dn x).length < ps.length
  lt : ∀ x, x < ps.length → ∀ y ∈ dn x, y < ps.length
theorem TrOk.dn {n : Nat} {ps : List (List Nat)} {st : List Int} (h : TrOk n ps st) : ∃ dn, Dn n ps st dn := by
  obtain ⟨od, hp, hs⟩ := h.ord
  have key : ∀ x, ∃ l, x < ps.length → Down st x l ∧ l.length < ps.length ∧ ∀ y ∈ l, y < ps.length := fun x => by
    by_cases hx : x < ps.length
    · have mem : x ∈ od := hp.mem_iff.mpr (List.mem_range.mpr hx)
      obtain ⟨t, ht⟩ := List.mem_iff_getElem?.mp mem
      obtain ⟨l, h1, h2, h3⟩ := hs.down t x ht
      have htl : t < od.length := (List.getElem?_eq_some_iff.mp ht).1
      have hol : od.length = ps.length := by rw [hp.length_eq, List.length_range]
      exact ⟨l, fun _ => ⟨h1, by omega, fun y hy => List.mem_range.mp (hp.mem_iff.mp (h3 y hy))⟩⟩
    · exact ⟨[], fun z => absurd z hx⟩
  exact ⟨fun x => (key x).choose, ⟨fun x hx => ((key x).choose_spec hx).1, fun x hx => ((key x).choose_spec hx).2.1, fun x hx => ((key x).choose_spec hx).2.2⟩⟩
/-- the size of a function, of a part -/
def fsz (pr : List (Int × W)) (f : Nat) : Int := (pr[f]?.map (·.1)).getD 0
def psz (pr : List (Int × W)) (p : List Nat) : Int := (p.map (fsz pr)).sum
/-- where the i-th part begins -/
def bgn (pr : List (Int × W)) (ps : List (List Nat)) (dn : Nat → List Nat) (i : Nat) : Int := ((dn i).map fun y => psz pr (ps[y]?.getD [])).sum
theorem psz_snoc (pr : List (Int × W)) (p : List Nat) (f : Nat) : psz pr (p ++ [f]) = psz pr p + fsz pr f := by
  unfold psz
  rw [List.map_append, List.sum_append]
  simp
theorem cut_from (xs : List V) (k : Nat) (h : k ≤ xs.length) : cutV xs (some (k : Int)) none = xs.drop k := by
  unfold cutV
  rw [HT.sIx_none, HT.sIx_nat, Nat.min_eq_left h]
  exact List.take_of_length_le (by rw [List.length_drop]; exact Nat.le_refl _)
theorem nV_int {ns : List Nat} {i : Nat} {x : V} (h : (nV ns)[i]? = some x) : ∃ y, ns[i]? = some y ∧ x = V.int ((y : Nat) : Int) := by
  unfold nV at h
  rw [List.getElem?_map] at h
  cases e : ns[i]? with
  | none => rw [e] at h; cases h
  | some y => rw [e] at h; exact ⟨y, rfl, (Option.some.inj h).symm⟩
theorem ints_int {ns : List Int} {i : Nat} {x : V} (h : (ns.map V.int)[i]? = some x) : ∃ y, ns[i]? = some y ∧ x = V.int y := by
  rw [List.getElem?_map] at h
  cases e : ns[i]? with
  | none => rw [e] at h; cases h
  | some y => rw [e] at h; exact ⟨y, rfl, (Option.some.inj h).symm⟩
theorem nV_ints (ns : List Nat) : nV ns = (ns.map fun (x : Nat) => (x : Int)).map V.int := by
  unfold nV
  rw [List.map_map]
  rfl
theorem rep_all (n : Nat) : (List.replicate n true).all id = true := by simp
theorem rep_snoc (n : Nat) : (List.replicate n true).map V.bl ++ [V.bl true] = (List.replicate (n + 1) true).map V.bl := by
  rw [List.replicate_succ', List.map_append]
  rfl
theorem eqvIntsAll : ∀ ns : List Int, PyData.eqvAll (ns.map PyData.int) (ns.map PyData.int) = true
  | [] => by simp [PyData.eqvAll]
  | n :: ns => by
    have h := eqvIntsAll ns
    simp [PyData.eqvAll, PyData.eqv, h]
theorem eqvInts (ns : List Int) : PyData.eqv (.list (ns.map PyData.int)) (.list (ns.map PyData.int)) = true := by
  have h := eqvIntsAll ns
  simp [PyData.eqv, h]
theorem PInv.sorted {n : Nat} {ps : List (List Nat)} (h : PInv n ps) {ns : List Int} (hp : ns.Perm (ps.flatten.map fun (x : Nat) => (x : Int))) (hs : ns.Pairwise (· ≤ ·)) : ns = (List.range n).map fun (x : Nat) => (x : Int) := by
  refine PySem.W.ksm_same (hp.trans (h.perm.map _)) hs ?_
  rw [List.pairwise_map]
  exact List.Pairwise.imp (fun z => by omega) List.pairwise_lt_range
/-! ### the promises -/
def spRises : Sp := fun vs H Q _ => ∃ (a : Addr) (ns : List Nat), vs = [.ref a] ∧ (H a = some (.lst (nV ns)) ∨ (H a = some (.tup (nV ns)) ∧ ns ≠ [])) ∧ ns.Pairwise (· < ·) ∧ ns.length ≤ 1000 ∧ ∀ H', Same H H' → Q (.bl true) H'
def spPartFits : Sp := fun vs H Q _ => ∃ (v : V) (n : Nat) (p : List Nat), vs = [v, .int (n : Int)] ∧ PartAt H v p ∧ p ≠ [] ∧ p.Pairwise (· < ·) ∧ (∀ x ∈ p, x < n) ∧ p.length ≤ 8 ∧ ∀ H', Same H H' → Q (.bl true) H'
def spPartsFit : Sp := fun vs H Q _ => ∃ (a : Addr) (n : Nat) (us : List V) (ps : List (List Nat)), vs = [.ref a, .int (n : Int)] ∧ H a = some (.tup us) ∧ Paired (PartAt H) us ps ∧ PInv n ps ∧ n ≤ 8 ∧ ∀ H', Same H H' → Q (.bl true) H'
def spHasEnd : Sp := fun vs H Q _ => ∃ (a : Addr) (st : List Int) (x : Nat) (od : List Nat), vs = [.ref a, .int (x : Int)] ∧ H a = some (.tup (st.map V.int)) ∧ od.Perm (List.range st.length) ∧ SInv od st ∧ x < st.length ∧ st.length ≤ 1000 ∧ Q (.bl true) H
def spStandsFit : Sp := fun vs H Q _ => ∃ (a : Addr) (st : List Int) (m : Nat) (od : List Nat), vs = [.ref a, .int (m : Int)] ∧ H a = some (.tup (st.map V.int)) ∧ st.length = m ∧ od.Perm (List.range m) ∧ SInv od st ∧ m ≤ 1000 ∧ ∀ H', Same H H' → Q (.bl true) H'
/-- a program and a tree of it -/
def preT (H : Hp) (v t : V) (pr : List (Int × W)) (ps : List (List Nat)) (st : List Int) : Prop := PrAt H v pr ∧ PrOk pr ∧ TrAt H t ps st ∧ TrOk pr.length ps st
theorem preT.keep {H H' : Hp} {v t : V} {pr : List (Int × W)} {ps : List (List Nat)} {st : List Int} (k : Keep H H') (h : preT H v t pr ps st) : preT H' v t pr ps st := ⟨h.1.keep k, h.2.1, h.2.2.1.keep k, h.2.2.2⟩
def spCheckTree : Sp := fun vs H Q _ => ∃ v t pr ps st, vs = [v, t] ∧ preT H v t pr ps st ∧ ∀ H', Same H H' → Q .non H'
def spPartsBelow : Sp := fun vs H Q _ => ∃ (a : Addr) (st : List Int) (x : Nat) (l : List Nat), vs = [.ref a, .int (x : Int)] ∧ H a = some (.tup (st.map V.int)) ∧ Down st x l ∧ l.length ≤ 900 ∧ ∀ H' p, Same H H' → H p = none → H' p = some (.lst (nV l)) → Q (.ref p) H'
def spSizeOf : Sp := fun vs H Q _ => ∃ v u pr p, vs = [v, u] ∧ PrAt H v pr ∧ PartAt H u p ∧ (∀ x ∈ p, x < pr.length) ∧ p.length ≤ 900 ∧ ∀ H', Same H H' → Q (.int (psz pr p)) H'
def spBegins : Sp := fun vs H Q _ => ∃ v t pr ps st dn, vs = [v, t] ∧ preT H v t pr ps st ∧ Dn pr.length ps st dn ∧ ∀ H' p, Same H H' → H p = none → H' p = some (.lst (((List.range ps.length).map (bgn pr ps dn)).map V.int)) → Q (.ref p) H'
/-- the cells of all functions -/
def Cells (pr : List (Int × W)) (ps : List (List Nat)) (dn : Nat → List Nat) (cs : List Int) : Prop := cs.length = pr.length ∧ ∀ i p j f, ps[i]? = some p → p[j]? = some f → cs[f]? = some (bgn pr ps dn i + psz pr (p.take j))
def spPlaces : Sp := fun vs H Q _ => ∃ v t pr ps st dn, vs = [v, t] ∧ preT H v t pr ps st ∧ Dn pr.length ps st dn ∧ ∀ H' p cs, Same H H' → H p = none → H' p = some (.lst (cs.map V.int)) → Cells pr ps dn cs → Q (.ref p) H'
/-- the farthest end -/
def Far (pr : List (Int × W)) (ps : List (List Nat)) (dn : Nat → List Nat) (m : Int) : Prop := (∃ i p, ps[i]? = some p ∧ m = bgn pr ps dn i + psz pr p) ∧ ∀ i p, ps[i]? = some p → bgn pr ps dn i + psz pr p ≤ m
theorem Far.uniq {pr : List (Int × W)} {ps : List (List Nat)} {dn : Nat → List Nat} {m k : Int} (h : Far pr ps dn m) (h' : Far pr ps dn k) : m = k := by
  obtain ⟨⟨i, p, h1, h2⟩, h3⟩ := h
  obtain ⟨⟨j, q, h4, h5⟩, h6⟩ := h'
  have a := h3 j q h4
  have b := h6 i p h1
  omega
def spWanted : Sp := fun vs H Q _ => ∃ v t pr ps st dn, vs = [v, t] ∧ preT H v t pr ps st ∧ Dn pr.length ps st dn ∧ ∀ H' m, Same H H' → Far pr ps dn m → Q (.int m) H'
def spWayDown : Sp := fun vs H Q _ => ∃ (v t : V) (pr : List (Int × W)) (ps : List (List Nat)) (st : List Int) (dn : Nat → List Nat) (f i : Nat) (pt : List Nat), vs = [v, t, .int (f : Int)] ∧ preT H v t pr ps st ∧ Dn pr.length ps st dn ∧ ps[i]? = some pt ∧ f ∈ pt ∧
  ∀ H' p, Same H H' → H p = none → H' p = some (.lst (nV (dn i ++ [i]))) → Q (.ref p) H'
def spWayOf : Sp := fun vs H Q _ => ∃ (t : V) (n : Nat) (ps : List (List Nat)) (st : List Int) (dn : Nat → List Nat) (f i : Nat) (pt : List Nat), vs = [t, .int (f : Int)] ∧ TrAt H t ps st ∧ TrOk n ps st ∧ n ≤ 8 ∧ Dn n ps st dn ∧ ps[i]? = some pt ∧ f ∈ pt ∧
  ∀ H' p, Same H H' → H p = none → H' p = some (.lst (nV (dn i ++ [i]))) → Q (.ref p) H'
end Ov
/-! ### more on ways down -/
namespace Ov
open PySem PySem.Spec PyProof.Rows L2
theorem Down.get {st : List Int} {x : Nat} {l : List Nat} (h : Down st x l) : ∃ z, st[x]? = some z := by
  cases h with
  | base e => exact ⟨_, e⟩
  | step e _ => exact ⟨_, e⟩
theorem Paired.got {α β : Type} {R : α → β → Prop} : ∀ {a : List α} {b : List β} {i : Nat} {y : β}, Paired R a b → b[i]? = some y → ∃ x, a[i]? = some x ∧ R x y
  | _, _, 0, y, .cons h _, e => by
    obtain rfl := Option.some.inj e
    exact ⟨_, rfl, h⟩
  | _, _, i + 1, y, .cons _ r, e => Paired.got (i := i) (y := y) r e
theorem rep_v (x : V) (m : Nat) : (List.replicate ((m : Nat) : Int).toNat [x]).flatten = List.replicate m x := by
  rw [Int.toNat_natCast]
  induction m with
  | zero => rfl
  | succ m ih =>
    show [x] ++ (List.replicate m [x]).flatten = _
    rw [ih]
    rfl
/-- each function stands at one place of one part -/
theorem PInv.uniq {n : Nat} {ps : List (List Nat)} (h : PInv n ps) {i i' j j' f : Nat} {p p' : List Nat} (e1 : ps[i]? = some p) (e2 : p[j]? = some f) (e3 : ps[i']? = some p') (e4 : p'[j']? = some f) : i = i' ∧ j = j' := by
  have nd : ps.flatten.Nodup := h.perm.nodup_iff.mpr List.nodup_range
  unfold List.Nodup at nd
  rw [List.pairwise_flatten] at nd
  obtain ⟨hi, d1⟩ := List.getElem?_eq_some_iff.mp e1
  obtain ⟨hi', d3⟩ := List.getElem?_eq_some_iff.mp e3
  have m1 := List.mem_of_getElem? e2
  have m2 := List.mem_of_getElem? e4
  have ii : i = i' := by
    rcases Nat.lt_trichotomy i i' with lt | eq | gt
    · have z := List.pairwise_iff_getElem.mp nd.2 i i' hi hi' lt
      rw [d1, d3] at z
      exact absurd rfl (z f m1 f m2)
    · exact eq
    · have z := List.pairwise_iff_getElem.mp nd.2 i' i hi' hi gt
      rw [d1, d3] at z
      exact absurd rfl (z f m2 f m1)
  subst ii
  obtain rfl : p = p' := Option.some.inj (e1.symm.trans e3)
  obtain ⟨hj, d2⟩ := List.getElem?_eq_some_iff.mp e2
  obtain ⟨hj', d4⟩ := List.getElem?_eq_some_iff.mp e4
  have r := h.rise p (List.mem_of_getElem? e1)
  refine ⟨rfl, ?_⟩
  rcases Nat.lt_trichotomy j j' with lt | eq | gt
  · have z := List.pairwise_iff_getElem.mp r j j' hj hj' lt
    omega
  · exact eq
  · have z := List.pairwise_iff_getElem.mp r j' j hj' hj gt
    omega
theorem PInv.stands {n : Nat} {ps : List (List Nat)} (h : PInv n ps) {f : Nat} (hf : f < n) : ∃ (i : Nat) (p : List Nat) (j : Nat), ps[i]? = some p ∧ p[j]? = some f := by
  obtain ⟨p, hp, hm⟩ := List.mem_flatten.mp (h.perm.mem_iff.mpr (List.mem_range.mpr hf))
  obtain ⟨i, hi⟩ := List.mem_iff_getElem?.mp hp
  obtain ⟨j, hj⟩ := List.mem_iff_getElem?.mp hm
  exact ⟨i, p, j, hi, hj⟩
/-- a row that is filled part by part -/
def Fill {α : Type} (n : Nat) (ps : List (List Nat)) (R : Nat → Nat → α → Prop) (i j : Nat) (cs : List α) : Prop := cs.length = n ∧ ∀ i' p j' f, ps[i']? = some p → p[j']? = some f → (i' < i ∨ (i' = i ∧ j' < j)) → ∃ x, cs[f]? = some x ∧ R i' j' x
theorem Fill.start {α : Type} {n : Nat} {ps : List (List Nat)} {R : Nat → Nat → α → Prop} {cs : List α} (h : cs.length = n) : Fill n ps R 0 0 cs := ⟨h, fun _ _ _ _ _ _ z => by omega⟩
theorem Fill.mono {α : Type} {n : Nat} {ps : List (List Nat)} {R R' : Nat → Nat → α → Prop} {i j : Nat} {cs : List α} (h : Fill n ps R i j cs) (m : ∀ a b x, R a b x → R' a b x) : Fill n ps R' i j cs := ⟨h.1, fun i' p j' f e1 e2 z => by
  obtain ⟨x, h1, h2⟩ := h.2 i' p j' f e1 e2 z
  exact ⟨x, h1, m _ _ _ h2⟩⟩
theorem Fill.step {α : Type} {n : Nat} {ps : List (List Nat)} {R : Nat → Nat → α → Prop} {i j f : Nat} {p : List Nat} {cs : List α} {x : α} (h : Fill n ps R i j cs) (hp : PInv n ps) (e1 : ps[i]? = some p) (e2 : p[j]? = some f) (r : R i j x) : Fill n ps R i (j + 1) (cs.set f x) := by
  refine ⟨by rw [List.length_set]; exact h.1, fun i' p' j' f' d1 d2 z => ?_⟩
  by_cases e : f = f'
  · subst e
    obtain ⟨rfl, rfl⟩ := hp.uniq e1 e2 d1 d2
    have lf : f < cs.length := by rw [h.1]; exact hp.lt (List.mem_of_getElem? e1) (List.mem_of_getElem? e2)
    exact ⟨x, List.getElem?_set_self lf, r⟩
  · rw [List.getElem?_set_ne e]
    refine h.2 i' p' j' f' d1 d2 ?_
    rcases z with z | ⟨rfl, z⟩
    · exact .inl z
    · refine .inr ⟨rfl, ?_⟩
      by_cases ej : j' = j
      · subst ej
        obtain rfl : p = p' := Option.some.inj (e1.symm.trans d1)
        exact absurd (Option.some.inj (e2.symm.trans d2)) e
      · omega
theorem Fill.next {α : Type} {n : Nat} {ps : List (List Nat)} {R : Nat → Nat → α → Prop} {i : Nat} {p : List Nat} {cs : List α} (h : Fill n ps R i p.length cs) (e1 : ps[i]? = some p) : Fill n ps R (i + 1) 0 cs := ⟨h.1, fun i' p' j' f d1 d2 z => by
  refine h.2 i' p' j' f d1 d2 ?_
  by_cases e : i' = i
  · subst e
    obtain rfl : p = p' := Option.some.inj (e1.symm.trans d1)
    exact .inr ⟨rfl, (List.getElem?_eq_some_iff.mp d2).1⟩
  · omega⟩
theorem Fill.all {α : Type} {n : Nat} {ps : List (List Nat)} {R : Nat → Nat → α → Prop} {cs : List α} (h : Fill n ps R ps.length 0 cs) : cs.length = n ∧ ∀ i p j f, ps[i]? = some p → p[j]? = some f → ∃ x, cs[f]? = some x ∧ R i j x := ⟨h.1, fun i p j f d1 d2 => h.2 i p j f d1 d2 (.inl (List.getElem?_eq_some_iff.mp d1).1)⟩
/-- the cell of the j-th function of the i-th part -/
def IsCell (pr : List (Int × W)) (ps : List (List Nat)) (dn : Nat → List Nat) : Nat → Nat → Int → Prop := fun i j x => x = bgn pr ps dn i + psz pr ((ps[i]?.getD []).take j)
theorem Fill.cells {pr : List (Int × W)} {ps : List (List Nat)} {dn : Nat → List Nat} {cs : List Int} (h : Fill pr.length ps (IsCell pr ps dn) ps.length 0 cs) : Cells pr ps dn cs := by
  obtain ⟨h1, h2⟩ := h.all
  refine ⟨h1, fun i p j f d1 d2 => ?_⟩
  obtain ⟨x, e, r⟩ := h2 i p j f d1 d2
  rw [e, r, d1]
  rfl
theorem Cells.uniq {pr : List (Int × W)} {ps : List (List Nat)} {dn : Nat → List Nat} {cs cs' : List Int} (hp : PInv pr.length ps) (h : Cells pr ps dn cs) (h' : Cells pr ps dn cs') : cs = cs' := by
  refine List.ext_getElem? fun f => ?_
  by_cases hf : f < pr.length
  · obtain ⟨i, p, j, e1, e2⟩ := hp.stands hf
    rw [h.2 i p j f e1 e2, h'.2 i p j f e1 e2]
  · rw [List.getElem?_eq_none (by rw [h.1]; omega), List.getElem?_eq_none (by rw [h'.1]; omega)]
theorem ixN_nat {n k : Nat} (h : k < n) : ixN n (k : Int) = some k := by
  unfold ixN
  rw [if_pos (by omega), if_pos (by omega), Int.toNat_natCast]
theorem inVnat (f : Nat) (p : List Nat) : inV (.int (f : Int)) (nV p) = decide (f ∈ p) := by
  unfold inV nV
  rw [List.any_map, Bool.eq_iff_iff, List.any_eq_true, decide_eq_true_iff]
  constructor
  · rintro ⟨y, hy, e⟩
    have e' : ((y : Nat) : Int) = (f : Int) := by simpa [eqV] using e
    obtain rfl : y = f := by omega
    exact hy
  · intro h
    exact ⟨f, h, by simp [eqV]⟩
theorem nVflat (p : List Nat) : (nV p).all flatV = true := by
  unfold nV
  rw [List.all_map, List.all_eq_true]
  intro x _
  rfl
/-- two values that are the same: flat ones, lists and tuples of such -/
def Al (H : Hp) : Nat → V → V → Prop
  | 0, _, _ => False
  | d + 1, x, y => (x = y ∧ flatV x = true) ∨ (∃ a b xs ys, x = .ref a ∧ y = .ref b ∧ H a = some (.lst xs) ∧ H b = some (.lst ys) ∧ xs.length ≤ 9000 ∧ Paired (Al H d) xs ys) ∨
    ∃ a b xs ys, x = .ref a ∧ y = .ref b ∧ H a = some (.tup xs) ∧ H b = some (.tup ys) ∧ xs.length ≤ 9000 ∧ Paired (Al H d) xs ys
theorem Al.keep {H H' : Hp} (s : Same H H') : ∀ {d : Nat} {x y : V}, Al H d x y → Al H' d x y
  | 0, _, _, h => h.elim
  | d + 1, _, _, .inl h => .inl h
  | d + 1, _, _, .inr (.inl ⟨a, b, xs, ys, e1, e2, h1, h2, l, h3⟩) => .inr (.inl ⟨a, b, xs, ys, e1, e2, s _ _ h1, s _ _ h2, l, L2.Paired.mapP h3 fun _ _ z => Al.keep s z⟩)
  | d + 1, _, _, .inr (.inr ⟨a, b, xs, ys, e1, e2, h1, h2, l, h3⟩) => .inr (.inr ⟨a, b, xs, ys, e1, e2, s _ _ h1, s _ _ h2, l, L2.Paired.mapP h3 fun _ _ z => Al.keep s z⟩)
theorem Al.flat {H : Hp} {d : Nat} : ∀ xs : List V, xs.all flatV = true → Paired (Al H (d + 1)) xs xs
  | [], _ => .nil
  | x :: xs, h => by
    rw [List.all_cons, Bool.and_eq_true] at h
    exact .cons (.inl ⟨rfl, h.1⟩) (Al.flat xs h.2)
theorem Al.ints {H : Hp} {d : Nat} (ns : List Int) : Paired (Al H (d + 1)) (ns.map V.int) (ns.map V.int) := Al.flat _ (by
  rw [List.all_map, List.all_eq_true]
  intro x _
  rfl)
def spAlike (d : Nat) : Sp := fun vs H Q _ => ∃ x y, vs = [x, y] ∧ Al H d x y ∧ ∀ H', Same H H' → Q (.bl true) H'
theorem cut_last (l : List Nat) (x : Nat) : cutV (nV (l ++ [x])) none (some (-1)) = nV l := by
  have e : (nV (l ++ [x])).length = l.length + 1 := by rw [nV_len, List.length_append]; rfl
  have z : HT.sIx (l.length + 1) (l.length + 1) (some (-1)) = l.length := by
    unfold HT.sIx
    simp
    try omega
  unfold cutV
  rw [e, HT.sIx_none, z, Nat.sub_zero, List.drop_zero, nV_app]
  exact List.take_left' (nV_len l)
/-- what was laid: the functions' cells and ways down, the farthest end -/
def LaidAt (H : Hp) (pr : List (Int × W)) (ps : List (List Nat)) (dn : Nat → List Nat) (v : V) : Prop := ∃ r fl vs m, v = .ref r ∧ H r = some (.tup [.ref fl, .int m]) ∧ H fl = some (.lst vs) ∧
  Fill pr.length ps (fun i j x => ∃ t dl, x = .ref t ∧ H t = some (.tup [.int (bgn pr ps dn i + psz pr ((ps[i]?.getD []).take j)), .ref dl]) ∧ H dl = some (.lst (nV (dn i ++ [i])))) ps.length 0 vs ∧ Far pr ps dn m
def spLaid : Sp := fun vs H Q _ => ∃ v t pr ps st dn, vs = [v, t] ∧ preT H v t pr ps st ∧ Dn pr.length ps st dn ∧ ∀ H' x, Same H H' → LaidAt H' pr ps dn x → Q x H'
/-- the same, with where the new lists stand -/
def spLaidN : Sp := fun vs H Q _ => ∃ v t pr ps st dn, vs = [v, t] ∧ preT H v t pr ps st ∧ Dn pr.length ps st dn ∧ ∀ H' r fl us m, Same H H' → H fl = none → H' r = some (.tup [.ref fl, .int m]) → H' fl = some (.lst us) →
  Fill pr.length ps (fun i j x => ∃ t dl, x = .ref t ∧ H' t = some (.tup [.int (bgn pr ps dn i + psz pr ((ps[i]?.getD []).take j)), .ref dl]) ∧ H' dl = some (.lst (nV (dn i ++ [i]))) ∧ H dl = none) ps.length 0 us → Far pr ps dn m → Q (.ref r) H'
theorem bgn_psz {pr : List (Int × W)} {ps : List (List Nat)} {dn : Nat → List Nat} {i : Nat} : (((dn i ++ [i]).map fun y => psz pr (ps[y]?.getD []))).sum = bgn pr ps dn i + psz pr (ps[i]?.getD []) := by
  unfold bgn
  rw [List.map_append, List.sum_append]
  simp
/-- what is laid for the j-th function of the i-th part, the ways down at Hb -/
def RL (Hb H : Hp) (pr : List (Int × W)) (ps : List (List Nat)) (dn : Nat → List Nat) (H0 : Hp) : Nat → Nat → V → Prop := fun i j x => ∃ t dl, x = .ref t ∧ H t = some (.tup [.int (bgn pr ps dn i + psz pr ((ps[i]?.getD []).take j)), .ref dl]) ∧ Hb dl = some (.lst (nV (dn i ++ [i]))) ∧ H0 dl = none
theorem RL.keep {Hb H H' : Hp} {pr : List (Int × W)} {ps : List (List Nat)} {dn : Nat → List Nat} {H0 : Hp} (k : Keep H H') : ∀ a b x, RL Hb H pr ps dn H0 a b x → RL Hb H' pr ps dn H0 a b x := fun _ _ _ ⟨t, dl, e, h1, h2, h3⟩ => ⟨t, dl, e, k _ _ h1, h2, h3⟩
theorem LsAt.snoc {H : Hp} {bs : List Addr} {qs : List (List Nat)} {b : Addr} {q : List Nat} (h : LsAt H bs qs) (e : H b = some (.lst (nV q))) : LsAt H (bs ++ [b]) (qs ++ [q]) := Paired.snoc h e
/-- a law over one list of at most 63 ints -/
def spLaw (K : PySem.W.Frag) : Sp := fun vs H Q _ => ∃ (a : Addr) (ns : List Int), vs = [.ref a] ∧ SqL K H a (ns.map V.int) ∧ ns.length ≤ 63 ∧ ∀ H', Q (.bl true) H'
end Ov
/-! ### runs as data -/
namespace Ov
open PySem PySem.Spec PyProof.Rows L2
/-- what a word comes to -/
inductive Wt where
  | num (z : Int) | way (f : Nat)
inductive Flt where
  | kind | deep | long
def Flt.name : Flt → Str
  | .kind => "kind" | .deep => "deep" | .long => "long"
/-- how far a run is -/
structure RS where
  said : List Int
  calls : Nat
  row : List Nat
  came : List (Nat × Wt)
  told : List (Nat × Wt)
inductive Res where
  | ok (v : Wt) (s : RS) | bad (f : Flt) (s : RS)
def Res.bind (r : Res) (k : Wt → RS → Res) : Res := match r with
  | .ok v s => k v s
  | .bad f s => .bad f s
def WtOk (n : Nat) : Wt → Prop
  | .num z => 0 ≤ z ∧ z < 1000
  | .way f => f < n
def evArms (ev : W → RS → Res) : List W → List Wt → RS → (List Wt → RS → Res) → Res
  | [], acc, s, k => k acc s
  | w :: ws, acc, s, k => (ev w s).bind fun v s => evArms ev ws (acc ++ [v]) s k
def fin (call : Nat → Wt → RS → Res) (o : Op) (g : Int) (vs : List Wt) (s : RS) : Res := match o, vs with
  | .thn, [_, v] => .ok v s
  | .say, [.num z] => .ok (.num z) { s with said := s.said ++ [z] }
  | .call, [v] => call g.toNat v s
  | .through, [.way f, u] => call f u s
  | .plus, [.num x, .num y] => .ok (.num ((x + y) % 1000)) s
  | .less, [.num x, .num y] => .ok (.num ((x - y) % 1000)) s
  | .times, [.num x, .num y] => .ok (.num ((x * y) % 1000)) s
  | _, _ => .bad .kind s
/-- a word's going: calls as given, the argument a, words at most d within one another -/
def evB (call : Nat → Wt → RS → Res) (a : Wt) : Nat → W → RS → Res
  | 0, _, s => .bad .kind s
  | d + 1, .mk o g as, s => match o with
    | .num => .ok (.num g) s
    | .way => .ok (.way g.toNat) s
    | .arg => .ok a s
    | .ife => match as with
      | [t, x, y] => (evB call a d t s).bind fun v s => match v with
        | .way _ => .bad .kind s
        | .num z => if z ≠ 0 then evB call a d x s else evB call a d y s
      | _ => .bad .kind s
    | o => evArms (evB call a d) as [] s (fin call o g)
/-- a call's going: n more within one another, who calls, who is called -/
def evC (pr : List (Int × W)) : Nat → Nat → Nat → Wt → RS → Res
  | 0, _, _, _, s => .bad .deep s
  | n + 1, c, f, a, s => if 200 ≤ s.calls then .bad .long s else
    match pr[f]? with
    | none => .bad .kind s
    | some p => (evB (evC pr n f) a 7 p.2 { s with calls := s.calls + 1, row := s.row ++ [f], came := s.came ++ [(f, a)] }).bind fun v s => .ok v { s with row := s.row ++ [c], told := s.told ++ [(f, v)] }
/-- a whole run -/
def evR (pr : List (Int × W)) (z : Int) : Res := match pr[0]? with
  | none => .bad .kind ⟨[], 0, [0], [], []⟩
  | some p => (evB (evC pr 12 0) (.num z) 7 p.2 ⟨[], 0, [0], [(0, .num z)], []⟩).bind fun v s => .ok v { s with told := s.told ++ [(0, v)] }
/-- a worth as the law has it -/
def LV (H : Hp) : V → Wt → Prop
  | v, .num z => v = .int z
  | v, .way f => ∃ t, v = .ref t ∧ H t = some (.tup [.str "way", .int (f : Int)])
theorem LV.keep {H H' : Hp} (k : Keep H H') : ∀ {v : V} {a : Wt}, LV H v a → LV H' v a
  | _, .num _, h => h
  | _, .way _, ⟨t, e, h⟩ => ⟨t, e, k _ _ h⟩
/-- a pair of a function and a worth -/
def EntAt (H : Hp) (v : V) (e : Nat × Wt) : Prop := ∃ t lv, v = .ref t ∧ H t = some (.tup [.int (e.1 : Int), lv]) ∧ LV H lv e.2
theorem EntAt.keep {H H' : Hp} (k : Keep H H') {v : V} {e : Nat × Wt} (h : EntAt H v e) : EntAt H' v e := by
  obtain ⟨t, lv, e1, h1, h2⟩ := h
  exact ⟨t, lv, e1, k _ _ h1, h2.keep k⟩
/-- the law's record of a run: the dict, its lists -/
structure RA where
  r : Addr
  sa : Addr
  tr : Addr
  ca : Addr
  to : Addr
  ah : Addr
  ba : Addr
def rK (x : RA) (pv : V) (calls : Int) (en : V) : List (Key × V) :=
  [(.inr "program", pv), (.inr "said", .ref x.sa), (.inr "calls", .int calls), (.inr "trace", .ref x.tr), (.inr "end", en), (.inr "hall", .non), (.inr "ahead", .ref x.ah), (.inr "back", .ref x.ba), (.inr "looks", .int 0), (.inr "came", .ref x.ca), (.inr "told", .ref x.to)]
structure RAt (H : Hp) (x : RA) (pv : V) (s : RS) (en : V) : Prop where
  r : H x.r = some (.dK (rK x pv (s.calls : Int) en))
  sa : H x.sa = some (.lst (s.said.map V.int))
  tr : H x.tr = some (.lst (nV s.row))
  ca : ∃ cs, H x.ca = some (.lst cs) ∧ Paired (EntAt H) cs s.came
  to : ∃ cs, H x.to = some (.lst cs) ∧ Paired (EntAt H) cs s.told
  ah : H x.ah = some (.lst [])
  ba : H x.ba = some (.lst [])
  nd : [x.sa, x.tr, x.ca, x.to, x.ah, x.ba].Nodup
theorem rK_end {x : RA} {pv : V} {c : Int} {en v : V} : putK (rK x pv c en) (.inr "end") v = rK x pv c v := by rfl
theorem rK_calls {x : RA} {pv : V} {c d : Int} {en : V} : putK (rK x pv c en) (.inr "calls") (.int d) = rK x pv d en := by rfl
/-- all but the record stays -/
def ButR (x : RA) (H H' : Hp) : Prop := ∀ a o, a ≠ x.r → a ≠ x.sa → a ≠ x.tr → a ≠ x.ca → a ≠ x.to → H a = some o → H' a = some o
theorem ButR.trans {x : RA} {H H1 H2 : Hp} (p : ButR x H H1) (q : ButR x H1 H2) : ButR x H H2 := fun a o n1 n2 n3 n4 n5 e => q a o n1 n2 n3 n4 n5 (p a o n1 n2 n3 n4 n5 e)
theorem ButR.same {x : RA} {H H' : Hp} (p : Same H H') : ButR x H H' := fun a o _ _ _ _ _ e => p a o e
theorem RAt.keepB {H H' H0 : Hp} {x : RA} {pv : V} {s : RS} {en : V} (h : RAt H x pv s en) (b : ButR x H H') : Keep H H' := fun a xs e => by
  obtain ⟨cs, h1, _⟩ := h.ca
  obtain ⟨ds, h2, _⟩ := h.to
  exact b a _ (ne_of e h.r (by intro z; cases z)) (ne_of e h.sa (by intro z; cases z)) (ne_of e h.tr (by intro z; cases z)) (ne_of e h1 (by intro z; cases z)) (ne_of e h2 (by intro z; cases z)) e
theorem RAt.same {H H' : Hp} {x : RA} {pv : V} {s : RS} {en : V} (h : RAt H x pv s en) (e : Same H H') : RAt H' x pv s en := by
  obtain ⟨h1, h2, h3, ⟨cs, h4, h5⟩, ⟨ds, h6, h7⟩, h8, h9, h10⟩ := h
  exact ⟨e _ _ h1, e _ _ h2, e _ _ h3, ⟨cs, e _ _ h4, L2.Paired.mapP h5 fun _ _ z => z.keep (Keep.same e)⟩, ⟨ds, e _ _ h6, L2.Paired.mapP h7 fun _ _ z => z.keep (Keep.same e)⟩, e _ _ h8, e _ _ h9, h10⟩
theorem RAt.new {H : Hp} {x : RA} {pv : V} {s : RS} {en : V} (h : RAt H x pv s en) {p : Addr} (hp : H p = none) : p ≠ x.r ∧ p ≠ x.sa ∧ p ≠ x.tr ∧ p ≠ x.ca ∧ p ≠ x.to := by
  obtain ⟨cs, h1, _⟩ := h.ca
  obtain ⟨ds, h2, _⟩ := h.to
  exact ⟨(ne_of_none h.r hp).symm, (ne_of_none h.sa hp).symm, (ne_of_none h.tr hp).symm, (ne_of_none h1 hp).symm, (ne_of_none h2 hp).symm⟩
theorem Keep.updD {H : Hp} {a : Addr} {ks : List (Key × V)} {o : HO} (e : H a = some (.dK ks)) : Keep H (upd H a o) := fun b zs h => by
  rw [upd_ne (ne_of h e (by intro z; cases z))]
  exact h
theorem RAt.ents {H H' : Hp} {cs : List V} {l : List (Nat × Wt)} (k : Keep H H') (h : Paired (EntAt H) cs l) : Paired (EntAt H') cs l := L2.Paired.mapP h fun _ _ z => z.keep k
/-- the dict is written -/
theorem RAt.updR {H : Hp} {x : RA} {pv : V} {s : RS} {en en' : V} {c : Nat} (h : RAt H x pv s en) : RAt (upd H x.r (.dK (rK x pv (c : Int) en'))) x pv { s with calls := c } en' := by
  have k := Keep.updD (o := .dK (rK x pv (c : Int) en')) h.r
  obtain ⟨h1, h2, h3, ⟨cs, h4, h5⟩, ⟨ds, h6, h7⟩, h8, h9, h10⟩ := h
  have ne : ∀ {a : Addr} {l : List V}, H a = some (.lst l) → a ≠ x.r := fun e => ne_of e h1 (by intro z; cases z)
  exact ⟨upd_same, by rw [upd_ne (ne h2)]; exact h2, by rw [upd_ne (ne h3)]; exact h3, ⟨cs, by rw [upd_ne (ne h4)]; exact h4, RAt.ents k h5⟩, ⟨ds, by rw [upd_ne (ne h6)]; exact h6, RAt.ents k h7⟩, by rw [upd_ne (ne h8)]; exact h8, by rw [upd_ne (ne h9)]; exact h9, h10⟩
theorem RAt.butR {H : Hp} {x : RA} {o : HO} : ButR x H (upd H x.r o) := fun a u n _ _ _ _ e => by rw [upd_ne n]; exact e
theorem RAt.butS {H : Hp} {x : RA} {o : HO} : ButR x H (upd H x.sa o) := fun a u _ n _ _ _ e => by rw [upd_ne n]; exact e
theorem RAt.butT {H : Hp} {x : RA} {o : HO} : ButR x H (upd H x.tr o) := fun a u _ _ n _ _ e => by rw [upd_ne n]; exact e
theorem RAt.butC {H : Hp} {x : RA} {o : HO} : ButR x H (upd H x.ca o) := fun a u _ _ _ n _ e => by rw [upd_ne n]; exact e
theorem RAt.butO {H : Hp} {x : RA} {o : HO} : ButR x H (upd H x.to o) := fun a u _ _ _ _ n e => by rw [upd_ne n]; exact e
theorem RAt.nds {H : Hp} {x : RA} {pv : V} {s : RS} {en : V} (h : RAt H x pv s en) : (x.sa ≠ x.tr ∧ x.sa ≠ x.ca ∧ x.sa ≠ x.to ∧ x.sa ≠ x.ah ∧ x.sa ≠ x.ba) ∧ (x.tr ≠ x.ca ∧ x.tr ≠ x.to ∧ x.tr ≠ x.ah ∧ x.tr ≠ x.ba) ∧ (x.ca ≠ x.to ∧ x.ca ≠ x.ah ∧ x.ca ≠ x.ba) ∧ (x.to ≠ x.ah ∧ x.to ≠ x.ba) := by
  have := h.nd
  simp only [List.nodup_cons, List.mem_cons, List.not_mem_nil, or_false, not_or] at this
  obtain ⟨⟨a1, a2, a3, a4, a5⟩, ⟨b1, b2, b3, b4⟩, ⟨c1, c2, c3⟩, ⟨d1, d2⟩, _⟩ := this
  exact ⟨⟨a1, a2, a3, a4, a5⟩, ⟨b1, b2, b3, b4⟩, ⟨c1, c2, c3⟩, d1, d2⟩
theorem RAt.updS {H : Hp} {x : RA} {pv : V} {s : RS} {en : V} {z : Int} (h : RAt H x pv s en) : RAt (upd H x.sa (.lst (s.said.map V.int ++ [.int z]))) x pv { s with said := s.said ++ [z] } en := by
  have k := Keep.updL (ys := s.said.map V.int ++ [.int z]) h.sa
  obtain ⟨⟨a1, a2, a3, a4, a5⟩, ⟨b1, b2, b3, b4⟩, ⟨c1, c2, c3⟩, d1, d2⟩ := h.nds
  obtain ⟨h1, h2, h3, ⟨cs, h4, h5⟩, ⟨ds, h6, h7⟩, h8, h9, h10⟩ := h
  have ne : x.r ≠ x.sa := ne_of h1 h2 (by intro z; cases z)
  exact ⟨by rw [upd_ne ne]; exact h1, by rw [upd_same, List.map_append]; rfl, by rw [upd_ne a1.symm]; exact h3, ⟨cs, by rw [upd_ne a2.symm]; exact h4, RAt.ents k h5⟩, ⟨ds, by rw [upd_ne a3.symm]; exact h6, RAt.ents k h7⟩, by rw [upd_ne a4.symm]; exact h8, by rw [upd_ne a5.symm]; exact h9, h10⟩
theorem RAt.updT {H : Hp} {x : RA} {pv : V} {s : RS} {en : V} {f : Nat} (h : RAt H x pv s en) : RAt (upd H x.tr (.lst (nV s.row ++ [.int (f : Int)]))) x pv { s with row := s.row ++ [f] } en := by
  have k := Keep.updL (ys := nV s.row ++ [.int (f : Int)]) h.tr
  obtain ⟨⟨a1, a2, a3, a4, a5⟩, ⟨b1, b2, b3, b4⟩, ⟨c1, c2, c3⟩, d1, d2⟩ := h.nds
  obtain ⟨h1, h2, h3, ⟨cs, h4, h5⟩, ⟨ds, h6, h7⟩, h8, h9, h10⟩ := h
  have ne : x.r ≠ x.tr := ne_of h1 h3 (by intro z; cases z)
  exact ⟨by rw [upd_ne ne]; exact h1, by rw [upd_ne a1]; exact h2, by rw [upd_same, nV_app], ⟨cs, by rw [upd_ne b1.symm]; exact h4, RAt.ents k h5⟩, ⟨ds, by rw [upd_ne b2.symm]; exact h6, RAt.ents k h7⟩, by rw [upd_ne b3.symm]; exact h8, by rw [upd_ne b4.symm]; exact h9, h10⟩
theorem RAt.updC {H : Hp} {x : RA} {pv v : V} {s : RS} {en : V} {cs : List V} {e : Nat × Wt} (h : RAt H x pv s en) (hc : H x.ca = some (.lst cs)) (hv : EntAt H v e) : RAt (upd H x.ca (.lst (cs ++ [v]))) x pv { s with came := s.came ++ [e] } en := by
  have k := Keep.updL (ys := cs ++ [v]) hc
  obtain ⟨⟨a1, a2, a3, a4, a5⟩, ⟨b1, b2, b3, b4⟩, ⟨c1, c2, c3⟩, d1, d2⟩ := h.nds
  obtain ⟨h1, h2, h3, ⟨cs', h4, h5⟩, ⟨ds, h6, h7⟩, h8, h9, h10⟩ := h
  have ne : x.r ≠ x.ca := ne_of h1 h4 (by intro z; cases z)
  obtain rfl : cs' = cs := by
    have := h4.symm.trans hc
    cases this
    rfl
  exact ⟨by rw [upd_ne ne]; exact h1, by rw [upd_ne a2]; exact h2, by rw [upd_ne b1]; exact h3, ⟨cs' ++ [v], upd_same, PySem.Paired.snoc (RAt.ents k h5) (hv.keep k)⟩, ⟨ds, by rw [upd_ne c1.symm]; exact h6, RAt.ents k h7⟩, by rw [upd_ne c2.symm]; exact h8, by rw [upd_ne c3.symm]; exact h9, h10⟩
theorem RAt.updO {H : Hp} {x : RA} {pv v : V} {s : RS} {en : V} {cs : List V} {e : Nat × Wt} (h : RAt H x pv s en) (hc : H x.to = some (.lst cs)) (hv : EntAt H v e) : RAt (upd H x.to (.lst (cs ++ [v]))) x pv { s with told := s.told ++ [e] } en := by
  have k := Keep.updL (ys := cs ++ [v]) hc
  obtain ⟨⟨a1, a2, a3, a4, a5⟩, ⟨b1, b2, b3, b4⟩, ⟨c1, c2, c3⟩, d1, d2⟩ := h.nds
  obtain ⟨h1, h2, h3, ⟨cs', h4, h5⟩, ⟨ds, h6, h7⟩, h8, h9, h10⟩ := h
  have ne : x.r ≠ x.to := ne_of h1 h6 (by intro z; cases z)
  obtain rfl : ds = cs := by
    have := h6.symm.trans hc
    cases this
    rfl
  exact ⟨by rw [upd_ne ne]; exact h1, by rw [upd_ne a3]; exact h2, by rw [upd_ne b2]; exact h3, ⟨cs', by rw [upd_ne c1]; exact h4, RAt.ents k h5⟩, ⟨ds ++ [v], upd_same, PySem.Paired.snoc (RAt.ents k h7) (hv.keep k)⟩, by rw [upd_ne d1.symm]; exact h8, by rw [upd_ne d2.symm]; exact h9, h10⟩
theorem pg_lstK {X : Cx} {K : PySem.W.Frag} {es : List Expr} {k : Nat} {pos : Pos} {t : TGs} {n : Nat} (hK : X.K = K) (hc : X.calm = true) (h : PGs X es t)
    (hn : (assignEach es X.env).length = n := by rfl) (hst : (assignEach es X.env).findIdx? (·.1) = none := by rfl) : PG X (.Tuple es k pos) (gLst K n t) := by
  subst hK
  exact pg_lst hc h hn hst
/-- how much may still be laid down -/
def RS.phi (s : RS) : Nat := s.said.length + s.row.length + s.came.length + s.told.length + 44 * (200 - s.calls)
def Good (n b : Nat) : Res → Prop
  | .ok v s => WtOk n v ∧ s.phi ≤ b
  | .bad _ s => s.phi ≤ b
theorem Good.le {n b c : Nat} (le : b ≤ c) : ∀ {r : Res}, Good n b r → Good n c r
  | .ok _ _, h => ⟨h.1, Nat.le_trans h.2 le⟩
  | .bad _ _, h => Nat.le_trans (show _ ≤ b from h) le
theorem Good.bind {n b c : Nat} (le : b ≤ c) {k : Wt → RS → Res} : ∀ {r : Res}, Good n b r → (∀ v s, WtOk n v → s.phi ≤ b → Good n c (k v s)) → Good n c (r.bind k)
  | .ok v s, h, hk => hk v s h.1 h.2
  | .bad _ _, h, _ => Nat.le_trans (show _ ≤ b from h) le
theorem evArms_good {n : Nat} {ev : W → RS → Res} {k : List Wt → RS → Res} {c : Nat} : ∀ (ws : List W) (acc : List Wt) (s : RS), (∀ w ∈ ws, ∀ s, Good n (s.phi + w.size) (ev w s)) → s.phi + W.sizes ws ≤ c → (∀ v ∈ acc, WtOk n v) →
    (∀ vs s, vs.length = acc.length + ws.length → (∀ v ∈ vs, WtOk n v) → s.phi ≤ c → Good n (c + 1) (k vs s)) → Good n (c + 1) (evArms ev ws acc s k)
  | [], acc, s, _, hs, ha, hk => by
    rw [W.sizes] at hs
    exact hk acc s rfl ha hs
  | w :: ws, acc, s, he, hs, ha, hk => by
    rw [W.sizes] at hs
    refine Good.bind (b := s.phi + w.size) (by omega) (he w List.mem_cons_self s) fun v s' hv hs' => ?_
    refine evArms_good ws (acc ++ [v]) s' (fun u hu => he u (List.mem_cons_of_mem _ hu)) (by omega) (fun u hu => ?_) fun vs s2 hl h1 h2 => hk vs s2 (by rw [hl, List.length_append, List.length_singleton, List.length_cons]; omega) h1 h2
    rcases List.mem_append.mp hu with h | h
    · exact ha u h
    · rw [List.mem_singleton.mp h]
      exact hv
theorem fin_good {n : Nat} {call : Nat → Wt → RS → Res} (hc : ∀ f u s, f < n → WtOk n u → Good n s.phi (call f u s)) {o : Op} {g : Int} (hg : o.fits n g) {vs : List Wt} {s : RS} {c : Nat} (hv : ∀ v ∈ vs, WtOk n v) (hs : s.phi ≤ c) : Good n (c + 1) (fin call o g vs s) := by
  have md : ∀ z : Int, WtOk n (.num (z % 1000)) := fun z => ⟨Int.emod_nonneg _ (by decide), Int.emod_lt_of_pos _ (by decide)⟩
  unfold fin
  split
  · exact ⟨hv _ (by simp), by omega⟩
  · refine ⟨hv _ (by simp), ?_⟩
    unfold RS.phi at hs ⊢
    simp only [List.length_append, List.length_singleton]
    omega
  · have h := hg
    exact Good.le (by omega) (hc _ _ _ (by have : 0 ≤ g ∧ g < n := h; omega) (hv _ (by simp)))
  · rename_i f u
    exact Good.le (by omega) (hc _ _ _ (hv (.way f) (by simp)) (hv _ (by simp)))
  · exact ⟨md _, by omega⟩
  · exact ⟨md _, by omega⟩
  · exact ⟨md _, by omega⟩
  · show s.phi ≤ c + 1
    omega
theorem evB_good {n : Nat} {call : Nat → Wt → RS → Res} (hc : ∀ f u s, f < n → WtOk n u → Good n s.phi (call f u s)) {a : Wt} (ha : WtOk n a) : ∀ (d : Nat) (w : W) (s : RS), WOk n d w → Good n (s.phi + w.size) (evB call a d w s) := by
  intro d
  induction d with
  | zero => exact fun w s h => absurd h wok0
  | succ d ih =>
    intro w s h
    cases h with
    | @mk _ o g as h1 h2 h3 =>
    rw [W.size_mk]
    have gen : Good n (s.phi + (1 + W.sizes as)) (evArms (evB call a d) as [] s (fin call o g)) := by
      rw [show s.phi + (1 + W.sizes as) = s.phi + W.sizes as + 1 by omega]
      exact evArms_good as [] s (fun w hw s => ih w s (h3 w hw)) (Nat.le_refl _) (fun _ z => nomatch z) fun vs s2 _ h4 h5 => fin_good hc h2 h4 h5
    cases o with
    | num => exact ⟨⟨h2.1, by have : 0 ≤ g ∧ g ≤ 99 := h2; omega⟩, by omega⟩
    | way => exact ⟨(by have : 0 ≤ g ∧ g < n := h2; show g.toNat < n; omega), by omega⟩
    | arg => exact ⟨ha, by omega⟩
    | ife =>
      match as, h1, h3 with
      | [t, x, y], _, h3 =>
        simp only [W.sizes]
        refine Good.bind (b := s.phi + t.size) (by omega) (ih t s (h3 t (by simp))) fun v s' hv hs' => ?_
        cases v with
        | way f => show s'.phi ≤ _; omega
        | num z =>
          show Good n _ (if z ≠ 0 then _ else _)
          split
          · exact Good.le (by omega) (ih x s' (h3 x (by simp)))
          · exact Good.le (by omega) (ih y s' (h3 y (by simp)))
    | plus => exact gen
    | less => exact gen
    | times => exact gen
    | thn => exact gen
    | say => exact gen
    | call => exact gen
    | through => exact gen
theorem evC_good {pr : List (Int × W)} (hp : PrOk pr) : ∀ (n c f : Nat) (u : Wt) (s : RS), f < pr.length → WtOk pr.length u → Good pr.length s.phi (evC pr n c f u s)
  | 0, _, _, _, s, _, _ => Nat.le_refl _
  | n + 1, c, f, u, s, hf, hu => by
    rw [evC]
    by_cases h : 200 ≤ s.calls
    · rw [if_pos h]
      exact Nat.le_refl _
    · rw [if_neg h, List.getElem?_eq_getElem hf]
      have hb := hp.f _ (List.getElem_mem hf)
      have g := evB_good (n := pr.length) (call := evC pr n f) (a := u) (fun f' u' s' h1 h2 => evC_good hp n f f' u' s' h1 h2) hu 7 (pr[f]).2 { s with calls := s.calls + 1, row := s.row ++ [f], came := s.came ++ [(f, u)] } hb.2.2.1
      have e : ({ s with calls := s.calls + 1, row := s.row ++ [f], came := s.came ++ [(f, u)] } : RS).phi + (pr[f]).2.size ≤ s.phi - 2 ∧ 2 ≤ s.phi := by
        have := hb.2.2.2
        unfold RS.phi
        simp only [List.length_append, List.length_singleton]
        omega
      refine Good.bind (b := s.phi - 2) (by omega) (Good.le e.1 g) fun v s' hv hs' => ⟨hv, ?_⟩
      unfold RS.phi at hs' ⊢
      simp only [List.length_append, List.length_singleton]
      unfold RS.phi at e
      omega
/-- the fault stands at v -/
def FltAt (H : Hp) (v : V) (f : Flt) : Prop := ∃ t, v = .ref t ∧ H t = some (.tup [.str "fault", .str f.name])
def most : Nat := 1000000
def spSeen : Sp := fun vs H Q _ => ∃ x pv s f b, vs = [.ref x.r, f, b] ∧ RAt H x pv s .non ∧ Q .non H
/-- an answer: what it comes to, or a fault -/
def Ans (x : RA) (pv : V) (H : Hp) (Q : VK) (r : Res) : Prop := match r with
  | .ok b s => ∀ H' y, ButR x H H' → RAt H' x pv s .non → LV H' y b → Q y H'
  | .bad f s => ∀ H' t, ButR x H H' → RAt H' x pv s (.ref t) → H' t = some (.tup [.str "fault", .str f.name]) → Q .non H'
theorem Ans.but {x : RA} {pv : V} {H H1 : Hp} {Q : VK} (b : ButR x H H1) : ∀ {r : Res}, Ans x pv H Q r → Ans x pv H1 Q r
  | .ok _ _, h => fun H' y b' => h H' y (b.trans b')
  | .bad _ _, h => fun H' t b' => h H' t (b.trans b')
def spCome (pr : List (Int × W)) (n d : Nat) : Sp := fun vs H Q _ => ∃ (x : RA) (pv : V) (s : RS) (v lv : V) (w : W) (a : Wt) (fn : Nat) (pl dp : Int), vs = [.ref x.r, .int (fn : Int), .int pl, v, lv, .int dp] ∧ RAt H x pv s .non ∧ PrAt H pv pr ∧ PrOk pr ∧
  WAt H v w ∧ WOk pr.length d w ∧ LV H lv a ∧ WtOk pr.length a ∧ fn < pr.length ∧ s.phi + w.size ≤ most ∧ dp + (n : Int) = 12 ∧ Ans x pv H Q (evB (evC pr n fn) a d w s)
def spCalled (pr : List (Int × W)) (n : Nat) : Sp := fun vs H Q _ => ∃ (x : RA) (pv : V) (s : RS) (at_ b fl : Addr) (o : Op) (g : Int) (us ls : List V) (acc : List Wt) (fn : Nat) (pl dp : Int), vs = [.ref x.r, .ref at_, .ref b, .ref fl, .int dp] ∧ RAt H x pv s .non ∧ PrAt H pv pr ∧ PrOk pr ∧
  H at_ = some (.tup [.int (fn : Int), .int pl]) ∧ WordAt H b o g us ∧ (o = .call ∨ o = .through) ∧ o.fits pr.length g ∧ H fl = some (.lst ls) ∧ Paired (LV H) ls acc ∧ acc.length = o.arity ∧ (∀ u ∈ acc, WtOk pr.length u) ∧ fn < pr.length ∧ s.phi ≤ most ∧ dp + (n : Int) = 12 ∧
  fl ≠ x.sa ∧ fl ≠ x.tr ∧ fl ≠ x.ca ∧ fl ≠ x.to ∧ Ans x pv H Q (fin (evC pr n fn) o g acc s)
theorem putEnd {H : Hp} {x : RA} {pv : V} {c : Int} {en v : V} (h : H x.r = some (.dK (rK x pv c en))) : DPut H x.r (.str "end") v (upd H x.r (.dK (rK x pv c v))) := by
  rw [← rK_end (en := en)]
  exact DPut.k (k := Sum.inr "end") h (by show 11 < sizeLine; decide)
theorem putCalls {H : Hp} {x : RA} {pv : V} {c d : Int} {en : V} (h : H x.r = some (.dK (rK x pv c en))) : DPut H x.r (.str "calls") (.int d) (upd H x.r (.dK (rK x pv d en))) := by
  rw [← rK_calls (c := c)]
  exact DPut.k (k := Sum.inr "calls") h (by show 11 < sizeLine; decide)
theorem ButR.keepL {x : RA} {H H' : Hp} (b : ButR x H H') {r : List (Key × V)} (hr : H x.r = some (.dK r)) {l : Addr} {ls : List V} (h : H l = some (.lst ls)) (n1 : l ≠ x.sa) (n2 : l ≠ x.tr) (n3 : l ≠ x.ca) (n4 : l ≠ x.to) : H' l = some (.lst ls) :=
  b l _ (ne_of h hr (by intro z; cases z)) n1 n2 n3 n4 h
theorem big {n : Nat} {s : RS} (h : s.phi ≤ most) (le : n ≤ s.phi + 1) : n < sizeLine := Nat.lt_of_le_of_lt (Nat.le_trans le (Nat.succ_le_succ h)) (by decide)
theorem hu65 {k : Nat} {A : Around} (hr : Room k A) : A.units + 65 < cLine := by
  have := hr.un
  omega
theorem pairShaped (a b : Int) : SeqAt.shaped (.tuple [.int a, .int b]) = true := by
  simp [SeqAt.shaped, PyData.depth, PyData.depthAll, PyData.canLay0, PyData.canLayAll0]
theorem two_of {α β : Type} {R : α → β → Prop} {ls : List α} {acc : List β} (h : Paired R ls acc) (e : acc.length = 2) : ∃ x y a b, ls = [x, y] ∧ acc = [a, b] ∧ R x a ∧ R y b := by
  match acc, h, e with
  | [a, b], .cons h1 (.cons h2 .nil), _ => exact ⟨_, _, a, b, rfl, rfl, h1, h2⟩
theorem one_of {α β : Type} {R : α → β → Prop} {ls : List α} {acc : List β} (h : Paired R ls acc) (e : acc.length = 1) : ∃ x a, ls = [x] ∧ acc = [a] ∧ R x a := by
  match acc, h, e with
  | [a], .cons h1 .nil, _ => exact ⟨_, a, rfl, rfl, h1⟩
theorem evB_gen {call : Nat → Wt → RS → Res} {a : Wt} {d : Nat} {o : Op} {g : Int} {as : List W} {s : RS} (n1 : o ≠ .num) (n2 : o ≠ .way) (n3 : o ≠ .arg) (n4 : o ≠ .ife) : evB call a (d + 1) (.mk o g as) s = evArms (evB call a d) as [] s (fin call o g) := by
  cases o <;> first | rfl | contradiction
theorem RAt.fresh {H0 H : Hp} {x : RA} {pv : V} {s0 s : RS} {en0 en : V} {F : Addr} {zs zs' : List V} (h0 : RAt H0 x pv s0 en0) (hF : H0 F = none) (h : RAt H x pv s en) (e : H F = some (.lst zs')) : RAt (upd H F (.lst zs)) x pv s en := by
  have k := Keep.updL (ys := zs) e
  obtain ⟨cs0, hc0, _⟩ := h0.ca
  obtain ⟨ds0, hd0, _⟩ := h0.to
  have ne : ∀ {a : Addr} {o : HO}, H0 a = some o → a ≠ F := fun z => ne_of_none z hF
  obtain ⟨h1, h2, h3, ⟨cs, h4, h5⟩, ⟨ds, h6, h7⟩, h8, h9, h10⟩ := h
  exact ⟨by rw [upd_ne (ne h0.r)]; exact h1, by rw [upd_ne (ne h0.sa)]; exact h2, by rw [upd_ne (ne h0.tr)]; exact h3, ⟨cs, by rw [upd_ne (ne hc0)]; exact h4, RAt.ents k h5⟩, ⟨ds, by rw [upd_ne (ne hd0)]; exact h6, RAt.ents k h7⟩, by rw [upd_ne (ne h0.ah)]; exact h8, by rw [upd_ne (ne h0.ba)]; exact h9, h10⟩
theorem ButR.updn {x : RA} {H H' : Hp} {F : Addr} {o : HO} (b : ButR x H H') (hF : H F = none) : ButR x H (upd H' F o) := fun a u n1 n2 n3 n4 n5 e => by
  rw [upd_ne (ne_of_none e hF)]
  exact b a u n1 n2 n3 n4 n5 e
def isRef : V → Bool
  | .ref _ => true
  | _ => false
theorem LV.ref {H : Hp} {v : V} {a : Wt} (h : LV H v a) : (∃ z, a = .num z ∧ v = .int z) ∨ ∃ f t, a = .way f ∧ v = .ref t ∧ H t = some (.tup [.str "way", .int (f : Int)]) := by
  cases a with
  | num z => exact .inl ⟨z, rfl, h⟩
  | way f =>
    obtain ⟨t, e, h⟩ := h
    exact .inr ⟨f, t, rfl, e, h⟩
theorem way_dp {K : PySem.W.Frag} {H : Hp} {f : Nat} {t : Addr} (h : H t = some (.tup [.str "way", .int (f : Int)])) : Dp K H (.ref t) (.tuple [.str "way", .int (f : Int)]) := .tup (SqT.of h) (.cons (.str _) (.cons (.int _) .nil))
theorem ways_dp {K : PySem.W.Frag} {H : Hp} {ls : List V} {acc : List Wt} (h : Paired (LV H) ls acc) (le : acc.length ≤ 2) : ∃ ds, DpAll K H (ls.filter isRef) ds ∧ SeqAt.shaped (.list ds) = true ∧ ((PyData.eqv (.list ds) (.list []) = true ∧ ∀ v ∈ acc, ∃ z, v = .num z) ∨ (PyData.eqv (.list ds) (.list []) = false ∧ ∃ f, .way f ∈ acc)) := by
  have sh : SeqAt.shaped (.list []) = true := intsShaped []
  have e0 : PyData.eqv (.list []) (.list []) = true := eqvNil []
  have so : PyData.strOk (Str.ofString "way") = true := by decide +kernel
  match ls, acc, h, le with
  | _, _, .nil, _ => exact ⟨[], .nil, sh, .inl ⟨e0, fun _ z => nomatch z⟩⟩
  | _, _, .cons h1 .nil, _ =>
    rcases h1.ref with ⟨z, rfl, rfl⟩ | ⟨f, t, rfl, rfl, ht⟩
    · exact ⟨[], .nil, sh, .inl ⟨e0, by simp⟩⟩
    · exact ⟨_, .cons (way_dp ht) .nil, by simp [SeqAt.shaped, PyData.depth, PyData.depthAll, PyData.canLay0, PyData.canLayAll0, so], .inr ⟨by simp [PyData.eqv, PyData.eqvAll], f, by simp⟩⟩
  | _, _, .cons h1 (.cons h2 .nil), _ =>
    rcases h1.ref with ⟨z, rfl, rfl⟩ | ⟨f, t, rfl, rfl, ht⟩ <;> rcases h2.ref with ⟨z', rfl, rfl⟩ | ⟨f', t', rfl, rfl, ht'⟩
    · exact ⟨[], .nil, sh, .inl ⟨e0, by simp⟩⟩
    · exact ⟨_, .cons (way_dp ht') .nil, by simp [SeqAt.shaped, PyData.depth, PyData.depthAll, PyData.canLay0, PyData.canLayAll0, so], .inr ⟨by simp [PyData.eqv, PyData.eqvAll], f', by simp⟩⟩
    · exact ⟨_, .cons (way_dp ht) .nil, by simp [SeqAt.shaped, PyData.depth, PyData.depthAll, PyData.canLay0, PyData.canLayAll0, so], .inr ⟨by simp [PyData.eqv, PyData.eqvAll], f, by simp⟩⟩
    · exact ⟨_, .cons (way_dp ht) (.cons (way_dp ht') .nil), by simp [SeqAt.shaped, PyData.depth, PyData.depthAll, PyData.canLay0, PyData.canLayAll0, so], .inr ⟨by simp [PyData.eqv, PyData.eqvAll], f, by simp⟩⟩
  | _, _, .cons _ (.cons _ (.cons _ _)), le =>
    simp only [List.length_cons] at le
    omega
theorem fin_bad {call : Nat → Wt → RS → Res} {o : Op} {g : Int} {acc : List Wt} {s : RS} {f : Nat} (h : Wt.way f ∈ acc) (l : acc.length ≤ 2) (ho : o = .say ∨ o = .plus ∨ o = .less ∨ o = .times) : fin call o g acc s = .bad .kind s := by
  match acc, l with
  | [], _ => cases h
  | [a], _ =>
    obtain rfl : a = .way f := (List.mem_singleton.mp h).symm
    rcases ho with rfl | rfl | rfl | rfl <;> rfl
  | [a, c], _ =>
    have h' : a = .way f ∨ c = .way f := by
      rcases List.mem_cons.mp h with e | e
      · exact .inl e.symm
      · exact .inr (List.mem_singleton.mp e).symm
    rcases h' with rfl | rfl
    · rcases ho with rfl | rfl | rfl | rfl <;> rfl
    · rcases ho with rfl | rfl | rfl | rfl <;> cases a <;> rfl
  | _ :: _ :: _ :: _, l =>
    simp only [List.length_cons] at l
    omega
theorem Res.bind_ok (r : Res) : r.bind .ok = r := by cases r <;> rfl
def ifK (ex ey : RS → Res) : Wt → RS → Res := fun v s => match v with
  | .way _ => .bad .kind s
  | .num z => if z ≠ 0 then ex s else ey s
theorem evB_if {call : Nat → Wt → RS → Res} {a : Wt} {d : Nat} {g : Int} {wt wx wy : W} {s : RS} : evB call a (d + 1) (.mk .ife g [wt, wx, wy]) s = (evB call a d wt s).bind (ifK (evB call a d wx) (evB call a d wy)) := rfl
theorem three_of {α : Type} {l : List α} (h : l.length = 3) : ∃ a b c, l = [a, b, c] := by
  match l, h with
  | [a, b, c], _ => exact ⟨a, b, c, rfl⟩
end Ov
/-! ### d.update(e), of dicts -/
namespace Ov
open PySem PySem.Spec PyProof.Rows L2
section
variable {X : Cx} {pins : List (Addr × Obj)} {σ : L2.St} {H : Hp} {s : Shared} {a b : Addr} {kvs more : List (Key × V)} {A : Around} {E : Value → Shared → Prop}
theorem d_update {Q : Value → Shared → Prop} (I : Inv X pins σ H s) (ea : H a = some (.dK kvs)) (eb : H b = some (.dK more)) (ne : a ≠ b) (hz : kvs.length + more.length ≤ 1000) (h : ∀ s', Inv X pins σ (upd H a (.dK (mergeK kvs more))) s' → Q .none s') :
    wpAny (model X.prog X.w) A (call (.builtin "dict.update") [.ref a, .ref b]) Q E s := by
  obtain ⟨z, hd, vs, rel, dd⟩ := dk_of I.hok ea
  obtain ⟨z', hd', ws, rel', dd'⟩ := dk_of I.hok eb
  have l1 := rel.length
  have l2 := rel'.length
  refine call_meetsIn PySem.F.slot_dict_update dd.typeIs PySem.F.entry_dict_update (PySem.F.args_dict_update_2 _ _) (meets_dict_update (mixKind X.prog X.w) a b ne hd') ⟨vs, ws, dd, dd', Nat.le_trans (by omega) (sml _ hz), fun h' d1 d2 hs => h _ ?_⟩
  have he : ∃ q, h'.get? a = some q := let ⟨q, _, _, hq, _⟩ := d1; ⟨q, hq⟩
  have lk := KV.merge rel' rel
  have ll : (mergeK kvs more).length ≤ sizeLine := by
    rw [lk.length]
    exact Nat.le_trans (merged_length_le vs ws) (Nat.le_trans (by omega) (sml _ hz))
  exact d_write (t' := s.toks) I (by rw [ea]; exact True.intro) hs he (dk_new ll hd lk d1)
end
theorem pe_fldK {X : Cx} {K : PySem.W.Frag} {e : Expr} {f : Str} {pos : Pos} {ta : TE} (hK : X.K = K) (h : PE X e ta) (hb : attributeBase e f X.env (eval e X.env) = eval e X.env) : PE X (.Attribute e f pos) (tFld K ta f) := by
  subst hK
  exact pe_fld h hb
def rDUpd : V → List V → Hp → VK → Prop := fun x vs H Q => ∃ (a b : Addr) (kvs more : List (Key × V)), x = .ref a ∧ vs = [.ref b] ∧ H a = some (.dK kvs) ∧ H b = some (.dK more) ∧ a ≠ b ∧ kvs.length + more.length ≤ 1000 ∧ Q .non (upd H a (.dK (mergeK kvs more)))
theorem mt_dupd {X : Cx} : MtR X "dict.update" rDUpd := by
  intro pins s σ H x vs v us Q I rx rv h
  obtain ⟨a, b, kvs, more, rfl, rfl, ea, eb, ne, hz, q⟩ := h
  obtain rfl : v = Value.ref a := rx
  cases rv with
  | cons r1 rest =>
    cases rest
    cases (show _ = Value.ref b from r1)
    exact d_update I ea eb ne hz fun s' I' => ⟨.non, _, I', rfl, q⟩
/-- a new record's places -/
structure RNew (H : Hp) (x : RA) : Prop where
  r : H x.r = none
  sa : H x.sa = none
  tr : H x.tr = none
  ca : H x.ca = none
  to : H x.to = none
theorem ButR.sameN {H0 H H' : Hp} {x : RA} (n : RNew H0 x) (s : Same H0 H) (b : ButR x H H') : Same H0 H' := fun a o e => b a o (ne_of_none e n.r) (ne_of_none e n.sa) (ne_of_none e n.tr) (ne_of_none e n.ca) (ne_of_none e n.to) (s a o e)
def rs0 : RS := ⟨[], 0, [0], [], []⟩
def spBegun : Sp := fun vs H Q _ => ∃ (pv : V) (ah ba : Addr), vs = [pv, .non, .ref ah, .ref ba] ∧ H ah = some (.lst []) ∧ H ba = some (.lst []) ∧ ah ≠ ba ∧ ∀ H' x, Same H H' → RNew H x → RAt H' x pv rs0 .non → x.ah = ah → x.ba = ba → Q (.ref x.r) H'
/-- how a run ends, told -/
def endD : Res → Str × V
  | .ok (.num z) _ => ("number", .int z)
  | .ok (.way f) _ => ("way", .int (f : Int))
  | .bad f _ => ("fault", .str f.name)
def Res.st : Res → RS
  | .ok _ s => s
  | .bad _ s => s
def spLawRun (pr : List (Int × W)) : Sp := fun vs H Q _ => ∃ (pv : V) (z : Int) (ah ba : Addr), vs = [pv, .int z, .non, .ref ah, .ref ba] ∧ PrAt H pv pr ∧ PrOk pr ∧ 0 ≤ z ∧ z < 1000 ∧ H ah = some (.lst []) ∧ H ba = some (.lst []) ∧ ah ≠ ba ∧
  ∀ H' x t, Same H H' → RAt H' x pv (evR pr z).st (.ref t) → H' t = some (.tup [.str (endD (evR pr z)).1, (endD (evR pr z)).2]) → Q (.ref x.r) H'
def rk1 (pv : V) (sa tr : Addr) : List (Key × V) := [(.inr "program", pv), (.inr "said", .ref sa), (.inr "calls", .int 0), (.inr "trace", .ref tr), (.inr "end", .non), (.inr "hall", .non)]
def rk2 (ah ba ca to : Addr) : List (Key × V) := [(.inr "ahead", .ref ah), (.inr "back", .ref ba), (.inr "looks", .int 0), (.inr "came", .ref ca), (.inr "told", .ref to)]
theorem mergeK_fresh : ∀ (more acc : List (Key × V)), ((acc ++ more).map (·.1)).Nodup → mergeK acc more = acc ++ more
  | [], acc, _ => (List.append_nil acc).symm
  | kv :: r, acc, h => by
    have e : putK acc kv.1 kv.2 = acc ++ [kv] := by
      unfold putK
      rw [if_neg]
      intro z
      obtain ⟨x, hx, hxe⟩ := List.any_eq_true.mp z
      rw [List.map_append, List.map_cons, List.nodup_append] at h
      exact h.2.2 x.1 (List.mem_map.mpr ⟨x, hx, rfl⟩) kv.1 List.mem_cons_self (of_decide_eq_true hxe)
    show mergeK (putK acc kv.1 kv.2) r = _
    rw [e, mergeK_fresh r (acc ++ [kv]) (by rw [List.append_assoc]; exact h), List.append_assoc]
    rfl
theorem rk_keys {pv : V} {sa tr ah ba ca to : Addr} : ((rk1 pv sa tr ++ rk2 ah ba ca to).map (·.1)).Nodup := by
  show ([.inr "program", .inr "said", .inr "calls", .inr "trace", .inr "end", .inr "hall", .inr "ahead", .inr "back", .inr "looks", .inr "came", .inr "told"] : List Key).Nodup
  decide +kernel
theorem rk1_nil {pv : V} {sa tr : Addr} : mergeK [] (rk1 pv sa tr) = rk1 pv sa tr := mergeK_fresh _ [] (by
  show ([.inr "program", .inr "said", .inr "calls", .inr "trace", .inr "end", .inr "hall"] : List Key).Nodup
  decide +kernel)
theorem rk2_nil {ah ba ca to : Addr} : mergeK [] (rk2 ah ba ca to) = rk2 ah ba ca to := mergeK_fresh _ [] (by
  show ([.inr "ahead", .inr "back", .inr "looks", .inr "came", .inr "told"] : List Key).Nodup
  decide +kernel)
theorem rk_all {pv : V} {sa tr ah ba ca to r : Addr} : mergeK (rk1 pv sa tr) (rk2 ah ba ca to) = rK ⟨r, sa, tr, ca, to, ah, ba⟩ pv 0 .non := mergeK_fresh _ _ rk_keys
theorem RAt.said0 {H : Hp} {x : RA} {pv : V} {s : RS} {en : V} (h : RAt H x pv s en) : H x.sa = some (.lst (s.said.map V.int)) := h.sa
def spNumber : Sp := fun vs H Q _ => ∃ h c, vs = [.ref h] ∧ Dr H h c ∧ ∀ (z : Int) H', 0 ≤ z → z < 1000 → But h c H H' → Dr H' h c → Q (.int z) H'
/-! ### the program's side of runs -/
theorem PairedMem.map {α β : Type} {R R' : α → β → Prop} : ∀ {l : List α} {m : List β}, Paired R l m → (∀ a b, a ∈ l → R a b → R' a b) → Paired R' l m
  | _, _, .nil, _ => .nil
  | _, _, .cons h r, f => .cons (f _ _ List.mem_cons_self h) (PairedMem.map r fun a b m => f a b (List.mem_cons_of_mem _ m))
theorem PairedMem.left {α β : Type} {R : α → β → Prop} : ∀ {l : List α} {m : List β}, Paired R l m → ∀ a ∈ l, ∃ b, R a b
  | _, _, .cons h r, a, ha => by
    rcases List.mem_cons.mp ha with rfl | ha
    · exact ⟨_, h⟩
    · exact PairedMem.left r a ha
/-- the rows of a body, at b -/
def BodyAt (H : Hp) (b : Addr) (f : Int × W) : Prop := ∃ ys, H b = some (.lst ys) ∧ Paired (RowAt H) ys (f.2.rows 0)
theorem BodyAt.same {H H' : Hp} {b : Addr} {f : Int × W} (s : Same H H') (h : BodyAt H b f) : BodyAt H' b f := by
  obtain ⟨ys, h1, h2⟩ := h
  exact ⟨ys, s _ _ h1, L2.Paired.mapP h2 fun _ _ z => z.keep (Keep.same s)⟩
def spNumbered : Sp := fun vs H Q _ => ∃ v pr, vs = [v] ∧ PrAt H v pr ∧ PrOk pr ∧ ∀ H' p bs, Same H H' → H p = none → H' p = some (.lst (bs.map V.ref)) → Paired (BodyAt H') bs pr → (∀ b ∈ bs, H b = none) → Q (.ref p) H'
/-- a worth as the program has it -/
def PVd : Wt → Str × V
  | .num z => ("number", .int z)
  | .way f => ("way", .int (f : Int))
def PV (H : Hp) (v : V) (a : Wt) : Prop := ∃ t, v = .ref t ∧ H t = some (.tup [.str (PVd a).1, (PVd a).2])
theorem PV.keep {H H' : Hp} (k : Keep H H') {v : V} {a : Wt} (h : PV H v a) : PV H' v a := by
  obtain ⟨t, e, h⟩ := h
  exact ⟨t, e, k _ _ h⟩
def spReckoned : Sp := fun vs H Q _ => ∃ (o : Op) (x y : Int), vs = [.str o.name, .int x, .int y] ∧ (o = .plus ∨ o = .less ∨ o = .times) ∧ 0 ≤ x ∧ x < 1000 ∧
  ∀ H' t z, Same H H' → H t = none → H' t = some (.tup [.str "number", .int z]) → (∀ call g s, fin call o g [.num x, .num y] s = .ok (.num z) s) → Q (.ref t) H'
end Ov
namespace PySem
namespace FltX
open PySem.W PySem.Calls PyProof.Rows PySem.HandSPX
/-! ### the text of __init__ -/
def iA (p1 p2 : Pos) : Arguments := { posonlyargs := [], args := [{ arg := "self", annotation := none, pos := p1 }, { arg := "word", annotation := none, pos := p2 }], vararg := none, kwonlyargs := [], kw_defaults := [], kwarg := none, defaults := [] }
def iB (q1 q2 q3 q4 : Pos) : List Stmt := [.Assign [.Attribute (.Name "self" q1) "word" q2] (.Name "word" q3) q4]
def iS : Scope := { kind := .function, names := [(PySem.Str.ofString "self", .local), (PySem.Str.ofString "word", .local)], isGenerator := false, isCoroutine := false, more := [] }
/-- what the written part says of Flt, at C, and of its __init__, at fI -/
structure FltTxt (K : Frag) (mg : Str → Option Value) (C fI : Addr) : Prop where
  gC : mg "Fault" = some (.ref C)
  cls : ∃ nm q N bs bm sn sub ab col dd k0 k1 k2 k3 k5, K.lookup C = some (excClassObj nm q C N bs bm true sn sub ab col dd k0 k1 k2 k3 k5 "Exception.__new__") ∧ bm = ESX.exTail
  sa : findIn K (.ref C) "__setattr__" = some (some (.builtin "object.__setattr__"))
  ga : findIn K (.ref C) "__getattribute__" = some (some (.builtin "BaseException.__getattribute__"))
  gg : findIn K (.ref C) "__getattr__" = some none
  noN : findIn K (.ref C) "word" = some none
  iC : findIn K (.ref C) "__init__" = some (some (.ref fI))
  tC : typeIn K (.ref fI) = some (.type "function")
  kC : keepIn K (.ref C) = true
  exC : subIn K (.ref C) (.type "BaseException") = some true
  tyC : typeIn K (.ref C) = some (.type "type")
  hdC : hasDictIn K C = true
  te : exmOne K (.ref C) (.ref C) = some true
  fn : ∃ (oc : Value) (od : Option Addr) (doc pm : Value) (an : Option Addr) (cdv ct : Value) (osl : Array (Option Value)) (p1 p2 q1 q2 q3 q4 : Pos),
    K.lookup fI = some ⟨oc, od, .func (fnOf "__init__" "Fault.__init__" (iA p1 p2) (iB q1 q2 q3 q4) iS .none .none doc pm an cdv ct), osl⟩ ∧ codeIn K cdv "Fault.__init__" = true
theorem one_size (v : Value) : [v].length ≤ sizeLine := by
  rw [sizeLine_eq]
  exact (by decide : 1 ≤ 16777216)
theorem kept_but {K : Frag} {h h' : Heap} {x : Addr} (X : K.In h) (hx : K.lookup x = none) (k : ∀ b o, b ≠ x → h.get? b = some o → h'.get? b = some o) : K.In h' := fun a o e =>
  k a o (fun z => by rw [z, hx] at e; cases e) (X a o e)
theorem ldC {M : Model} {s : Shared} {name : Str} {scope : Scope} {L a : Addr} {cd : Value} {m : Str → Option Value} {x : Str} {pos : Pos} {v : Value} {Q : Value → Shared → Prop} {A : Around} {E : Value → Shared → Prop} (hn : s.heap.Ns L m) (hv : m x = some v) (h : Q v s)
    (hk : scope.kind = .function := by rfl) (hl : (envOfC name scope L a cd).kindOf x = some .local := by rfl) (hd : (x == ("__debug__" : Str)) = false := by decide) :
    wpAny M A (eval (.Name x pos) (envOfC name scope L a cd)) Q E s := wpAny_Name (wpAny_loadName_local hk hl hn hv h) hd
/-- what __init__ leaves of a fresh exception at x -/
structure InitEnd (h h' : Heap) (x C dx t1 : Addr) (v : Value) : Prop where
  keep : ∀ b o, b ≠ x → h.get? b = some o → h'.get? b = some o
  obj : h'.get? x = some { cls := .ref C, dict := some dx, data := .fields #[.ref t1, .none, .none, .none, .bool false, .none] }
  dbig : h.objs.size ≤ dx
  dne : dx ≠ x
  ns : h'.Ns1 dx (fun y => if y = "word" then some v else none)
/-- a made Flt -/
structure OwnMade (h h' : Heap) (e C d : Addr) (v : Value) : Prop where
  keep : ∀ b o, h.get? b = some o → h'.get? b = some o
  new : h.objs.size ≤ e
  obj : ∃ oe vs, h'.get? e = some oe ∧ oe.cls = .ref C ∧ oe.dict = some d ∧ oe.data = .fields vs ∧ vs[1]? = some .none
  dbig : h.objs.size ≤ d
  dne : d ≠ e
  ns : h'.Ns1 d (fun y => if y = "word" then some v else none)
section
variable {prog : Program} {w : World} {A : Around} {E : Value → Shared → Prop} {R : Result → Shared → Prop} {s : Shared} {K : Frag} {mg : Str → Option Value} {C fI : Addr}
theorem low_init (T : FltTxt K mg C fI) {x t0 : Addr} {v : Value} (X : K.In s.heap) (hlim : s.heap.NoLimit) (hx : s.heap.get? x = some (excO C t0)) (hnx : K.lookup x = none) (hroom : A.depth < recursionLimit)
    (hq : ∀ h' tk dx, InitEnd s.heap h' x C dx t0 v → R (.ok (.ret .none)) { s with heap := h', toks := tk }) :
    codeAny (model prog w) A (.call (.ref fI) ⟨[.ref x, v], []⟩) R s := by
  obtain ⟨oc, od, doc, pm, an, cdv, ct, osl, p1, p2, q1, q2, q3, q4, ho, hcd⟩ := T.fn
  obtain ⟨nm, q, N, bs, bm, sn, sub, ab, col, dd, k0, k1, k2, k3, k5, hC, hbm⟩ := T.cls
  have hcl : clsIn K C = some { name := nm, bases := bs, mro := .ref C :: bm, ns := N, qualname := q, hasDict := true, slotNames := sn, subclasses := sub, abstract := ab, collection := col, hasDel := false } := by unfold clsIn; rw [hC] <;> rfl
  refine Att.call_fn (binds := [("self", .ref x), ("word", v)]) X hlim ho hcd hroom (BindsTo.of_eq (by first | rfl | with_unfolding_all rfl)) (by first | rfl | decide | with_unfolding_all rfl) (fun s₁ IC => ?_) rfl rfl rfl
  obtain ⟨h₁, tk₁, rfl⟩ := IC.toInCall.same
  have k : ∀ b o, s.heap.get? b = some o → h₁.get? b = some o := IC.toInCall.keep
  have hn := IC.toInCall.ns
  have hxL : s.heap.objs.size ≠ x := Nat.ne_of_gt (Heap.lt_size hx)
  have X₁ : K.In h₁ := X.keeps k
  have hx₁ := k _ _ hx
  -- self.by = by
  show wpAny _ _ (execs _ _) _ _ _
  refine wpAny_execs_cons (plainObj_wpAny_Assign_Attribute ?_)
  refine ldC (v := v) hn (by first | rfl | with_unfolding_all rfl | kernel_rfl) (ldC (v := .ref x) hn (by first | rfl | with_unfolding_all rfl | kernel_rfl) ?_)
  refine set_plain X₁ (ox := excO C t0) (od := none) ⟨hx₁, rfl, rfl, trivial⟩ T.sa ?_
  refine ESX.osa_new X₁ hx₁ hcl (by rw [← hbm]) rfl T.noN (fun h₃ tk₃ dx k₃ dn dne hx₃ hn₃ => ?_)
  show wpAny _ _ (execs _ _) _ _ _
  have z : s.heap.objs.size < h₁.objs.size := hn.lt
  exact wpAny_execs_nil (hq h₃ tk₃ dx ⟨fun b o hb e => k₃ b o hb (k b o e), hx₃, Nat.le_of_lt (Nat.lt_of_lt_of_le z dn), dne, hn₃⟩)
theorem low_made (T : FltTxt K mg C fI) {v : Value} (X : K.In s.heap) (hlim : s.heap.NoLimit) (hroom : A.depth + 1 < recursionLimit)
    (hq : ∀ h' tk e d, OwnMade s.heap h' e C d v → R (.ok (.ret (.ref e))) { s with heap := h', toks := tk }) :
    codeAny (model prog w) A (.call (.ref C) ⟨[v], []⟩) R s := by
  obtain ⟨nm, q, N, bs, bm, sn, sub, ab, col, dd, k0, k1, k2, k3, k5, hC, hbm⟩ := T.cls
  obtain ⟨hp, g, dr, tk, os⟩ := s
  have k : ∀ b o, hp.get? b = some o → ((hp.push (kdv_tup [v])).push (excO C hp.objs.size)).get? b = some o := fun b o e => Heap.get?_push_of_some _ (Heap.get?_push_of_some _ e)
  have hget : ((hp.push (kdv_tup [v])).push (excO C hp.objs.size)).get? (hp.objs.size + 1) = some (excO C hp.objs.size) := by heap_get
  have hnx : K.lookup (hp.objs.size + 1) = none := by
    cases e : K.lookup (hp.objs.size + 1) with
    | none => rfl
    | some o =>
      have z : hp.get? (hp.objs.size + 1) = some o := X _ _ e
      exact absurd (Nat.lt_of_succ_lt (Heap.lt_size z)) (Nat.lt_irrefl _)
  refine call_own F.excBase_Exception (fun X => by rw [hbm]) (X _ _ hC) (looks_findIn X T.iC) (fun self => bind_fn X self T.tC) (one_size v) ?_
  refine low_init (s := ⟨(hp.push (kdv_tup [v])).push (excO C hp.objs.size), g, dr, tk, os⟩) T (X.keeps k) (hlim.keeps k) hget hnx ?_ fun h' tk' dx ⟨k', hx, dn, dne, hns⟩ => ?_
  · show A.depth + 1 < recursionLimit
    exact hroom
  · have old : ∀ b o, hp.get? b = some o → h'.get? b = some o := fun b o e => k' b o (Nat.ne_of_lt (Nat.lt_succ_of_lt (Heap.lt_size e))) (k b o e)
    have z : hp.objs.size + 1 + 1 ≤ dx := by
      first
        | (simpa only [Heap.size_push] using dn)
        | exact dn
        | (have q := dn; rw [Heap.size_push, Heap.size_push] at q; exact q)
    exact ⟨rfl, hq h' tk' (hp.objs.size + 1) dx ⟨old, Nat.le_succ _, ⟨_, _, hx, rfl, rfl, rfl, rfl⟩, Nat.le_trans (Nat.le_trans (Nat.le_succ _) (Nat.le_succ _)) z, dne, hns⟩⟩
end
end FltX
end PySem
namespace L2
open PySem PySem.Spec PyProof.Rows
theorem relO_low {v : V} {v' : Value} (r : RelV v v') (f : Str) : RelO (List.lookup f [(("word" : Str), v)]) (if f = "word" then some v' else none) := by
  by_cases hw : f = "word"
  · subst hw
    rw [if_pos rfl]
    have q : List.lookup ("word" : Str) [(("word" : Str), v)] = some v := by simp [List.lookup]
    rw [q]
    exact r
  · rw [if_neg hw]
    have qw : (f == ("word" : Str)) = false := by simpa using hw
    have q2 : List.lookup f [(("word" : Str), v)] = none := by simp [List.lookup, qw]
    rw [q2]
    trivial
section
variable {X : Cx} {C fI : Addr}
/-- Flt(e) -/
def tMkFlt (C : Addr) (ta : TA) : St → Hp → XK → Prop := fun σ H Q => ta σ H fun vs H1 => ∃ v, vs = [v] ∧ ∀ d, H1 d = none → Q (.ref C) (some d) (upd H1 d (.xd [(("word" : Str), v)]))
theorem pmk_low {a : Expr} {ta : TA} {p pos : Pos} {k : Nat} (T : PySem.FltX.FltTxt X.K X.mg C fI) (hr : Room k X.A) (ha : PA X [a] ta) (hg : Gl X "Fault" := by rfl)
    (he : starEach (a :: []) X.env = (false, eval a X.env) :: starEach [] X.env := by rfl) (hpl : (backTo pos (starEach [] X.env)).any (·.1) = false := by rfl) :
    PMk X (.Call (.Name "Fault" p) [a] [] pos) (tMkFlt C ta) := by
  intro pins s σ H Q I h
  refine wpAny_Call_Name_kw (ld_glob I hg T.gC ?_)
  refine PySem.W.callWith_K (h₀ := X.base) I.ok.mod.kin T.kC (thn (ha.run pos pins s σ H _ I h) fun us s1 hh => ?_) he hpl
  obtain ⟨vs, H1, I1, r1, v, ev, q1⟩ := hh
  subst ev
  refine ⟨I1.kIn, ?_⟩
  cases r1 with
  | cons rv rn =>
    rename_i v' us'
    cases rn
    show wpAny _ _ (call (.ref C) [v']) _ _ _
    have hlim := I1.nolimit
    obtain ⟨hp, g, dr, tk, os⟩ := s1
    refine wpAny_call (PySem.FltX.low_made T I1.kIn hlim (by have := hr.dp; omega) fun h' tk' e d M => ?_)
    show MkP X pins σ Q (.ref e) ⟨h', g, dr, tk', os⟩
    obtain ⟨oe, fv, hoe, hc, hd, hdat, h1⟩ := M.obj
    have hns := M.ns
    obtain ⟨G', g1, g2⟩ := restrict h' fun b => decide (b ≠ e)
    have gk : ∀ b, b ≠ e → G'.get? b = h'.get? b := fun b hb => g1 b (decide_eq_true hb)
    have ge : G'.get? e = none := g2 e (by simp)
    have old : ∀ b o, hp.get? b = some o → G'.get? b = some o := fun b o q => (gk b (Nat.ne_of_lt (Nat.lt_of_lt_of_le (Heap.lt_size q) M.new))).trans (M.keep b o q)
    have ob : ObjOk X.prog X.w (upd H1 d (.xd [(("word" : Str), v)])) G' d (.xd [(("word" : Str), v)]) :=
      ⟨_, hns.at (fun o q => (gk d M.dne).trans q), fun f => relO_low rv f⟩
    have J : Inv X pins σ (upd H1 d (.xd [(("word" : Str), v)])) ⟨G', g, dr, tk', os⟩ := I1.laid (t' := tk') old M.dbig ob
    refine ⟨e, oe, fv, ⟨G', g, dr, tk', os⟩, _, .ref C, some d, rfl, J, fun b o q => ?_, ge, hoe, ⟨hc, hd⟩, hdat, h1, ?_, rfl, I1.bare, raises_own T.exC T.tyC, q1 d (I1.hok.fresh M.dbig)⟩
    · by_cases hb : b = e
      · have q' : G'.get? b = some o := q
        rw [hb, ge] at q'; cases q'
      · exact (gk b hb).symm.trans q
    · rw [upd_ne (Ne.symm M.dne)]
      exact I1.hok.fresh M.new
/-- raise Flt(e) -/
def tRaiseFlt (C : Addr) (W : WX) (ta : TA) : TS := fun _ σ H => tMkFlt C ta σ H fun cls d H' => W cls d σ H'
theorem ps_raiseFlt {a : Expr} {ta : TA} {W : WX} {p pos pos2 : Pos} {k : Nat} (hc : X.calm = true) (T : PySem.FltX.FltTxt X.K X.mg C fI) (hr : Room k X.A) (tk : Takes X W) (ha : PA X [a] ta) (hg : Gl X "Fault" := by rfl)
    (he : starEach (a :: []) X.env = (false, eval a X.env) :: starEach [] X.env := by rfl) (hpl : (backTo pos (starEach [] X.env)).any (·.1) = false := by rfl) :
    PS X (.Raise (some (.Call (.Name "Fault" p) [a] [] pos)) none pos2) (tRaiseFlt C W ta) := ps_raise hc tk (pmk_low T hr ha hg he hpl)
/-- low.by, low the exception that the suite holds (at a; its class cls, its dict d) -/
def tByFlt (C : Addr) (a : Addr) (cls : Value) (d : Option Addr) (te : TE) : TE := fun σ H Q => te σ H fun x H1 => x = .ref a ∧ cls = .ref C ∧ ∃ (dd : Addr) (v : V), d = some dd ∧ H1 dd = some (.xd [(("word" : Str), v)]) ∧ Q v H1
theorem pe_byFlt {a : Addr} {oe : Obj} {cls : Value} {d : Option Addr} {pn : List (Addr × Obj)} {e : Expr} {te : TE} {pos : Pos} (T : PySem.FltX.FltTxt X.K X.mg C fI) (hz : Zc cls d oe) (hf : ∃ vs, oe.data = .fields vs) (he : PE (X.suite a ((a, oe) :: pn)) e te)
    (hb : attributeBase e "word" X.env (eval e X.env) = eval e X.env := by rfl) :
    PE (X.suite a ((a, oe) :: pn)) (.Attribute e "word" pos) (tByFlt C a cls d te) := by
  refine ⟨fun pins s σ H Q I h => ?_⟩
  refine attr_of hb (thn (he.run pins s σ H _ I h) fun u s1 hh => ?_)
  obtain ⟨x, H1, I1, rx, ex, ec, dd, v, ed, ea, q⟩ := hh
  subst ex
  obtain rfl : u = Value.ref a := rx
  subst ec
  subst ed
  obtain ⟨ha, _⟩ := I1.pin (a, oe) (List.mem_append_left _ List.mem_cons_self)
  obtain ⟨vs, hd⟩ := hf
  have hx : ObjOk X.prog X.w H1 s1.heap dd (.xd [(("word" : Str), v)]) := I1.hok dd _ ea
  obtain ⟨mA, hns, hr⟩ := hx
  obtain ⟨od, ho, hl⟩ := lookIn_ns hns
  have l : List.lookup ("word" : Str) [(("word" : Str), v)] = some v := by simp [List.lookup]
  obtain ⟨u, hu, ru⟩ := RelO.some_of (v := v) (o := mA "word") (by rw [← l]; exact hr "word")
  have J : PySem.W.InstAt s1.heap a oe C (some od) := ⟨ha, hz.1, by unfold PySem.W.notCls; rw [hd] <;> rfl, by rw [hz.2]; exact ho⟩
  exact HandSPX.exc_get I1.kIn J T.ga T.gg T.exC (PySem.W.findObj_own T.hdC T.noN rfl (by rw [hl, hu])) (handed_of ru) ⟨v, H1, I1.tok _, ru, q⟩
end
end L2

namespace L2
open PySem PySem.Spec PyProof.Rows
/-- an if whose test is known -/
theorem if_true_of {c : Bool} {A B : Prop} (hc : c = true) (h : A) : if c = true then A else B := by
  rw [if_pos hc]
  exact h
theorem if_false_of {c : Bool} {A B : Prop} (hc : c = false) (h : B) : if c = true then A else B := by
  rw [hc, if_neg Bool.false_ne_true]
  exact h
end L2
/-! ### the own error Fault: its facts as one test of the written part -/
namespace Ov
open PySem PySem.Spec PyProof.Rows L2
def flt1 (K : PySem.W.Frag) (C : Addr) : Bool := match K.lookup C with
  | some ⟨.type "type", _, .cls cd, sl⟩ => (match cd.mro, sl.toList with
    | .ref C' :: bm, [_, _, _, _, some (.builtin n), _] => C' == C && n == "Exception.__new__" && !cd.hasDel && cd.hasDict && bm == PySem.ESX.exTail
    | _, _ => false)
  | _ => false
theorem flt1_ok {K : PySem.W.Frag} {C : Addr} (q : flt1 K C = true) : ∃ nm q N bs bm sn sub ab col dd k0 k1 k2 k3 k5, K.lookup C = some (excClassObj nm q C N bs bm true sn sub ab col dd k0 k1 k2 k3 k5 "Exception.__new__") ∧ bm = PySem.ESX.exTail := by
  unfold flt1 at q
  split at q
  · rename_i dd cd sl ho
    split at q
    · rename_i C' bm k0 k1 k2 k3 n k5 hm hs
      simp only [Bool.and_eq_true, beq_iff_eq, Bool.not_eq_true'] at q
      obtain ⟨⟨⟨⟨rfl, rfl⟩, hdel⟩, hdi⟩, hb⟩ := q
      obtain ⟨nm, bs, mro, ns, qn, hd, sn, sub, ab, col, del⟩ := cd
      dsimp only at hm hdel hdi
      subst hm hdel hdi
      have hsl : sl = #[k0, k1, k2, k3, some (.builtin "Exception.__new__"), k5] := by
        obtain ⟨l⟩ := sl
        simp only at hs
        rw [hs]
      subst hsl
      exact ⟨nm, qn, ns, bs, bm, sn, sub, ab, col, dd, k0, k1, k2, k3, k5, ho, hb⟩
    · cases q
  · cases q
/-- a def without defaults -/
def fnNone (K : PySem.W.Frag) (a : Addr) : Bool := match K.lookup a with
  | some ⟨_, _, .func fd, _⟩ => decide (fd.defaults = .none) && decide (fd.kwdefaults = .none)
  | _ => false
theorem fnNone_ok {K : PySem.W.Frag} {a : Addr} {oc : Value} {od : Option Addr} {fd : FuncData} {osl : Array (Option Value)} (lk : K.lookup a = some ⟨oc, od, .func fd, osl⟩) (q : fnNone K a = true) : fd.defaults = .none ∧ fd.kwdefaults = .none := by
  unfold fnNone at q
  rw [lk] at q
  simpa only [Bool.and_eq_true, decide_eq_true_eq] using q
def fltB (K : PySem.W.Frag) (C fI : Addr) : Bool := flt1 K C && He.eqO (PySem.W.findIn K (.ref C) "__setattr__") (some (some (.builtin "object.__setattr__"))) && He.eqO (PySem.W.findIn K (.ref C) "__getattribute__") (some (some (.builtin "BaseException.__getattribute__"))) &&
  He.eqO (PySem.W.findIn K (.ref C) "__getattr__") (some none) && He.eqO (PySem.W.findIn K (.ref C) "word") (some none) && He.eqO (PySem.W.findIn K (.ref C) "__init__") (some (some (.ref fI))) && decide (PySem.W.typeIn K (.ref fI) = some (.type "function")) &&
  PySem.W.keepIn K (.ref C) && decide (PySem.W.subIn K (.ref C) (.type "BaseException") = some true) && decide (PySem.W.typeIn K (.ref C) = some (.type "type")) && PySem.W.hasDictIn K C && decide (PySem.W.exmOne K (.ref C) (.ref C) = some true) && fnNone K fI
theorem flt_ok {K : PySem.W.Frag} {mg : Str → Option Value} {C fI : Addr} (g : mg "Fault" = some (.ref C)) (q : fltB K C fI = true)
    (fn : ∃ (oc : Value) (od : Option Addr) (doc pm : Value) (an : Option Addr) (cdv ct : Value) (osl : Array (Option Value)) (p1 p2 q1 q2 q3 q4 : Pos),
    K.lookup fI = some ⟨oc, od, .func (PySem.W.fnOf "__init__" "Fault.__init__" (PySem.FltX.iA p1 p2) (PySem.FltX.iB q1 q2 q3 q4) PySem.FltX.iS .none .none doc pm an cdv ct), osl⟩ ∧ PySem.W.codeIn K cdv "Fault.__init__" = true) : PySem.FltX.FltTxt K mg C fI := by
  unfold fltB at q
  simp only [Bool.and_eq_true, decide_eq_true_eq] at q
  obtain ⟨⟨⟨⟨⟨⟨⟨⟨⟨⟨⟨⟨a1, a2⟩, a3⟩, a4⟩, a5⟩, a6⟩, a7⟩, a8⟩, a9⟩, a10⟩, a11⟩, a12⟩, _⟩ := q
  exact { gC := g, cls := flt1_ok a1, sa := He.eqO_ok a2, ga := He.eqO_ok a3, gg := He.eqO_ok a4, noN := He.eqO_ok a5, iC := He.eqO_ok a6, tC := a7, kC := a8, exC := a9, tyC := a10, hdC := a11, te := a12, fn := fn }
theorem fltB_none {K : PySem.W.Frag} {C fI : Addr} (q : fltB K C fI = true) : fnNone K fI = true := by
  unfold fltB at q
  simp only [Bool.and_eq_true] at q
  exact q.2
/-- a fault's way out of a def -/
def Out (K : PySem.W.Frag) (H : Hp) (E : XK) (x : Str) : Prop := ∀ H' d, Same H H' → H d = none → H' d = some (.xd [("word", .str x)]) → E (.ref (He.ga K "Fault")) (some d) H'
def spNumIn (K : PySem.W.Frag) : Sp := fun vs H Q E => ∃ v a, vs = [v] ∧ PV H v a ∧ match a with
  | .num z => Q (.int z) H
  | .way _ => Out K H E "kind"
def spEndIn (K : PySem.W.Frag) : Sp := fun vs H Q E => ∃ v a, vs = [v] ∧ PV H v a ∧ match a with
  | .way f => Q (.int (f : Int)) H
  | .num _ => Out K H E "kind"
/-! ### the program's object of a run -/
structure PA where
  a : Addr
  dx : Addr
  bo : Addr
  sa : Addr
  ro : Addr
def runFs (x : PA) (told : V) (calls others : Int) : List (Str × V) := [("bodies", .ref x.bo), ("told", told), ("said", .ref x.sa), ("row", .ref x.ro), ("calls", .int calls), ("others", .int others)]
/-- the object, what was said, where the run went; the bodies' rows stand at bo -/
structure RunAt (K : PySem.W.Frag) (H : Hp) (x : PA) (pr : List (Int × W)) (told : V) (s : RS) (others : Int) : Prop where
  ob : H x.a = some (.ins (He.ga K "Run") x.dx (runFs x told (s.calls : Int) others))
  bo : ∃ bs : List Addr, H x.bo = some (.lst (bs.map V.ref)) ∧ Paired (BodyAt H) bs pr ∧ ∀ b ∈ bs, b ≠ x.sa ∧ b ≠ x.ro
  sa : H x.sa = some (.lst (s.said.map V.int))
  ro : H x.ro = some (.lst (nV s.row))
  nd : x.bo ≠ x.sa ∧ x.bo ≠ x.ro ∧ x.sa ≠ x.ro
def spRunInit (K : PySem.W.Frag) : Sp := fun vs H Q _ => ∃ (a dx : Addr) (v : V) (pr : List (Int × W)), vs = [.ref a, v] ∧ H a = some (.ins (He.ga K "Run") dx []) ∧ PrAt H v pr ∧ PrOk pr ∧
  ∀ H' x, (∀ b o, b ≠ a → H b = some o → H' b = some o) → x.a = a → x.dx = dx → H x.sa = none → H x.ro = none → RunAt K H' x pr .non ⟨[], 0, [], [], []⟩ 0 → Q .non H'
theorem putF_new {f : Str} {v : V} : ∀ {fs : List (Str × V)}, (fs.map (·.1)).contains f = false → putF f v fs = fs ++ [(f, v)]
  | [], _ => rfl
  | (g, x) :: r, h => by
    rw [List.map_cons, List.contains_cons, Bool.or_eq_false_iff] at h
    show (if g = f then (g, v) :: r else (g, x) :: putF f v r) = _
    have n : ¬ g = f := fun z => by
      have e := h.1
      rw [← z] at e
      exact absurd e (by simp)
    rw [if_neg n, putF_new h.2]
    rfl
theorem runFs_new {x : PA} : putF "others" (.int 0) (putF "calls" (.int 0) (putF "row" (.ref x.ro) (putF "said" (.ref x.sa) (putF "told" .non (putF "bodies" (.ref x.bo) []))))) = runFs x .non 0 0 := by
  rw [putF_new (f := "bodies") (fs := []) rfl]
  rw [putF_new (f := "told") (by show (["bodies"] : List Str).contains "told" = false; decide +kernel)]
  rw [putF_new (f := "said") (by show (["bodies", "told"] : List Str).contains "said" = false; decide +kernel)]
  rw [putF_new (f := "row") (by show (["bodies", "told", "said"] : List Str).contains "row" = false; decide +kernel)]
  rw [putF_new (f := "calls") (by show (["bodies", "told", "said", "row"] : List Str).contains "calls" = false; decide +kernel)]
  rw [putF_new (f := "others") (by show (["bodies", "told", "said", "row", "calls"] : List Str).contains "others" = false; decide +kernel)]
  rfl
/-- all but the run's object and its lists stays -/
def ButP (x : PA) (H H' : Hp) : Prop := ∀ b o, b ≠ x.a → b ≠ x.sa → b ≠ x.ro → H b = some o → H' b = some o
def spSay (K : PySem.W.Frag) : Sp := fun vs H Q E => ∃ (x : PA) (pr : List (Int × W)) (told v : V) (s : RS) (oth : Int) (a : Wt), vs = [.ref x.a, v] ∧ RunAt K H x pr told s oth ∧ PV H v a ∧ s.said.length ≤ most ∧ match a with
  | .num z => ∀ H', ButP x H H' → RunAt K H' x pr told { s with said := s.said ++ [z] } oth → Q v H'
  | .way _ => Out K H E "kind"
theorem BodyAt.updL {H : Hp} {p b : Addr} {f : Int × W} {xs ys : List V} (e : H p = some (.lst xs)) (n : b ≠ p) (h : BodyAt H b f) : BodyAt (upd H p (.lst ys)) b f := by
  obtain ⟨zs, h1, h2⟩ := h
  exact ⟨zs, by rw [upd_ne n]; exact h1, L2.Paired.mapP h2 fun _ _ z => z.keep (Keep.updL e)⟩
theorem RunAt.updS {K : PySem.W.Frag} {H : Hp} {x : PA} {pr : List (Int × W)} {told : V} {s : RS} {oth z : Int} (h : RunAt K H x pr told s oth) : RunAt K (upd H x.sa (.lst (s.said.map V.int ++ [.int z]))) x pr told { s with said := s.said ++ [z] } oth := by
  obtain ⟨h1, ⟨bs, h2, h3, h4⟩, h5, h6, n1, n2, n3⟩ := h
  exact ⟨by rw [upd_ne (ne_of h1 h5 (by intro z; cases z))]; exact h1, ⟨bs, by rw [upd_ne n1]; exact h2, PairedMem.map h3 fun b f hb z => z.updL h5 (h4 b hb).1, h4⟩, by rw [upd_same, List.map_append]; rfl, by rw [upd_ne n3.symm]; exact h6, n1, n2, n3⟩
theorem RunAt.updR {K : PySem.W.Frag} {H : Hp} {x : PA} {pr : List (Int × W)} {told : V} {s : RS} {oth : Int} {f : Nat} (h : RunAt K H x pr told s oth) : RunAt K (upd H x.ro (.lst (nV s.row ++ [.int (f : Int)]))) x pr told { s with row := s.row ++ [f] } oth := by
  obtain ⟨h1, ⟨bs, h2, h3, h4⟩, h5, h6, n1, n2, n3⟩ := h
  exact ⟨by rw [upd_ne (ne_of h1 h6 (by intro z; cases z))]; exact h1, ⟨bs, by rw [upd_ne n2]; exact h2, PairedMem.map h3 fun b f hb z => z.updL h6 (h4 b hb).2, h4⟩, by rw [upd_ne n3]; exact h5, by rw [upd_same, nV_app], n1, n2, n3⟩
end Ov
/-! ### halls as data -/
namespace Ov
open PySem PySem.Spec PyProof.Rows L2
abbrev Cnt := Nat × Nat
abbrev Lay := List (Nat × Cnt)
def Has (ly : List (Option Cnt)) (l : Lay) : Bool := l.all fun e => decide (ly[e.1]? = some (some e.2))
def brg (ly : List (Option Cnt)) (l : Lay) : List (Option Cnt) := l.foldl (fun ly e => ly.set e.1 (some e.2)) ly
theorem brg_snoc (ly : List (Option Cnt)) (l : Lay) (e : Nat × Cnt) : brg ly (l ++ [e]) = (brg ly l).set e.1 (some e.2) := by
  unfold brg
  rw [List.foldl_append]
  rfl
theorem brg_len : ∀ (l : Lay) (ly : List (Option Cnt)), (brg ly l).length = ly.length
  | [], _ => rfl
  | e :: l, ly => by
    show (brg (ly.set e.1 (some e.2)) l).length = _
    rw [brg_len l, List.length_set]
theorem brg_out : ∀ (l : Lay) (ly : List (Option Cnt)) (c : Nat), (∀ e ∈ l, e.1 ≠ c) → (brg ly l)[c]? = ly[c]?
  | [], _, _, _ => rfl
  | e :: l, ly, c, h => by
    show (brg (ly.set e.1 (some e.2)) l)[c]? = _
    rw [brg_out l _ c fun d hd => h d (List.mem_cons_of_mem _ hd), List.getElem?_set_ne (h e List.mem_cons_self)]
theorem brg_in : ∀ (l : Lay) (ly : List (Option Cnt)) (e : Nat × Cnt), (l.map (·.1)).Nodup → (∀ e ∈ l, e.1 < ly.length) → e ∈ l → (brg ly l)[e.1]? = some (some e.2)
  | [], _, _, _, _, h => nomatch h
  | d :: l, ly, e, nd, lt, h => by
    rw [List.map_cons, List.nodup_cons] at nd
    show (brg (ly.set d.1 (some d.2)) l)[e.1]? = _
    rcases List.mem_cons.mp h with rfl | h
    · rw [brg_out l _ e.1 fun z hz ez => nd.1 (List.mem_map.mpr ⟨z, hz, ez⟩), List.getElem?_set_self (lt e List.mem_cons_self)]
    · exact brg_in l _ e nd.2 (fun z hz => by rw [List.length_set]; exact lt z (List.mem_cons_of_mem _ hz)) h
def Apart (l m : Lay) : Prop := ∀ e ∈ l, ∀ d ∈ m, e.1 ≠ d.1
theorem Apart.symm {l m : Lay} (h : Apart l m) : Apart m l := fun e he d hd z => h d hd e he z.symm
theorem has_iff {ly : List (Option Cnt)} {l : Lay} : Has ly l = true ↔ ∀ e ∈ l, ly[e.1]? = some (some e.2) := by
  unfold Has
  rw [List.all_eq_true]
  exact ⟨fun h e he => of_decide_eq_true (h e he), fun h e he => decide_eq_true (h e he)⟩
theorem has_keep {ly : List (Option Cnt)} {l m : Lay} (a : Apart l m) (h : Has ly l = true) : Has (brg ly m) l = true := by
  rw [has_iff] at h ⊢
  intro e he
  rw [brg_out m ly e.1 fun d hd z => a e he d hd z.symm]
  exact h e he
theorem has_new {ly : List (Option Cnt)} {l : Lay} (nd : (l.map (·.1)).Nodup) (lt : ∀ e ∈ l, e.1 < ly.length) : Has (brg ly l) l = true := has_iff.mpr fun e he => brg_in l ly e nd lt he
def lyr (L : List Lay) (q : Nat) : Lay := L[q]?.getD []
/-- a hall's ways and layouts -/
structure HlOk (wy : List (List Nat)) (L : List Lay) (far : Nat) : Prop where
  nd : ∀ q, ((lyr L q).map (·.1)).Nodup
  lt : ∀ q, ∀ e ∈ lyr L q, e.1 < far
  ln : ∀ q, (lyr L q).length ≤ 64
  cnt : wy.length ≤ 8 ∧ L.length ≤ 8
  wl : ∀ w ∈ wy, w.length ≤ 8 ∧ ∀ q ∈ w, q < L.length
  ap : ∀ w ∈ wy, w.Pairwise fun q r => q ≠ r ∧ Apart (lyr L q) (lyr L r)
def mis (ly : List (Option Cnt)) (L : List Lay) (w : List Nat) : List Nat := w.filter fun q => !Has ly (lyr L q)
def brgs (ly : List (Option Cnt)) (L : List Lay) (ms : List Nat) : List (Option Cnt) := ms.foldl (fun ly q => brg ly (lyr L q)) ly
def siz (L : List Lay) (ms : List Nat) : Nat := (ms.map fun q => (lyr L q).length).sum
def thr (ly : List (Option Cnt)) (L : List Lay) (w : List Nat) : Bool := w.all fun q => Has ly (lyr L q)
theorem brgs_snoc (ly : List (Option Cnt)) (L : List Lay) (ms : List Nat) (q : Nat) : brgs ly L (ms ++ [q]) = brg (brgs ly L ms) (lyr L q) := by
  unfold brgs
  rw [List.foldl_append]
  rfl
theorem siz_snoc (L : List Lay) (ms : List Nat) (q : Nat) : siz L (ms ++ [q]) = siz L ms + (lyr L q).length := by
  unfold siz
  rw [List.map_append, List.sum_append]
  simp
theorem brgs_len (L : List Lay) : ∀ (ms : List Nat) (ly : List (Option Cnt)), (brgs ly L ms).length = ly.length
  | [], _ => rfl
  | q :: ms, ly => by
    show (brgs (brg ly (lyr L q)) L ms).length = _
    rw [brgs_len L ms, brg_len]
theorem brgs_out (L : List Lay) : ∀ (ms : List Nat) (ly : List (Option Cnt)) (c : Nat), (∀ q, ∀ e ∈ lyr L q, e.1 ≠ c) → (brgs ly L ms)[c]? = ly[c]?
  | [], _, _, _ => rfl
  | q :: ms, ly, c, h => by
    show (brgs (brg ly (lyr L q)) L ms)[c]? = _
    rw [brgs_out L ms _ c h, brg_out _ _ _ (h q)]
theorem brgs_keep {L : List Lay} {q : Nat} : ∀ (ms : List Nat) (ly : List (Option Cnt)), (∀ r ∈ ms, Apart (lyr L q) (lyr L r)) → Has ly (lyr L q) = true → Has (brgs ly L ms) (lyr L q) = true
  | [], _, _, h => h
  | r :: ms, ly, a, h => brgs_keep ms _ (fun r hr => a r (List.mem_cons_of_mem _ hr)) (has_keep (a r List.mem_cons_self) h)
theorem brgs_in {wy : List (List Nat)} {L : List Lay} {far : Nat} (ok : HlOk wy L far) {q : Nat} : ∀ (ms : List Nat) (ly : List (Option Cnt)), far ≤ ly.length → (ms.Pairwise fun q r => q ≠ r ∧ Apart (lyr L q) (lyr L r)) → q ∈ ms → Has (brgs ly L ms) (lyr L q) = true
  | [], _, _, _, h => nomatch h
  | r :: ms, ly, lf, pw, h => by
    rw [List.pairwise_cons] at pw
    rcases List.mem_cons.mp h with rfl | h
    · exact brgs_keep ms _ (fun r hr => (pw.1 r hr).2) (has_new (ok.nd _) fun e he => Nat.lt_of_lt_of_le (ok.lt _ e he) lf)
    · exact brgs_in ok ms _ (by rw [brg_len]; exact lf) pw.2 h
theorem pair_ne {R : Nat → Nat → Prop} (sy : ∀ a b, R a b → R b a) {w : List Nat} (pw : w.Pairwise R) {q r : Nat} (hq : q ∈ w) (hr : r ∈ w) (ne : q ≠ r) : R q r := by
  obtain ⟨i, hi⟩ := List.mem_iff_getElem?.mp hq
  obtain ⟨j, hj⟩ := List.mem_iff_getElem?.mp hr
  obtain ⟨li, ei⟩ := List.getElem?_eq_some_iff.mp hi
  obtain ⟨lj, ej⟩ := List.getElem?_eq_some_iff.mp hj
  rcases Nat.lt_trichotomy i j with lt | eq | gt
  · have z := List.pairwise_iff_getElem.mp pw i j li lj lt
    rw [ei, ej] at z
    exact z
  · subst eq
    exact absurd (ei.symm.trans ej) ne
  · have z := List.pairwise_iff_getElem.mp pw j i lj li gt
    rw [ei, ej] at z
    exact sy _ _ z
/-- behind a look all of the way down is there -/
theorem look_has {wy : List (List Nat)} {L : List Lay} {far : Nat} (ok : HlOk wy L far) {w : List Nat} (hw : w ∈ wy) {ly : List (Option Cnt)} (lf : far ≤ ly.length) {q : Nat} (hq : q ∈ w) : Has (brgs ly L (mis ly L w)) (lyr L q) = true := by
  have pw := ok.ap w hw
  by_cases h : Has ly (lyr L q) = true
  · refine brgs_keep _ _ (fun r hr => ?_) h
    unfold mis at hr
    rw [List.mem_filter] at hr
    have ne : q ≠ r := fun z => by
      rw [← z, h] at hr
      cases hr.2
    exact (pair_ne (R := fun q r => q ≠ r ∧ Apart (lyr L q) (lyr L r)) (fun a b z => ⟨z.1.symm, z.2.symm⟩) pw hq hr.1 ne).2
  · refine brgs_in ok _ _ lf (pw.filter _) ?_
    unfold mis
    rw [List.mem_filter]
    refine ⟨hq, ?_⟩
    cases e : Has ly (lyr L q) with
    | true => exact absurd e h
    | false => rfl
theorem mis_nil {ly : List (Option Cnt)} {L : List Lay} {w : List Nat} (h : ∀ q ∈ w, Has ly (lyr L q) = true) : mis ly L w = [] := by
  unfold mis
  rw [List.filter_eq_nil_iff]
  intro q hq z
  rw [h q hq] at z
  cases z
theorem thr_iff {ly : List (Option Cnt)} {L : List Lay} {w : List Nat} : thr ly L w = true ↔ ∀ q ∈ w, Has ly (lyr L q) = true := by
  unfold thr
  exact List.all_eq_true
/-! ### the layouts and ways of a tree -/
def layP (pr : List (Int × W)) (cs : List Int) (p : List Nat) : Lay := p.flatMap fun f => (List.range (fsz pr f).toNat).map fun n => ((cs[f]?.getD 0).toNat + n, (f, n))
theorem layP_snoc {pr : List (Int × W)} {cs : List Int} {p : List Nat} {f : Nat} : layP pr cs (p ++ [f]) = layP pr cs p ++ (List.range (fsz pr f).toNat).map fun n => ((cs[f]?.getD 0).toNat + n, (f, n)) := by
  unfold layP
  rw [List.flatMap_append]
  simp
theorem range_plus (a b : Nat) : List.range (a + b) = List.range a ++ (List.range b).map (a + ·) := by
  induction b with
  | zero => simp
  | succ b ih => rw [← Nat.add_assoc, List.range_succ, ih, List.range_succ, List.map_append, List.append_assoc]; rfl
theorem fsz_pos {pr : List (Int × W)} (ok : PrOk pr) {f : Nat} (h : f < pr.length) : 1 ≤ fsz pr f ∧ fsz pr f ≤ 8 := by
  unfold fsz
  rw [List.getElem?_eq_getElem h]
  have z := ok.f _ (List.getElem_mem h)
  exact ⟨z.1, z.2.1⟩
theorem psz_nn {pr : List (Int × W)} (ok : PrOk pr) : ∀ {p : List Nat}, (∀ x ∈ p, x < pr.length) → (p.length : Int) ≤ psz pr p ∧ psz pr p ≤ 8 * p.length
  | [], _ => ⟨Int.le_refl _, Int.le_refl _⟩
  | f :: p, h => by
    have z := psz_nn ok (p := p) fun x hx => h x (List.mem_cons_of_mem _ hx)
    have y := fsz_pos ok (h f List.mem_cons_self)
    have e : psz pr (f :: p) = fsz pr f + psz pr p := rfl
    rw [e, List.length_cons]
    omega
theorem bgn_nn {pr : List (Int × W)} (ok : PrOk pr) {ps : List (List Nat)} (hp : PInv pr.length ps) {dn : Nat → List Nat} {i : Nat} : 0 ≤ bgn pr ps dn i := by
  unfold bgn
  induction dn i with
  | nil => exact Int.le_refl _
  | cons y l ih =>
    rw [List.map_cons, List.sum_cons]
    have z : 0 ≤ psz pr (ps[y]?.getD []) := by
      cases e : ps[y]? with
      | none => exact Int.le_refl _
      | some p =>
        have := (psz_nn ok (p := p) fun x hx => hp.lt (List.mem_of_getElem? e) hx).1
        show 0 ≤ psz pr p
        omega
    omega
theorem lay_cells {pr : List (Int × W)} (ok : PrOk pr) {ps : List (List Nat)} (hp : PInv pr.length ps) {dn : Nat → List Nat} {cs : List Int} (hc : Cells pr ps dn cs) {i : Nat} {p : List Nat} (e : ps[i]? = some p) :
    ∀ j, j ≤ p.length → (layP pr cs (p.take j)).map (·.1) = (List.range (psz pr (p.take j)).toNat).map fun k => (bgn pr ps dn i).toNat + k
  | 0, _ => rfl
  | j + 1, hj => by
    have ih := lay_cells ok hp hc e j (by omega)
    have ef : p[j]? = some p[j] := List.getElem?_eq_getElem (by omega)
    have hf := hp.lt (List.mem_of_getElem? e) (List.mem_of_getElem? ef)
    have b0 := bgn_nn ok hp (dn := dn) (i := i)
    have p0 := (psz_nn ok (p := p.take j) fun x hx => hp.lt (List.mem_of_getElem? e) (List.mem_of_mem_take hx)).1
    have f0 := fsz_pos ok hf
    rw [List.take_add_one, ef]
    show (layP pr cs (p.take j ++ [p[j]])).map (·.1) = (List.range (psz pr (p.take j ++ [p[j]])).toNat).map _
    rw [layP_snoc, psz_snoc, List.map_append, ih, Int.toNat_add (by omega) (by omega), range_plus, List.map_append, List.map_map, List.map_map]
    congr 1
    refine List.map_congr_left fun n _ => ?_
    show ((cs[p[j]]?.getD 0).toNat + n) = (bgn pr ps dn i).toNat + ((psz pr (p.take j)).toNat + n)
    rw [hc.2 i p j _ e ef]
    show (bgn pr ps dn i + psz pr (p.take j)).toNat + n = _
    rw [Int.toNat_add b0 (by omega)]
    omega
/-- the part of a function -/
def prt (ps : List (List Nat)) (f : Nat) : Nat := ps.findIdx fun p => decide (f ∈ p)
theorem prt_eq {n : Nat} {ps : List (List Nat)} (h : PInv n ps) {f i : Nat} {p : List Nat} (e : ps[i]? = some p) (hf : f ∈ p) : prt ps f = i := by
  have ex : ∃ x ∈ ps, decide (f ∈ x) = true := ⟨p, List.mem_of_getElem? e, decide_eq_true hf⟩
  have lt := List.findIdx_lt_length.mpr ex
  have hm : decide (f ∈ ps[ps.findIdx fun p => decide (f ∈ p)]) = true := List.findIdx_getElem (w := lt)
  obtain ⟨j, hj⟩ := List.mem_iff_getElem?.mp (of_decide_eq_true hm)
  obtain ⟨j', hj'⟩ := List.mem_iff_getElem?.mp hf
  exact (h.uniq (List.getElem?_eq_getElem lt) hj e hj').1
def wayF (ps : List (List Nat)) (dn : Nat → List Nat) (f : Nat) : List Nat := dn (prt ps f) ++ [prt ps f]
def waysF (n : Nat) (ps : List (List Nat)) (dn : Nat → List Nat) : List (List Nat) := (List.range n).map (wayF ps dn)
def laysF (pr : List (Int × W)) (cs : List Int) (ps : List (List Nat)) : List Lay := ps.map (layP pr cs)
theorem Dn.clos {n : Nat} {ps : List (List Nat)} {st : List Int} {dn : Nat → List Nat} (hd : Dn n ps st dn) : ∀ {x : Nat} {l : List Nat}, Down st x l → (∀ q ∈ l, q < ps.length) → ∀ q ∈ l, ∀ r ∈ dn q, r ∈ l := by
  intro x l h
  induction h with
  | base _ => exact fun _ q hq => nomatch hq
  | @step x y l e h2 ih =>
    intro hl q hq r hr
    rcases List.mem_append.mp hq with hq | hq
    · exact List.mem_append_left _ (ih (fun q hq => hl q (List.mem_append_left _ hq)) q hq r hr)
    · obtain rfl := List.mem_singleton.mp hq
      have hy := hl q (List.mem_append_right _ hq)
      rw [(hd.down q hy).uniq h2] at hr
      exact List.mem_append_left _ hr
/-- who lies on a way has its way on it -/
theorem Dn.sub {n : Nat} {ps : List (List Nat)} {st : List Int} {dn : Nat → List Nat} (hd : Dn n ps st dn) {i q : Nat} (hi : i < ps.length) (hq : q ∈ dn i ++ [i]) {r : Nat} (hr : r ∈ dn q ++ [q]) : r ∈ dn i ++ [i] := by
  rcases List.mem_append.mp hr with hr | hr
  · rcases List.mem_append.mp hq with hq | hq
    · exact List.mem_append_left _ (hd.clos (hd.down i hi) (hd.lt i hi) q hq r hr)
    · obtain rfl := List.mem_singleton.mp hq
      exact List.mem_append_left _ hr
  · obtain rfl := List.mem_singleton.mp hr
    exact hq
theorem Dn.order {pr : List (Int × W)} (ok : PrOk pr) {ps : List (List Nat)} (hp : PInv pr.length ps) {st : List Int} {dn : Nat → List Nat} (hd : Dn pr.length ps st dn) : ∀ {x : Nat} {l : List Nat}, Down st x l → x < ps.length → (∀ q ∈ l, q < ps.length) →
    (l ++ [x]).Pairwise fun q r => bgn pr ps dn q + psz pr (ps[q]?.getD []) ≤ bgn pr ps dn r := by
  intro x l h
  induction h with
  | base _ => exact fun _ _ => List.pairwise_singleton _ _
  | @step x y l e h2 ih =>
    intro hx hl
    have hy := hl y (List.mem_append_right _ (List.mem_singleton.mpr rfl))
    have z := ih hy fun q hq => hl q (List.mem_append_left _ hq)
    have ex : bgn pr ps dn x = bgn pr ps dn y + psz pr (ps[y]?.getD []) := by
      have e1 := (hd.down x hx).uniq (.step e h2)
      have e2 := (hd.down y hy).uniq h2
      unfold bgn
      rw [e1, e2, List.map_append, List.sum_append]
      simp
    have y0 : 0 ≤ psz pr (ps[y]?.getD []) := by
      rw [List.getElem?_eq_getElem hy]
      have := (psz_nn ok (p := ps[y]) fun x hx => hp.lt (List.getElem_mem hy) hx).1
      show 0 ≤ psz pr ps[y]
      omega
    rw [List.pairwise_append] at z ⊢
    refine ⟨?_, List.pairwise_singleton _ _, fun q hq r hr => ?_⟩
    · rw [List.pairwise_append]
      exact z
    · obtain rfl := List.mem_singleton.mp hr
      rw [ex]
      rcases List.mem_append.mp hq with hq | hq
      · have := z.2.2 q hq y (List.mem_singleton.mpr rfl)
        omega
      · obtain rfl := List.mem_singleton.mp hq
        exact Int.le_refl _
theorem lyr_lays {pr : List (Int × W)} {cs : List Int} {ps : List (List Nat)} {q : Nat} : lyr (laysF pr cs ps) q = layP pr cs (ps[q]?.getD []) := by
  unfold lyr laysF
  rw [List.getElem?_map]
  cases ps[q]? <;> rfl
theorem lay_pos {pr : List (Int × W)} (ok : PrOk pr) {ps : List (List Nat)} (hp : PInv pr.length ps) {dn : Nat → List Nat} {cs : List Int} (hc : Cells pr ps dn cs) {q : Nat} : (lyr (laysF pr cs ps) q).map (·.1) = (List.range (psz pr (ps[q]?.getD [])).toNat).map fun k => (bgn pr ps dn q).toNat + k := by
  rw [lyr_lays]
  cases e : ps[q]? with
  | none => rfl
  | some p =>
    have z := lay_cells ok hp hc e p.length (Nat.le_refl _)
    rw [List.take_length] at z
    exact z
theorem lay_len {pr : List (Int × W)} (ok : PrOk pr) {ps : List (List Nat)} (hp : PInv pr.length ps) {dn : Nat → List Nat} {cs : List Int} (hc : Cells pr ps dn cs) {q : Nat} : ((lyr (laysF pr cs ps) q).length : Int) = psz pr (ps[q]?.getD []) := by
  have z := congrArg List.length (lay_pos ok hp hc (q := q))
  rw [List.length_map, List.length_map, List.length_range] at z
  have p0 : 0 ≤ psz pr (ps[q]?.getD []) := by
    cases e : ps[q]? with
    | none => exact Int.le_refl _
    | some p =>
      have := (psz_nn ok (p := p) fun x hx => hp.lt (List.mem_of_getElem? e) hx).1
      show 0 ≤ psz pr p
      omega
  omega
theorem hall_ok {pr : List (Int × W)} (ok : PrOk pr) {ps : List (List Nat)} {st : List Int} (ht : TrOk pr.length ps st) {dn : Nat → List Nat} (hd : Dn pr.length ps st dn) {cs : List Int} (hc : Cells pr ps dn cs) {m : Int} (hm : Far pr ps dn m) : HlOk (waysF pr.length ps dn) (laysF pr cs ps) m.toNat := by
  have hp := ht.p
  have pos : ∀ q e, e ∈ lyr (laysF pr cs ps) q → (bgn pr ps dn q).toNat ≤ e.1 ∧ (e.1 : Int) < bgn pr ps dn q + psz pr (ps[q]?.getD []) := fun q e he => by
    have h1 := List.mem_map_of_mem (f := fun x : Nat × Cnt => x.1) he
    rw [lay_pos ok hp hc] at h1
    obtain ⟨k, hk, ek⟩ := List.mem_map.mp h1
    have hk := List.mem_range.mp hk
    have b0 := bgn_nn ok hp (dn := dn) (i := q)
    have ek : (bgn pr ps dn q).toNat + k = e.1 := ek
    omega
  have pne : ∀ q, q < ps.length → 1 ≤ psz pr (ps[q]?.getD []) ∧ psz pr (ps[q]?.getD []) ≤ 64 := fun q hq => by
    rw [List.getElem?_eq_getElem hq]
    have h1 := psz_nn ok (p := ps[q]) fun x hx => hp.lt (List.getElem_mem hq) hx
    have h2 := List.length_pos_iff.mpr (hp.ne _ (List.getElem_mem hq))
    have h3 := hp.plen (List.getElem_mem hq)
    have h4 := ok.l8
    show 1 ≤ psz pr ps[q] ∧ psz pr ps[q] ≤ 64
    omega
  have hw : ∀ w ∈ waysF pr.length ps dn, ∃ i, i < ps.length ∧ w = dn i ++ [i] := fun w hw => by
    obtain ⟨f, hf, rfl⟩ := List.mem_map.mp hw
    obtain ⟨i, p, j, e1, e2⟩ := hp.stands (List.mem_range.mp hf)
    refine ⟨i, (List.getElem?_eq_some_iff.mp e1).1, ?_⟩
    unfold wayF
    rw [prt_eq hp e1 (List.mem_of_getElem? e2)]
  have l8 := ok.l8
  have pc := hp.count
  refine ⟨fun q => ?_, fun q e he => ?_, fun q => ?_, ⟨?_, ?_⟩, fun w h => ?_, fun w h => ?_⟩
  · rw [lay_pos ok hp hc]
    refine List.Pairwise.map _ (fun a b h z => h (by omega)) List.nodup_range
  · have h1 := pos q e he
    have hq : q < ps.length := by
      refine Nat.lt_of_not_le fun z => ?_
      rw [lyr_lays, List.getElem?_eq_none z] at he
      exact nomatch he
    have h2 := hm.2 q ps[q] (List.getElem?_eq_getElem hq)
    rw [List.getElem?_eq_getElem hq] at h1
    have h3 : (e.1 : Int) < bgn pr ps dn q + psz pr ps[q] := h1.2
    omega
  · have h1 := lay_len ok hp hc (q := q)
    by_cases hq : q < ps.length
    · have := pne q hq
      omega
    · rw [lyr_lays, List.getElem?_eq_none (by omega)]
      exact Nat.zero_le _
  · unfold waysF
    rw [List.length_map, List.length_range]
    exact l8
  · unfold laysF
    rw [List.length_map]
    omega
  · obtain ⟨i, hi, rfl⟩ := hw w h
    have h1 := hd.len i hi
    refine ⟨by rw [List.length_append, List.length_singleton]; omega, fun q hq => ?_⟩
    unfold laysF
    rw [List.length_map]
    rcases List.mem_append.mp hq with hq | hq
    · exact hd.lt i hi q hq
    · obtain rfl := List.mem_singleton.mp hq
      exact hi
  · obtain ⟨i, hi, rfl⟩ := hw w h
    refine List.Pairwise.imp_of_mem (fun {q r} hq hr z => ?_) (hd.order ok hp (hd.down i hi) hi (hd.lt i hi))
    have hq' : q < ps.length := by
      rcases List.mem_append.mp hq with hq | hq
      · exact hd.lt i hi q hq
      · obtain rfl := List.mem_singleton.mp hq
        exact hi
    have h1 := pne q hq'
    have b0 := bgn_nn ok hp (dn := dn) (i := q)
    have b1 := bgn_nn ok hp (dn := dn) (i := r)
    refine ⟨fun e => ?_, fun e he d hd' ed => ?_⟩
    · subst e
      omega
    · have h2 := pos q e he
      have h3 := pos r d hd'
      omega
end Ov
/-! ### a hall at a heap -/
namespace Ov
open PySem PySem.Spec PyProof.Rows L2
structure HA where
  a : Addr
  dx : Addr
  wy : Addr
  lo : Addr
  ly : Addr
def hallFs (x : HA) (mv : Int) : List (Str × V) := [("ways", .ref x.wy), ("layouts", .ref x.lo), ("lying", .ref x.ly), ("moved", .int mv)]
def CntAt (H : Hp) (v : V) (c : Cnt) : Prop := ∃ u, v = .ref u ∧ H u = some (.tup [.int (c.1 : Int), .int (c.2 : Int)])
theorem CntAt.keep {H H' : Hp} (k : Keep H H') {v : V} {c : Cnt} : CntAt H v c → CntAt H' v c := fun ⟨u, e, h⟩ => ⟨u, e, k _ _ h⟩
def CellAt (H : Hp) : V → Option Cnt → Prop
  | v, none => v = .non
  | v, some c => CntAt H v c
theorem CellAt.keep {H H' : Hp} (k : Keep H H') : ∀ {v : V} {c : Option Cnt}, CellAt H v c → CellAt H' v c
  | _, none, h => h
  | _, some _, h => CntAt.keep k h
def EntL (H : Hp) (v : V) (e : Nat × Cnt) : Prop := ∃ t u, v = .ref t ∧ H t = some (.tup [.int (e.1 : Int), u]) ∧ CntAt H u e.2
theorem EntL.keep {H H' : Hp} (k : Keep H H') {v : V} {e : Nat × Cnt} : EntL H v e → EntL H' v e := fun ⟨t, u, e1, h, c⟩ => ⟨t, u, e1, k _ _ h, c.keep k⟩
def LayAt (H : Hp) (b : Addr) (l : Lay) : Prop := ∃ vs, H b = some (.lst vs) ∧ Paired (EntL H) vs l
structure HallAt (K : PySem.W.Frag) (H0 H : Hp) (x : HA) (wys : List (List Nat)) (L : List Lay) (lc : List (Option Cnt)) (mv : Int) : Prop where
  ob : H x.a = some (.ins (He.ga K "Hall") x.dx (hallFs x mv))
  wy : ∃ ws : List Addr, H x.wy = some (.lst (ws.map V.ref)) ∧ Paired (fun b w => H b = some (.lst (nV w)) ∧ H0 b = none ∧ b ≠ x.ly) ws wys
  lo : ∃ ls : List Addr, H x.lo = some (.lst (ls.map V.ref)) ∧ Paired (fun b l => LayAt H b l ∧ H0 b = none ∧ b ≠ x.ly) ls L
  ly : ∃ vs, H x.ly = some (.lst vs) ∧ Paired (CellAt H) vs lc
  fa : H0 x.a = none
  fw : H0 x.wy = none ∧ x.wy ≠ x.ly
  fl : H0 x.lo = none ∧ x.lo ≠ x.ly
  fy : H0 x.ly = none
theorem paired_set {α β : Type} {R : α → β → Prop} {x : α} {y : β} : ∀ {l : List α} {m : List β}, Paired R l m → R x y → ∀ k : Nat, Paired R (l.set k x) (m.set k y)
  | _, _, .nil, _, _ => .nil
  | _, _, .cons _ r, h, 0 => .cons h r
  | _, _, .cons h1 r, h, k + 1 => .cons h1 (paired_set r h k)
section
variable {K : PySem.W.Frag} {H0 H H' H1 : Hp} {x : HA} {wys : List (List Nat)} {L : List Lay} {lc : List (Option Cnt)} {mv : Int}
theorem HallAt.keepF (h : HallAt K H0 H x wys L lc mv) (k : ∀ b o, H0 b = none → H b = some o → H' b = some o) (kt : Keep H H') : HallAt K H0 H' x wys L lc mv := by
  obtain ⟨h1, ⟨ws, h2, h3⟩, ⟨ls, h4, h5⟩, ⟨vs, h6, h7⟩, f1, f2, f3, f4⟩ := h
  exact ⟨k _ _ f1 h1, ⟨ws, k _ _ f2.1 h2, L2.Paired.mapP h3 fun b w z => ⟨k _ _ z.2.1 z.1, z.2⟩⟩, ⟨ls, k _ _ f3.1 h4, L2.Paired.mapP h5 fun b l z => by
    obtain ⟨⟨us, z1, z2⟩, z3⟩ := z
    exact ⟨⟨us, k _ _ z3.1 z1, L2.Paired.mapP z2 fun _ _ y => y.keep kt⟩, z3⟩⟩, ⟨vs, k _ _ f4 h6, L2.Paired.mapP h7 fun _ _ y => y.keep kt⟩, f1, f2, f3, f4⟩
theorem HallAt.same (h : HallAt K H0 H x wys L lc mv) (s : Same H H') : HallAt K H0 H' x wys L lc mv := h.keepF (fun b o _ e => s _ _ e) (Keep.same s)
theorem HallAt.but {p c : Addr} (h : HallAt K H0 H x wys L lc mv) (d0 : Dr H0 p c) (d : Dr H p c) (b : But p c H H') : HallAt K H0 H' x wys L lc mv := h.keepF (fun a o n e => b a o (fun z => by
    obtain ⟨m, k, ns, h1, h2, _⟩ := d0
    rw [z, h1] at n
    cases n) (fun z => by
    obtain ⟨m, k, ns, h1, h2, _⟩ := d0
    rw [z, h2] at n
    cases n) e) (Keep.but b d)
/-- all but the hall stays -/
def ButHl (x : HA) (H H' : Hp) : Prop := ∀ b o, b ≠ x.a → b ≠ x.ly → H b = some o → H' b = some o
theorem ButHl.refl : ButHl x H H := fun _ _ _ _ e => e
theorem ButHl.trans (p : ButHl x H H1) (q : ButHl x H1 H') : ButHl x H H' := fun b o n1 n2 e => q b o n1 n2 (p b o n1 n2 e)
theorem ButHl.same (s : Same H H') : ButHl x H H' := fun b o _ _ e => s b o e
theorem ButHl.keep (h : HallAt K H0 H x wys L lc mv) (b : ButHl x H H') : Keep H H' := fun a xs e => by
  obtain ⟨vs, h6, _⟩ := h.ly
  exact b a _ (ne_of e h.ob (by intro z; cases z)) (ne_of e h6 (by intro z; cases z)) e
theorem ButHl.s0 (h : HallAt K H0 H x wys L lc mv) (s : Same H0 H) (b : ButHl x H H') : Same H0 H' := fun a o e => b a o (ne_of_none e h.fa) (ne_of_none e h.fy) (s a o e)
theorem HallAt.setc (h : HallAt K H0 H x wys L lc mv) {vs : List V} (hl : H x.ly = some (.lst vs)) {v : V} {c : Cnt} (hv : CntAt H v c) (k : Nat) : HallAt K H0 (upd H x.ly (.lst (vs.set k v))) x wys L (lc.set k (some c)) mv ∧ ButHl x H (upd H x.ly (.lst (vs.set k v))) := by
  have kt := Keep.updL (ys := vs.set k v) hl
  obtain ⟨h1, ⟨ws, h2, h3⟩, ⟨ls, h4, h5⟩, ⟨us, h6, h7⟩, f1, f2, f3, f4⟩ := h
  obtain rfl : us = vs := by
    have z := h6.symm.trans hl
    cases z
    rfl
  refine ⟨⟨by rw [upd_ne (ne_of h1 hl (by intro z; cases z))]; exact h1, ⟨ws, by rw [upd_ne f2.2]; exact h2, L2.Paired.mapP h3 fun b w z => ⟨by rw [upd_ne z.2.2]; exact z.1, z.2⟩⟩, ⟨ls, by rw [upd_ne f3.2]; exact h4, L2.Paired.mapP h5 fun b l z => ?_⟩, ⟨us.set k v, upd_same, ?_⟩, f1, f2, f3, f4⟩, fun b o _ n e => by rw [upd_ne n]; exact e⟩
  · obtain ⟨⟨us', z1, z2⟩, z3⟩ := z
    exact ⟨⟨us', by rw [upd_ne z3.2]; exact z1, L2.Paired.mapP z2 fun _ _ y => y.keep kt⟩, z3⟩
  · have h8 := L2.Paired.mapP h7 fun _ _ y => CellAt.keep kt y
    exact paired_set h8 (show CellAt _ v (some c) from hv.keep kt) k
theorem hall_mv {m : Int} : putF "moved" (.int m) (hallFs x mv) = hallFs x m := by rfl
theorem HallAt.mvd (h : HallAt K H0 H x wys L lc mv) (m : Int) : HallAt K H0 (upd H x.a (.ins (He.ga K "Hall") x.dx (putF "moved" (.int m) (hallFs x mv)))) x wys L lc m ∧ ButHl x H (upd H x.a (.ins (He.ga K "Hall") x.dx (putF "moved" (.int m) (hallFs x mv)))) := by
  rw [hall_mv]
  obtain ⟨h1, ⟨ws, h2, h3⟩, ⟨ls, h4, h5⟩, ⟨us, h6, h7⟩, f1, f2, f3, f4⟩ := h
  have ne : ∀ {b : Addr} {l : List V}, H b = some (.lst l) → b ≠ x.a := fun e => ne_of e h1 (by intro z; cases z)
  have kt : Keep H (upd H x.a (.ins (He.ga K "Hall") x.dx (hallFs x m))) := fun b xs e => by
    rw [upd_ne (ne_of e h1 (by intro z; cases z))]
    exact e
  exact ⟨⟨upd_same, ⟨ws, by rw [upd_ne (ne h2)]; exact h2, L2.Paired.mapP h3 fun b w z => ⟨by rw [upd_ne (ne z.1)]; exact z.1, z.2⟩⟩, ⟨ls, by rw [upd_ne (ne h4)]; exact h4, L2.Paired.mapP h5 fun b l z => by
    obtain ⟨⟨us', z1, z2⟩, z3⟩ := z
    exact ⟨⟨us', by rw [upd_ne (ne z1)]; exact z1, L2.Paired.mapP z2 fun _ _ y => y.keep kt⟩, z3⟩⟩, ⟨us, by rw [upd_ne (ne h6)]; exact h6, L2.Paired.mapP h7 fun _ _ y => CellAt.keep kt y⟩, f1, f2, f3, f4⟩, fun b o n _ e => by rw [upd_ne n]; exact e⟩
end
/-- all is as it must be: the hall's own heap, its ways and layouts, as many cells -/
structure HallIn (K : PySem.W.Frag) (H0 H : Hp) (x : HA) (wys : List (List Nat)) (L : List Lay) (lc : List (Option Cnt)) (mv : Int) (far : Nat) : Prop where
  at_ : HallAt K H0 H x wys L lc mv
  ok : HlOk wys L far
  le : far ≤ lc.length ∧ lc.length ≤ 64
def spCheckRoom : Sp := fun vs H Q _ => ∃ r : Int, vs = [.int r] ∧ 1 ≤ r ∧ r ≤ 64 ∧ Q .non H
def spLayouts : Sp := fun vs H Q _ => ∃ v t pr ps st dn, vs = [v, t] ∧ preT H v t pr ps st ∧ Dn pr.length ps st dn ∧ ∀ H' p ls cs, Same H H' → H p = none → H' p = some (.lst (ls.map V.ref)) → Cells pr ps dn cs → Paired (fun b l => LayAt H' b l ∧ H b = none) ls (laysF pr cs ps) → Q (.ref p) H'
def spHallInit (K : PySem.W.Frag) : Sp := fun vs H Q _ => ∃ (H0 : Hp) (a dx : Addr) (v t : V) (pr : List (Int × W)) (ps : List (List Nat)) (st : List Int) (dn : Nat → List Nat) (far : Int) (room : Nat), vs = [.ref a, v, t, .int (room : Int)] ∧ H a = some (.ins (He.ga K "Hall") dx []) ∧ H0 a = none ∧ (∀ b, H b = none → H0 b = none) ∧ preT H v t pr ps st ∧ Dn pr.length ps st dn ∧ Far pr ps dn far ∧ far ≤ (room : Int) ∧ room ≤ 64 ∧
  ∀ H' x cs, (∀ b o, b ≠ a → H b = some o → H' b = some o) → x.a = a → x.dx = dx → Cells pr ps dn cs → HallIn K H0 H' x (waysF pr.length ps dn) (laysF pr cs ps) (List.replicate room none) 0 far.toNat → Q .non H'
def spHasPart (K : PySem.W.Frag) : Sp := fun vs H Q _ => ∃ (H0 : Hp) (x : HA) (wys : List (List Nat)) (L : List Lay) (lc : List (Option Cnt)) (mv : Int) (far : Nat) (q : Nat), vs = [.ref x.a, .int (q : Int)] ∧ HallIn K H0 H x wys L lc mv far ∧ q < L.length ∧ ∀ H', Same H H' → Q (.bl (Has lc (lyr L q))) H'
def spBring (K : PySem.W.Frag) : Sp := fun vs H Q _ => ∃ (H0 : Hp) (x : HA) (wys : List (List Nat)) (L : List Lay) (lc : List (Option Cnt)) (mv : Int) (far : Nat) (q : Nat), vs = [.ref x.a, .int (q : Int)] ∧ HallIn K H0 H x wys L lc mv far ∧ q < L.length ∧ ∀ H', ButHl x H H' → HallIn K H0 H' x wys L (brg lc (lyr L q)) (mv + ((lyr L q).length : Nat)) far → Q .non H'
def spLook (K : PySem.W.Frag) : Sp := fun vs H Q _ => ∃ (H0 : Hp) (x : HA) (wys : List (List Nat)) (L : List Lay) (lc : List (Option Cnt)) (mv : Int) (far : Nat) (f : Nat) (w : List Nat), vs = [.ref x.a, .int (f : Int)] ∧ HallIn K H0 H x wys L lc mv far ∧ wys[f]? = some w ∧
  ∀ H' r, ButHl x H H' → H r = none → r ≠ x.ly → H' r = some (.lst (nV (mis lc L w))) → HallIn K H0 H' x wys L (brgs lc L (mis lc L w)) (mv + (siz L (mis lc L w) : Nat)) far → Q (.ref r) H'
def spThere (K : PySem.W.Frag) : Sp := fun vs H Q _ => ∃ (H0 : Hp) (x : HA) (wys : List (List Nat)) (L : List Lay) (lc : List (Option Cnt)) (mv : Int) (far : Nat) (f : Nat) (w : List Nat), vs = [.ref x.a, .int (f : Int)] ∧ HallIn K H0 H x wys L lc mv far ∧ wys[f]? = some w ∧ ∀ H', Same H H' → Q (.bl (thr lc L w)) H'
def spCells (K : PySem.W.Frag) : Sp := fun vs H Q _ => ∃ (H0 : Hp) (x : HA) (wys : List (List Nat)) (L : List Lay) (lc : List (Option Cnt)) (mv : Int) (far : Nat), vs = [.ref x.a] ∧ HallIn K H0 H x wys L lc mv far ∧ ∀ H' r us, Same H H' → H r = none → H' r = some (.lst us) → Paired (CellAt H') us lc → Q (.ref r) H'
def spBrought (K : PySem.W.Frag) : Sp := fun vs H Q _ => ∃ (H0 : Hp) (x : HA) (wys : List (List Nat)) (L : List Lay) (lc : List (Option Cnt)) (mv : Int) (far : Nat), vs = [.ref x.a] ∧ HallIn K H0 H x wys L lc mv far ∧ Q (.int mv) H
theorem cells_none {H : Hp} : ∀ n : Nat, Paired (CellAt H) (List.replicate n V.non) (List.replicate n none)
  | 0 => .nil
  | n + 1 => .cons rfl (cells_none n)
/-- a cell's data -/
def cntD (c : Cnt) : PyData := .tuple [.int (c.1 : Int), .int (c.2 : Int)]
def cellD : Option Cnt → PyData
  | none => .none
  | some c => cntD c
theorem cell_dp {K : PySem.W.Frag} {H : Hp} : ∀ {v : V} {c : Option Cnt}, CellAt H v c → Dp K H v (cellD c)
  | _, none, rfl => .non
  | _, some _, ⟨_, rfl, h⟩ => .tup (SqT.of h) (.cons (.int _) (.cons (.int _) .nil))
theorem cell_shaped : ∀ c : Option Cnt, SeqAt.shaped (cellD c) = true
  | none => by simp [cellD, SeqAt.shaped, PyData.depth, PyData.canLay0]
  | some c => pairShaped _ _
theorem cell_eqv (c : Option Cnt) (d : Cnt) : PyData.eqv (cellD c) (cellD (some d)) = decide (c = some d) := by
  cases c with
  | none => simp [cellD, cntD, PyData.eqv]
  | some c =>
    obtain ⟨a, b⟩ := c
    obtain ⟨a', b'⟩ := d
    have e : ∀ u v : Nat, ((u : Int) == (v : Int)) = decide (u = v) := fun u v => by
      rw [Bool.eq_iff_iff, beq_iff_eq, decide_eq_true_iff]
      omega
    simp [cellD, cntD, PyData.eqv, PyData.eqvAll, e]
end Ov
/-! ### what a law needs of halls -/
namespace Ov
open PySem PySem.Spec PyProof.Rows L2
theorem pig : ∀ (n : Nat) (l : List Nat), l.Nodup → (∀ x ∈ l, x < n) → l.length ≤ n
  | 0, l, _, h => by
    cases l with
    | nil => exact Nat.le_refl _
    | cons x l => exact absurd (h x List.mem_cons_self) (Nat.not_lt_zero _)
  | n + 1, l, nd, h => by
    have z := pig n (l.erase n) (nd.erase n) fun x hx => by
      have h1 := (List.Nodup.mem_erase_iff nd).mp hx
      have h2 := h x h1.2
      have h3 := h1.1
      omega
    rw [List.length_erase] at z
    split at z <;> omega
theorem psz_app (pr : List (Int × W)) (p q : List Nat) : psz pr (p ++ q) = psz pr p + psz pr q := by
  unfold psz
  rw [List.map_append, List.sum_append]
theorem psz_flat (pr : List (Int × W)) (g : Nat → List Nat) : ∀ w : List Nat, psz pr (w.flatMap g) = (w.map fun q => psz pr (g q)).sum
  | [] => rfl
  | q :: w => by rw [List.flatMap_cons, psz_app, psz_flat pr g w, List.map_cons, List.sum_cons]
theorem far_le {pr : List (Int × W)} (ok : PrOk pr) {ps : List (List Nat)} {st : List Int} (ht : TrOk pr.length ps st) {dn : Nat → List Nat} (hd : Dn pr.length ps st dn) {m : Int} (hm : Far pr ps dn m) : 1 ≤ m ∧ m ≤ 64 := by
  have hp := ht.p
  obtain ⟨i, p, e, rfl⟩ := hm.1
  have hi := (List.getElem?_eq_some_iff.mp e).1
  have pne : ∀ q, q < ps.length → 1 ≤ psz pr (ps[q]?.getD []) := fun q hq => by
    rw [List.getElem?_eq_getElem hq]
    have h1 := psz_nn ok (p := ps[q]) fun x hx => hp.lt (List.getElem_mem hq) hx
    have h2 := List.length_pos_iff.mpr (hp.ne _ (List.getElem_mem hq))
    show 1 ≤ psz pr ps[q]
    omega
  have b0 := bgn_nn ok hp (dn := dn) (i := i)
  have lt : ∀ q ∈ dn i ++ [i], q < ps.length := fun q hq => by
    rcases List.mem_append.mp hq with hq | hq
    · exact hd.lt i hi q hq
    · rw [List.mem_singleton.mp hq]
      exact hi
  have e1 : bgn pr ps dn i + psz pr p = psz pr ((dn i ++ [i]).flatMap fun q => ps[q]?.getD []) := by
    rw [psz_flat, bgn_psz, e]
    rfl
  have z := pne i hi
  rw [e] at z
  have z : 1 ≤ psz pr p := z
  refine ⟨by omega, ?_⟩
  rw [e1]
  have mem : ∀ x ∈ (dn i ++ [i]).flatMap (fun q => ps[q]?.getD []), x < pr.length := fun x hx => by
    obtain ⟨q, hq, hx⟩ := List.mem_flatMap.mp hx
    rw [List.getElem?_eq_getElem (lt q hq)] at hx
    exact hp.lt (List.getElem_mem (lt q hq)) hx
  have nd : ((dn i ++ [i]).flatMap fun q => ps[q]?.getD []).Nodup := by
    unfold List.Nodup
    rw [List.pairwise_flatMap]
    refine ⟨fun q hq => ?_, ?_⟩
    · rw [List.getElem?_eq_getElem (lt q hq)]
      exact List.Pairwise.imp (fun z => by omega) (hp.rise _ (List.getElem_mem (lt q hq)))
    · refine List.Pairwise.imp_of_mem (fun {q r} hq hr z => ?_) (hd.order ok hp (hd.down i hi) hi (hd.lt i hi))
      intro x hx y hy exy
      subst exy
      rw [List.getElem?_eq_getElem (lt q hq)] at hx
      rw [List.getElem?_eq_getElem (lt r hr)] at hy
      obtain ⟨j, hj⟩ := List.mem_iff_getElem?.mp hx
      obtain ⟨k, hk⟩ := List.mem_iff_getElem?.mp hy
      have eq := (hp.uniq (List.getElem?_eq_getElem (lt q hq)) hj (List.getElem?_eq_getElem (lt r hr)) hk).1
      subst eq
      have := pne q (lt q hq)
      omega
  have h1 := pig pr.length _ nd mem
  have h2 := (psz_nn ok mem).2
  have := ok.l8
  omega
theorem siz_eq {pr : List (Int × W)} (ok : PrOk pr) {ps : List (List Nat)} (hp : PInv pr.length ps) {dn : Nat → List Nat} {cs : List Int} (hc : Cells pr ps dn cs) : ∀ ms : List Nat, ((siz (laysF pr cs ps) ms : Nat) : Int) = (ms.map fun q => psz pr (ps[q]?.getD [])).sum
  | [] => rfl
  | q :: ms => by
    have z := lay_len ok hp hc (q := q)
    have y := siz_eq ok hp hc ms
    have e : siz (laysF pr cs ps) (q :: ms) = (lyr (laysF pr cs ps) q).length + siz (laysF pr cs ps) ms := rfl
    rw [e, List.map_cons, List.sum_cons, Int.natCast_add, z, y]
theorem atI_last (l : List Nat) (x : Nat) : atI (nV (l ++ [x])) (-1) = some (.int (x : Int)) := by
  have e : (nV (l ++ [x])).length = l.length + 1 := by rw [nV_len, List.length_append]; rfl
  have z : ixN (l.length + 1) (-1) = some l.length := by
    unfold ixN
    rw [if_neg (by omega), if_pos (by omega)]
    congr 1
    omega
  unfold atI
  rw [e, z, nV_app]
  show (nV l ++ [V.int (x : Int)])[l.length]? = _
  rw [List.getElem?_append_right (by rw [nV_len]; exact Nat.le_refl _), nV_len, Nat.sub_self]
  rfl
/-- all but the drawer and the hall stays -/
def ButLw (x : HA) (h c : Addr) (H H' : Hp) : Prop := ∀ b o, b ≠ h → b ≠ c → b ≠ x.a → b ≠ x.ly → H b = some o → H' b = some o
section
variable {K : PySem.W.Frag} {H0 H H' H1 : Hp} {x : HA} {wys : List (List Nat)} {L : List Lay} {lc : List (Option Cnt)} {mv : Int} {far : Nat} {h c : Addr}
theorem ButLw.refl : ButLw x h c H H := fun _ _ _ _ _ _ e => e
theorem ButLw.same (p : ButLw x h c H H1) (s : Same H1 H') : ButLw x h c H H' := fun b o n1 n2 n3 n4 e => s _ _ (p b o n1 n2 n3 n4 e)
theorem ButLw.but (p : ButLw x h c H H1) (s : But h c H1 H') : ButLw x h c H H' := fun b o n1 n2 n3 n4 e => s _ _ n1 n2 (p b o n1 n2 n3 n4 e)
theorem ButLw.hall (p : ButLw x h c H H1) (s : ButHl x H1 H') : ButLw x h c H H' := fun b o n1 n2 n3 n4 e => s _ _ n3 n4 (p b o n1 n2 n3 n4 e)
theorem HallIn.same (i : HallIn K H0 H x wys L lc mv far) (s : Same H H') : HallIn K H0 H' x wys L lc mv far := ⟨i.at_.same s, i.ok, i.le⟩
theorem HallIn.but (i : HallIn K H0 H x wys L lc mv far) (d0 : Dr H0 h c) (d : Dr H h c) (b : But h c H H') : HallIn K H0 H' x wys L lc mv far := ⟨i.at_.but d0 d b, i.ok, i.le⟩
theorem Dr.ne0 (d0 : Dr H0 h c) (i : HallIn K H0 H x wys L lc mv far) : h ≠ x.a ∧ h ≠ x.ly ∧ c ≠ x.a ∧ c ≠ x.ly := by
  obtain ⟨m, k, ns, h1, h2, _⟩ := d0
  exact ⟨ne_of_none h1 i.at_.fa, ne_of_none h1 i.at_.fy, ne_of_none h2 i.at_.fa, ne_of_none h2 i.at_.fy⟩
theorem Dr.hall (d : Dr H h c) (d0 : Dr H0 h c) (i : HallIn K H0 H x wys L lc mv far) (b : ButHl x H H') : Dr H' h c := by
  obtain ⟨n1, n2, n3, n4⟩ := Dr.ne0 d0 i
  obtain ⟨m, k, ns, h1, h2, h3⟩ := d
  exact ⟨m, k, ns, b _ _ n1 n2 h1, b _ _ n3 n4 h2, h3⟩
theorem ButLw.keep (p : ButLw x h c H H') (d : Dr H h c) (i : HallIn K H0 H x wys L lc mv far) : Keep H H' := fun a xs e => by
  obtain ⟨m, k, ns, h1, h2, _⟩ := d
  obtain ⟨vs, h6, _⟩ := i.at_.ly
  exact p a _ (ne_of e h1 (by intro z; cases z)) (ne_of e h2 (by intro z; cases z)) (ne_of e i.at_.ob (by intro z; cases z)) (ne_of e h6 (by intro z; cases z)) e
end
end Ov
/-! ### comprehensions that errors leave: the words of the model -/
namespace Ov
open PySem PySem.Spec PyProof.Rows L2
/-- what is asked of a comprehension's end, by its own environment -/
def cPost (M : Model) (A : Around) (E : Value → Shared → Prop) (use : Option (Value → Sem Unit)) (Q : Value → Shared → Prop) (acc : Value) (cenv : Env) : Result → Shared → Prop := fun r s' =>
  match r with
  | .ok _ => compPost M A E use Q acc cenv.locals r s'
  | .error x => ∃ m, s'.heap.Ns cenv.locals m ∧ ∀ (h' : Heap) (m' : Str → Option Value), h'.Ns cenv.locals m' → Heap.SameBut cenv.locals s'.heap h' →
      wpAny M A (PySem.passOn "comprehension.variables-let-go" x cenv) (fun (_ : Value) _ => False) E { s' with heap := h' }
theorem comp_exc {M : Model} {A : Around} {E : Value → Shared → Prop} {s : Shared} {env : Env} {e : Expr} {scope : Scope} {pos : Pos} {newAcc first : Sem Value} {g : Comprehension} {gs : List Comprehension} {cl : List (Str × Addr)} {use : Option (Value → Sem Unit)} {Q : Value → Shared → Prop}
    (hc : clausesOf e = g :: gs) (hf : ∀ x, foldedSetIterable g.iter env x = pure x) (hcl : closureFor scope env = pure cl) (hk : scope.kind = .function)
    (hl : ∀ x ∈ scope.names, x.2 = .local → List.lookup x.1 scope.names = some .local)
    (h : wpAny M A first (fun x s₁ => wpAny M A (pyIter x) (fun it s₂ => wpAny M A newAcc (fun acc s₃ => wpAny M A (newFunctionEnv scope env.globals cl [] env.qual none .none (some env)) (fun cenv s₄ =>
      codeAny M A (.compStart e 0 it acc { scope := relabel scope env, locals := cenv.locals, globals := cenv.globals, cells := cenv.cells, qual := cenv.qual, func := cenv.func, code := cenv.code, frame := cenv.frame, builtins := cenv.builtins })
        (cPost M A E use Q acc { scope := relabel scope env, locals := cenv.locals, globals := cenv.globals, cells := cenv.cells, qual := cenv.qual, func := cenv.func, code := cenv.code, frame := cenv.frame, builtins := cenv.builtins }) s₄) E s₃) E s₂) E s₁) E s) :
    wpAny M A (comprehension e scope env pos newAcc false first use) Q E s := by
  unfold comprehension
  refine wpAny_bind (wpAny_mono h (fun x s1 h => ?_) fun _ _ z => z)
  refine wpAny_bind (wpAny_standAt ?_)
  rw [hc]
  refine wpAny_bind (wpAny_of_eq (hf x) ?_)
  refine wpAny_bind (wpAny_holding ?_)
  refine wpAny_mono h (fun it s2 h => ?_) fun _ _ z => z
  refine wpAny_standIf ?_
  refine wpAny_bind (wpAny_mono h (fun acc s3 h => ?_) fun _ _ z => z)
  refine wpAny_bind (wpAny_of_eq hcl ?_)
  refine wpAny_bind (wpAny_mono h (fun cenv s4 h => ?_) fun _ _ z => z)
  refine wpAny_holding ?_
  refine wpAny_bind (wpAny_attempt (wpAny_holding (wpAny_run (codeAny_mono h fun r s5 hr => ?_) (by decide))))
  have hkk : ({ scope := relabel scope env, locals := cenv.locals, globals := cenv.globals, cells := cenv.cells, qual := cenv.qual, func := cenv.func, code := cenv.code, frame := cenv.frame, builtins := cenv.builtins } : Env).scope.kind = .function := hk
  have hloc : ∀ x ∈ scope.names, x.2 = .local → ({ scope := relabel scope env, locals := cenv.locals, globals := cenv.globals, cells := cenv.cells, qual := cenv.qual, func := cenv.func, code := cenv.code, frame := cenv.frame, builtins := cenv.builtins } : Env).kindOf x.1 = some .local := fun x hx e => lookup_relabel_local (hl x hx e)
  cases r with
  | error x =>
    obtain ⟨m, hm, hr⟩ := hr
    refine wpAny_bind (wpAny_holding (wpAny_comp_letGo hkk _ s5 m ?_ hm fun h' m' hm' sb => ?_))
    · exact fun x hx e => hloc x (List.mem_filter.mp (List.mem_reverse.mp hx)).1 e
    · exact wpAny_mono (hr h' m' hm' sb) (fun _ _ z => z.elim) fun _ _ z => z
  | ok a =>
    cases use with
    | none =>
      obtain ⟨m, hm, hr⟩ := hr
      refine wpAny_bind (wpAny_holding (wpAny_comp_letGo hkk _ s5 m ?_ hm fun h' m' hm' sb => wpAny_pure (hr h' sb)))
      exact fun x hx e => hloc x (List.mem_filter.mp (List.mem_reverse.mp hx)).1 e
    | some u =>
      refine wpAny_bind (wpAny_rule (wpAny_bind (wpAny_holding (wpAny_mono hr (fun _ s6 ⟨m, hm, hr⟩ => ?_) fun _ _ z => z))))
      refine wpAny_bind (wpAny_comp_letGo hkk _ s6 m ?_ hm fun h' m' hm' sb => wpAny_pure (hr h' sb))
      intro x hx e
      refine hloc x ?_ e
      rcases List.mem_append.mp hx with hx | hx
      · exact (List.mem_filter.mp (List.mem_reverse.mp (List.mem_of_mem_drop hx))).1
      · exact (List.mem_filter.mp (List.mem_reverse.mp (List.mem_of_mem_take hx))).1

theorem noteFrame_eq {e : Value} {env cenv : Env} (h : cenv.frame = env.frame) : noteFrame e cenv = noteFrame e env := by
  unfold noteFrame PySem.frameOf
  rw [h]
theorem passOn_eq {α : Type} {w : String} {e : Value} {env cenv : Env} (h : cenv.frame = env.frame) : (PySem.passOn w e cenv : Sem α) = PySem.passOn w e env := by
  unfold PySem.passOn
  rw [h]
theorem ff_base {h h2 B B' : Heap} : ∀ {l : List Env}, h.FunFrames B l → (∀ b, B.get? b = none → ∀ o, h.get? b = some o → B'.get? b = none ∧ h2.get? b = some o) → h2.FunFrames B' l
  | [], _, _ => True.intro
  | _ :: _, ⟨k, ⟨L, o, e1, e2, e3, e4⟩, r⟩, f => ⟨k, ⟨L, o, e1, (f L e2 o e3).1, (f L e2 o e3).2, e4⟩, ff_base r f⟩
/-- an error that leaves a comprehension's step is noted by the frame, the variables let go, passed on -/
theorem lc_raise {X : Cx} {W : WX} (tk : Takes X W) (hs : X.stack = X.env :: X.outer) (hf : X.env.frame = some X.env.locals) {pins : List (Addr × Obj)} {σ0 : L2.St} {H3 : Hp} {s3 : Shared} (I3 : Inv X pins σ0 H3 s3) {fp : List Addr} (hfp : ∀ b ∈ fp, FpOk X pins H3 b ∧ b < s3.heap.objs.size)
    {scope : Scope} {cl : List (Str × Addr)} {C : Addr} (hC : s3.heap.objs.size ≤ C) {E : XK} (hW : ∀ cls d H, E cls d H → W cls d σ0 H) {use : Option (Value → Sem Unit)} {Q : Value → Shared → Prop} {acc : Value}
    {pinsB : List (Addr × Obj)} {σ : L2.St} {H : Hp} {s : Shared} (Ib : Inv (X.blk s3 H3 scope (compEnvC scope cl C X.env) fp) pinsB σ H s) {e : Value} {s' : Shared} (c : CX X.prog X.w X.stack H s E e s') :
    notedBy (model X.prog X.w) X.A (compEnvC scope cl C X.env) (fun x s'' => cPost (model X.prog X.w) X.A X.xe use Q acc (compEnvC scope cl C X.env) (.error x) s'') e s' := by
  obtain ⟨a, B, H', cls, d, rfl, fl, hok, ub, na, os, ag, hE⟩ := c
  have HC : H C = none := Ib.free
  have nC : ¬ C ∈ frs X.stack := fun z => by
    obtain ⟨_, o, ho, _⟩ := Heap.FunFrames.mem Ib.ok.funs z
    exact absurd (Heap.lt_size ho) (Nat.not_lt.mpr hC)
  obtain ⟨m, ⟨o, es, ep, ho, hd, hsk, hfi⟩, _⟩ := Ib.loc
  have eB : B.get? C = some o := ub.keep C o ho HC nC
  have fr : ∀ {b}, b ∈ frs X.stack → B.get? b = none ∧ ∃ o, s'.heap.get? b = some o ∧ ∀ vs, o.data ≠ .fields vs := fun hb => Heap.FunFrames.mem fl.2.2.1 hb
  have fHC : H' C = none := ub.free C o ho HC
  unfold notedBy
  rw [noteFrame_eq (env := X.env) (cenv := compEnvC scope cl C X.env) rfl]
  have fl' := fl
  rw [hs] at fl'
  refine HandSPX.looks_onZ Zc.steady (by rw [I3.ok.frames, hs]) hf fl' fun h1 held up1 => ?_
  refine ⟨m, ⟨o, es, ep, held.1 C o eB, hd, hsk, hfi⟩, fun h2 m' hm' sb => ?_⟩
  rw [passOn_eq (env := X.env) (cenv := compEnvC scope cl C X.env) rfl]
  obtain ⟨st1, nb1, ff1, oe, vs, T, oT, ts, ha, hz, hvs, h1T, nT, neT, hT, hts, h3T⟩ := held
  have naC : a ≠ C := fun z => by
    rw [z, eB] at nb1
    cases nb1
  have nTC : T ≠ C := fun z => by
    rw [z, eB] at nT
    cases nT
  obtain ⟨B', b1, b2⟩ := L2.restrict B fun b => decide (b ≠ C)
  have bn : ∀ {b}, b ≠ C → B'.get? b = B.get? b := fun n => b1 _ (decide_eq_true n)
  have bC : B'.get? C = none := b2 _ (decide_eq_false fun z => z rfl)
  have bS : ∀ {b o}, B'.get? b = some o → b ≠ C ∧ B.get? b = some o := fun {b o} h => by
    by_cases n : b = C
    · rw [n, bC] at h
      cases h
    · exact ⟨n, by rw [← bn n]; exact h⟩
  have held2 : HandSPX.HeldZ B' (X.env :: X.outer) a (Zc cls d) X.env.locals h2 := by
    refine ⟨fun b o' h => ?_, by rw [bn naC]; exact nb1, ?_, oe, vs, T, oT, ts, by rw [sb.2 a naC]; exact ha, hz, hvs, h1T, by rw [bn nTC]; exact nT, neT, by rw [sb.2 T nTC]; exact hT, hts, h3T⟩
    · obtain ⟨n, h⟩ := bS h
      rw [sb.2 b n]
      exact st1 b o' h
    · refine ff_base ff1 fun b hb o' ho' => ?_
      have n : b ≠ C := fun z => by
        rw [z, eB] at hb
        cases hb
      exact ⟨by rw [bn n]; exact hb, by rw [sb.2 b n]; exact ho'⟩
  unfold PySem.passOn
  refine wpAny_bind (wpAny_field (o := oe) (vs := vs) (x := .ref T) (by show h2.get? a = _; rw [sb.2 a naC]; exact ha) hvs h1T ?_)
  have hne : (Value.ref T == Value.none) = false := rfl
  rw [hf]
  simp only [hne, Bool.false_eq_true, if_false]
  refine wpAny_bind (HandSPX.setFlight_onZ (s := { s' with heap := h2 }) held2 fun h3 held3 up3 => ?_)
  refine wpAny_throw ?_
  refine tk _ _ ?_
  have d1 : ∀ {b o}, b ≠ C → s'.heap.get? b = some o → (∀ vs, o.data ≠ .fields vs) → ∃ sl, h3.get? b = some { cls := o.cls, dict := o.dict, data := o.data, slots := sl } := fun {b o} n h1' nf => by
    obtain ⟨sl, e1⟩ := up1 b o h1' nf
    have e2 : h2.get? b = _ := (sb.2 b n).trans e1
    obtain ⟨sl2, e3⟩ := up3 b _ e2 nf
    exact ⟨sl2, e3⟩
  -- the heap as it is told
  obtain ⟨G, g1, g2⟩ := L2.restrict s'.heap fun b => (B.get? b).isSome || decide (b ∈ frs X.stack)
  have gB : ∀ b o, B.get? b = some o → G.get? b = some o := fun b o e => by
    rw [g1 b (by rw [e]; rfl)]
    exact fl.1 b o e
  have gF : ∀ b, b ∈ frs X.stack → G.get? b = s'.heap.get? b := fun b hb => g1 b (by rw [decide_eq_true hb, Bool.or_true])
  have bk := Ib.base
  have un : Un (frs X.stack) fp H3 H' s3.heap G := by
    refine ⟨fun b o e n h1 h2 => ?_, fun b o e n h1 h2 => ?_, fun b o e n h1 => ?_, fun b o e h1 => ?_, fun b xs e => ub.tups b xs (bk.tups b xs e), fun b o u e => ub.frzs b o u (bk.frzs b o u e), fun b ps e => ?_⟩
    · exact gB b o (ub.keep b o (bk.keep b o e n h1 h2) (bk.free b o e n h2) h1)
    · obtain ⟨sl, e1⟩ := bk.slot b o e n h1 h2
      obtain ⟨sl2, e2⟩ := ub.slot b _ e1 h1
      exact ⟨sl2, by rw [gF b h1]; exact e2⟩
    · obtain ⟨o', e'⟩ := bk.there b o e h1
      exact ub.free b o' e' (bk.free b o e n h1)
    · obtain ⟨o', e'⟩ := bk.there b o e h1
      by_cases hb : b ∈ frs X.stack
      · obtain ⟨sl, e2⟩ := ub.slot b o' e' hb
        exact ⟨_, by rw [gF b hb]; exact e2⟩
      · obtain ⟨o2, e2⟩ := ub.there b o' e' hb
        exact ⟨o2, gB b o2 e2⟩
    · obtain ⟨m1, q1⟩ := bk.tbls b ps e
      obtain ⟨m2, q2⟩ := ub.tbls b _ q1
      exact ⟨m1 ++ m2, by rw [← Array.append_assoc]; exact q2⟩
  have I4 : Inv X pins σ0 H' { heap := G, gens := s'.gens, drawn := s'.drawn, toks := s'.toks, os := s.os } := I3.call' Ib.os un (HOk.kept hok gB) ag fun b hb => by
    obtain ⟨_, q2, _, q4, q5, q6⟩ := (hfp b hb).1
    exact ⟨q4, q2, q5, q6⟩
  obtain ⟨_, q2, _, q4, q5, q6⟩ := I3.fpOk hC fHC
  obtain ⟨G2, k1, k2⟩ := L2.restrict G fun b => decide (b ≠ C)
  have kn : ∀ {b}, b ≠ C → G2.get? b = G.get? b := fun n => k1 _ (decide_eq_true n)
  have I5 := I4.turned (h' := G2) (t' := s'.toks) (it := C) (fun b o n e => by rw [kn n]; exact e) fHC q2 q4 q5 q6
  have og : ∀ {b o}, G2.get? b = some o → b ≠ C ∧ s'.heap.get? b = some o ∧ (¬ b ∈ frs X.stack → B'.get? b = some o) := fun {b o} e => by
    by_cases n : b = C
    · rw [n, k2 _ (decide_eq_false fun z => z rfl)] at e
      cases e
    · rw [kn n] at e
      cases q : (B.get? b).isSome || decide (b ∈ frs X.stack) with
      | false =>
        rw [g2 b q] at e
        cases e
      | true =>
        rw [g1 b q] at e
        refine ⟨n, e, fun nb => ?_⟩
        rw [decide_eq_false nb, Bool.or_false] at q
        obtain ⟨o', e'⟩ := Option.isSome_iff_exists.mp q
        have := (fl.1 b o' e').symm.trans e
        cases this
        rw [bn n]
        exact e'
  exact ⟨a, B', _, pins, σ0, H', cls, d, rfl, I5, fun b o e hb => (og e).2.2 hb, fun b o e nf => d1 (og e).1 (og e).2.1 nf, .inr (.inr (by rw [hs]; exact held3)), na, os, ag, hW cls d H' hE⟩
end Ov
/-! ### the rule for a comprehension that errors leave -/
namespace Ov
open PySem PySem.Spec PyProof.Rows L2
/-- the block of a comprehension, with its own way out -/
@[reducible] def blkX (X : Cx) (s : Shared) (H : Hp) (scope : Scope) (ce : Env) (fp : List Addr) (xe : Value → Shared → Prop) : Cx := { X.blk s H scope ce fp with xe := xe }
theorem inv_to {X : Cx} {s0 : Shared} {H0 : Hp} {scope : Scope} {ce : Env} {fp : List Addr} {xe : Value → Shared → Prop} {pins : List (Addr × Obj)} {σ : L2.St} {H : Hp} {s : Shared} (I : Inv (X.blk s0 H0 scope ce fp) pins σ H s) : Inv (blkX X s0 H0 scope ce fp xe) pins σ H s :=
  ⟨⟨I.ok.mod, I.ok.kind, I.ok.glob, I.ok.blt, I.ok.above, I.ok.inj, I.ok.has, I.ok.cab, I.ok.hd, I.ok.frames, I.ok.stk, I.ok.exf, I.ok.bs, I.ok.bsz, I.ok.noex, I.ok.exfs, I.ok.funs, I.ok.frf⟩, I.os, I.bare, I.base, I.loc, I.cell, I.free, I.freeC, I.pin, I.hok, I.len⟩
theorem inv_of {X : Cx} {s0 : Shared} {H0 : Hp} {scope : Scope} {ce : Env} {fp : List Addr} {xe : Value → Shared → Prop} {pins : List (Addr × Obj)} {σ : L2.St} {H : Hp} {s : Shared} (I : Inv (blkX X s0 H0 scope ce fp xe) pins σ H s) : Inv (X.blk s0 H0 scope ce fp) pins σ H s :=
  ⟨⟨I.ok.mod, I.ok.kind, I.ok.glob, I.ok.blt, I.ok.above, I.ok.inj, I.ok.has, I.ok.cab, I.ok.hd, I.ok.frames, I.ok.stk, I.ok.exf, I.ok.bs, I.ok.bsz, I.ok.noex, I.ok.exfs, I.ok.funs, I.ok.frf⟩, I.os, I.bare, I.base, I.loc, I.cell, I.free, I.freeC, I.pin, I.hok, I.len⟩
theorem lcX_loop {X : Cx} {W : WX} {E : XK} (tk : Takes X W) (hW : ∀ cls d σ H, E cls d H → W cls d σ H) (hs : X.stack = X.env :: X.outer) (hf : X.env.frame = some X.env.locals) {pins : List (Addr × Obj)} {s3 : Shared} {σ : L2.St} {H3 : Hp} {Q : VK} {elt tg iter : Expr} {scope : Scope} {own : List (Str × Nat)} {pos : Pos}
    {g : TG} {te : TE} {use : Option (Value → Sem Unit)} {Qf : Value → Shared → Prop} (hc : X.calm = true) (hN : X.N.Nodup) (I3 : Inv X pins σ H3 s3) (ok : BlkOk X.N X.env.scope scope own)
    (hg : ∀ s H C cl fp, PG (X.blk s H scope (compEnvC scope cl C X.env) fp) tg g)
    (he : ∀ s H C cl fp xe, Passes (L2.CX X.prog X.w) (blkX X s H scope (compEnvC scope cl C X.env) fp xe) E → PE (blkX X s H scope (compEnvC scope cl C X.env) fp xe) elt te)
    {it D : Addr} {fp : List Addr} {tn : Nat → Heap → Prop} {J : L2.It} (T : Turn X.prog X.w X.K tg J fp it tn) (f3 : ∀ b ∈ fp, FpOk X pins H3 b ∧ b < s3.heap.objs.size) (st3 : tn 0 s3.heap) {W0 : Nat → Nat → Hp → Prop} {m0 : Nat} (w0 : W0 0 m0 H3)
    (turn : ∀ i m H, W0 i m H → (J.stop i H ∧ Q (.ref D) H) ∨ (J.go i H ∧ ∃ Nx : Hp → Prop, (∀ H', Nx H' → ∃ m', m' < m ∧ W0 (i + 1) m' H') ∧ ∀ x H', J.yld i H x H' → g x (wipe σ (own.map (·.2))) H' fun σ2 H2 => wipe σ2 (own.map (·.2)) = wipe σ (own.map (·.2)) ∧ tYes σ2 H2 fun b H3 =>
      if b = true then te σ2 H3 fun y H4 => ∃ acc, H4 D = some (.lst acc) ∧ acc.length < sizeLine ∧ Nx (upd H4 D (.lst (acc ++ [y]))) else Nx H3))
    (hq : ∀ D C s' m H', Inv X pins σ H' s' → Q (.ref D) H' → s'.heap.Ns C m → FpOk X pins H' C → compPost (model X.prog X.w) X.A X.xe use Qf (.ref D) C (.ok .next) s') :
    codeAny (model X.prog X.w) X.A (.compStart (.ListComp elt [⟨tg, iter, [], 0⟩] scope pos) 0 (.ref it) (.ref D) (compEnvC scope (cellsFrom (s3.heap.objs.size + 1) scope.names (cloFrom X.env.cells scope.names [])) s3.heap.objs.size X.env))
      (cPost (model X.prog X.w) X.A X.xe use Qf (.ref D) (compEnvC scope (cellsFrom (s3.heap.objs.size + 1) scope.names (cloFrom X.env.cells scope.names [])) s3.heap.objs.size X.env))
      { heap := pushCells (s3.heap.push { cls := .type "dict", data := .dict #[] }) scope.names, gens := s3.gens, drawn := s3.drawn, toks := s3.toks, os := s3.os } := by
  have I4 := block_start I3 ok hN f3
  have st4 := T.keep 0 s3.heap (pushCells (s3.heap.push { cls := .type "dict", data := .dict #[] }) scope.names) st3 fun b _ o e => pushCells_keeps _ _ b o (Heap.get?_push_of_some _ e)
  generalize cellsFrom (s3.heap.objs.size + 1) scope.names (cloFrom X.env.cells scope.names []) = cl at I4 ⊢
  have fpb : ∀ {H' : Hp}, (∀ b ∈ fp, H' b = none) → ∀ b ∈ fp, FpOk (X.blk s3 H3 scope (compEnvC scope cl s3.heap.objs.size X.env) fp) [] H' b := fun nf b hb => by
    have z := I4.ok.exf b hb
    exact ⟨nf b hb, z.1, I4.ok.exfs b hb, .inl hb, z.2, fun p hp => nomatch hp⟩
  refine (fun L => codeAny_compStart_list L (T.self X.A 0 _ _ _ st4 L)) ?_
  refine compLoop_any (fun n sN => ∃ i H, W0 i n H ∧ Inv (X.blk s3 H3 scope (compEnvC scope cl s3.heap.objs.size X.env) fp) [] (wipe σ (own.map (·.2))) H sN ∧ tn i sN.heap ∧ ∀ b ∈ fp, H b = none) ?_ m0 ⟨0, H3, w0, I4, st4, fun b hb => (f3 b hb).1.1⟩
  rintro n sN ⟨i, Hn, wn, In, tni, nfp⟩
  rcases turn i n Hn wn with ⟨hstop, hQ⟩ | ⟨hgo, Nx, hNx, hturn⟩
  · refine thn (T.done (X.blk s3 H3 scope (compEnvC scope cl s3.heap.objs.size X.env) fp) rfl rfl rfl hc i [] sN _ Hn _ In (fpb nfp) tni hstop) fun r s1 z => ?_
    obtain ⟨rfl, I1⟩ := z
    obtain ⟨m, hm, _⟩ := I1.loc
    have IX : Inv X pins σ Hn s1 := I3.call' I1.os I1.base I1.hok I1.bare fun b hb => by
      obtain ⟨_, q2, _, q4, q5, q6⟩ := (f3 b hb).1
      exact ⟨q4, q2, q5, q6⟩
    exact hq D _ s1 m Hn IX hQ hm (I3.fpOk (Nat.le_refl _) I1.free)
  · refine thn (T.item (X.blk s3 H3 scope (compEnvC scope cl s3.heap.objs.size X.env) fp) rfl rfl rfl hc i [] sN _ Hn _ In (fpb nfp) tni hgo) fun r s1 z => ?_
    obtain ⟨u, rfl, z⟩ := z
    refine thn z fun _ s2 z => ?_
    obtain ⟨x, H', I2, rx, hy, tn2, nf2⟩ := z
    have Ip := I2.pinned (fpb nf2) fun b hb => T.obj (i + 1) s2.heap tn2 b hb
    refine thnF ((hg s3 H3 s3.heap.objs.size cl fp).run _ s2 _ H' x u _ Ip rx (hturn x H' hy)) fun _ s4 z => ?_
    obtain ⟨σ4, H4, I5, hw, hy2⟩ := z
    refine wpAny_pure ?_
    refine thn ((he s3 H3 s3.heap.objs.size cl fp _ fun pinsB σB HB sB e s' IB c => lc_raise tk hs hf I3 f3 (Nat.le_refl _) (fun cls d H h => hW cls d σ H h) (inv_of IB) c).run _ s4 σ4 H4 _ (inv_to I5) hy2) fun v s5 z => ?_
    obtain ⟨y, H5, I6, ry, acc, eD, hacc, hn⟩ := z
    refine app_ok (X := X.blk s3 H3 scope (compEnvC scope cl s3.heap.objs.size X.env) fp) (inv_of I6) eD hacc ry fun s6 I7 => ?_
    obtain ⟨m', lt, hw'⟩ := hNx _ hn
    have hp : ∀ b ∈ fp, ∀ o, s2.heap.get? b = some o → s6.heap.get? b = some o ∧ (upd H5 D (.lst (acc ++ [y]))) b = none := fun b hb o e => by
      have z := I7.pin (b, o) (List.mem_append_right _ (List.mem_append_right _ (mem_pinsAt hb e)))
      exact ⟨z.1, z.2.1⟩
    refine ⟨m', lt, i + 1, _, hw', (I7.unpinned (pins := []) (pl := pinsAt fp s2.heap)).weak (by rw [wipe_length, I7.len, ← I3.len]) fun j v e => ?_, T.keep (i + 1) s2.heap s6.heap tn2 fun b hb o e => (hp b hb o e).1, fun b hb => ?_⟩
    · rw [← hw] at e
      exact (wipe_some e).1
    · obtain ⟨o, e, _⟩ := T.obj (i + 1) s2.heap tn2 b hb
      exact (hp b hb o e).2
theorem lcX_core {X : Cx} {W : WX} {E : XK} (tk : Takes X W) (hW : ∀ cls d σ H, E cls d H → W cls d σ H) (hs : X.stack = X.env :: X.outer) (hf : X.env.frame = some X.env.locals) {pins : List (Addr × Obj)} {s : Shared} {σ : L2.St} {H : Hp} {Q : VK} {elt tg iter : Expr} {scope : Scope} {own : List (Str × Nat)} {pos pos' : Pos}
    {wi : TI} {g : TG} {te : TE} {use : Option (Value → Sem Unit)} {Qf : Value → Shared → Prop} (hc : X.calm = true) (hN : X.N.Nodup) (I : Inv X pins σ H s) (hi : PI X tg iter wi) (ok : BlkOk X.N X.env.scope scope own)
    (hg : ∀ s H C cl fp, PG (X.blk s H scope (compEnvC scope cl C X.env) fp) tg g)
    (he : ∀ s H C cl fp xe, Passes (L2.CX X.prog X.w) (blkX X s H scope (compEnvC scope cl C X.env) fp xe) E → PE (blkX X s H scope (compEnvC scope cl C X.env) fp xe) elt te)
    (hfold : ∀ x, foldedSetIterable iter X.env x = pure x) (h : tLc wi g tYes te (own.map (·.2)) σ H Q)
    (hq : ∀ D C s' m H', Inv X pins σ H' s' → Q (.ref D) H' → s'.heap.Ns C m → FpOk X pins H' C → compPost (model X.prog X.w) X.A X.xe use Qf (.ref D) C (.ok .next) s') :
    wpAny (model X.prog X.w) X.A (comprehension (.ListComp elt [⟨tg, iter, [], 0⟩] scope pos) scope X.env pos' (newList []) false (eval iter X.env) use) Qf X.xe s := by
  refine comp_exc (g := ⟨tg, iter, [], 0⟩) (gs := []) rfl hfold (closure_ok fun y hy e => I.ok.has y.1 (ok.free y hy e)) ok.kind (fun x hx e => by
    have z := ok.uniq x hx
    rw [e] at z
    exact z) ?_
  refine thn (hi.run pins s σ H _ I h) fun xv s1 hx => thn hx fun itv s2 h2 => ?_
  obtain ⟨it, fp, tn, J, H2, rfl, I2, T, st2, f2, q⟩ := h2
  unfold newList
  refine wpAny_newObj_type (newEnv_comp ?_)
  have hDn := HOk.fresh I2.hok (Nat.le_refl s2.heap.objs.size)
  obtain ⟨W0, ⟨m0, w0⟩, turn⟩ := q s2.heap.objs.size hDn
  have I3 : Inv X pins σ (upd H2 s2.heap.objs.size (.lst [])) { heap := s2.heap.push { cls := .type "list", dict := none, data := .seq (List.toArray []) }, gens := s2.gens, drawn := s2.drawn, toks := s2.toks, os := s2.os } :=
    I2.laid (fun b o e => Heap.get?_push_of_some _ e) (Nat.le_refl _) ⟨Nat.zero_le _, [], 0, .nil, Heap.get?_push_size _ rfl⟩
  have f3 : ∀ b ∈ fp, FpOk X pins (upd H2 s2.heap.objs.size (.lst [])) b ∧ b < (s2.heap.push { cls := .type "list", dict := none, data := .seq (List.toArray []) }).objs.size := fun b hb => by
    obtain ⟨o, e, _⟩ := T.obj 0 s2.heap st2 b hb
    have lt := Heap.lt_size e
    obtain ⟨z1, z2⟩ := f2 b hb
    refine ⟨⟨?_, z2⟩, ?_⟩
    · rw [upd_ne (Nat.ne_of_lt lt)]
      exact z1
    · rw [Heap.size_push]
      exact Nat.lt_succ_of_lt lt
  have st3 := T.keep 0 s2.heap (s2.heap.push { cls := .type "list", dict := none, data := .seq (List.toArray []) }) st2 fun b _ o e => Heap.get?_push_of_some _ e
  have L := lcX_loop (use := use) (Qf := Qf) (elt := elt) (iter := iter) (pos := pos) tk hW hs hf hc hN I3 ok hg he T f3 st3 w0 turn hq
  exact L
/-- y = [e for x in xs], where e may raise -/
theorem ps_setLcX {X : Cx} {W : WX} {E : XK} {i : Nat} {y : Str} {py : Pos} {elt tg iter : Expr} {scope : Scope} {own : List (Str × Nat)} {pos spos : Pos} {wi : TI} {g : TG} {te : TE} (tk : Takes X W) (hW : ∀ cls d σ H, E cls d H → W cls d σ H) (hs : X.stack = X.env :: X.outer) (hf : X.env.frame = some X.env.locals)
    (hc : X.calm = true) (hN : X.N.Nodup) (hy : X.N[i]? = some y) (hyl : List.lookup y X.env.scope.names = some .local) (hsw : swapsWith (.ListComp elt [⟨tg, iter, [], 0⟩] scope pos) (some (.Name y py)) spos.line X.env = pure true) (hi : PI X tg iter wi) (ok : BlkOk X.N X.env.scope scope own)
    (hg : ∀ s H C cl fp, PG (X.blk s H scope (compEnvC scope cl C X.env) fp) tg g)
    (he : ∀ s H C cl fp xe, Passes (L2.CX X.prog X.w) (blkX X s H scope (compEnvC scope cl C X.env) fp xe) E → PE (blkX X s H scope (compEnvC scope cl C X.env) fp xe) elt te)
    (hfold : ∀ x, foldedSetIterable iter X.env x = pure x := by intro _; rfl) :
    PS X (.Assign [.Name y py] (.ListComp elt [⟨tg, iter, [], 0⟩] scope pos) spos) (tAsg (tLc wi g tYes te (own.map (·.2))) (gName i)) := by
  refine ⟨fun pins s σ H D I h => ?_⟩
  rw [exec_Assign_Name_used y py _ spos hsw]
  refine wpAny_bind (wpAny_standAt (wpAny_bind ?_))
  refine wpAny_bind (thn (lcX_core tk hW hs hf hc hN I hi ok hg he hfold h fun L C s' m H' I' q hn f => ?_) fun x s' hq => wpAny_pure (wpAny_pure hq))
  refine wpAny_assign_Name (store_ok2 (v := .ref L) I' hN hy (Or.inl hyl) (show RelV (.ref L) (Value.ref L) from rfl) (fun s2 I2 x => ?_) (Or.inr hyl))
  obtain ⟨a, sb, ha⟩ := x
  obtain ⟨f0, f1, f2, f3, f4, f5⟩ := f
  have haC : C ≠ a := by
    rcases ha with rfl | z
    · exact f1
    · exact fun e => f4 y a z e.symm
  exact ⟨m, hn.sameBut sb haC, fun h3 sb3 => ⟨σ.set i (some (.ref L)), H', I2.turned (fun b o hb e => (sb3.2 b hb).trans e) f0 f1 f3 f4 f5, q⟩⟩
end Ov
/-! ### a method's call within a try -/
namespace Ov
open PySem PySem.Spec PyProof.Rows L2
theorem ps_fldK {X : Cx} {K : PySem.W.Frag} {o value : Expr} {f : Str} {pos pos' : Pos} {ta tv : TE} (hK : X.K = K) (ho : PE X o ta) (hv : PE X value tv) (hs : swapsWith value (some (o.Attribute f pos')) pos.line X.env = pure false) : PS X (.Assign [o.Attribute f pos'] value pos) (sFld K ta tv f) := by
  subst hK
  exact ps_fld ho hv hs
theorem pe_methAt {X : Cx} {CX : CXT} {k : Nat} {f C : Addr} {fd : FuncData} {ps : List Str} {sp : Sp} {E : L2.St → XK} {m : Str} {pos apos : Pos} {e o : Expr} {es : List Expr} {ta : TE} {t : TA} {pl : Sem Bool} (he : PE X o ta) (c : Cls X.K C) (hm : Meth X.K C m f) (F : FnOk X.prog X.w X.K X.mg X.base CX k f fd ps sp) (hr : Room k X.A)
    (hb : Binds X.K fd ps []) (hx : ∀ σ, PassesAt CX X σ (E σ)) (ha : L2.PA X (e :: es) t) (hst : starEach (e :: es) X.env = (false, eval e X.env) :: starEach es X.env := by rfl) (hpl : ((backTo pos (starEach es X.env)).any fun x => x.1) = false := by rfl)
    (ht : eval ((o.Attribute m apos).Call (e :: es) [] pos) X.env = (do
      let ov ← eval o X.env
      standAt apos.atName
      let (f, first) ← holding [ov] (getMethod ov m pl)
      callWith pos f first (backTo pos (starEach (e :: es) X.env)) (backToKw pos (keywordEach [] X.env))) := by rfl) :
    PE X ((o.Attribute m apos).Call (e :: es) [] pos) (fun σ H Q => tMeth C m sp [] (E σ) ta t σ H Q) := by
  refine ⟨fun pins s σ H Q I h => W.methodCall_KW (thn (he.run pins s σ H _ I h) fun u s1 x => ?_) ht⟩
  obtain ⟨x1, H1, I1, rx, a, dx, fs, rfl, ea, l, q⟩ := x
  obtain rfl : u = Value.ref a := rx
  refine getmeth_ok I1 ea c hm l (W.callWith_K I.ok.mod.kin hm.kp (thn (ha.run pos pins s1 σ H1 _ I1 q) fun us s2 x => ?_) hst hpl)
  obtain ⟨vs, H2, I2, r, q2⟩ := x
  exact ⟨Inv.kIn I2, run_fnS F hr hb (hx σ) I2 (.cons (show RelV (.ref a) (Value.ref a) from rfl) r) (by simpa using q2)⟩
end Ov
/-! ### the program's runs -/
namespace Ov
open PySem PySem.Spec PyProof.Rows L2
/-- u is the i-th word, and what is within it -/
def SubAt (rows : List (Op × Int × List Nat)) (i : Nat) (u : W) : Prop := ∃ pre post, rows = pre ++ u.rows i ++ post ∧ pre.length = i
theorem SubAt.all (w : W) : SubAt (w.rows 0) 0 w := ⟨[], [], by simp, rfl⟩
theorem SubAt.row {rows : List (Op × Int × List Nat)} {i : Nat} {o : Op} {g : Int} {as : List W} (h : SubAt rows i (.mk o g as)) : rows[i]? = some (o, g, starts (i + 1) as) := by
  obtain ⟨pre, post, rfl, rfl⟩ := h
  rw [List.append_assoc, List.getElem?_append_right (Nat.le_refl _), Nat.sub_self, W.rows_mk]
  rfl
theorem rowss_get : ∀ (ws : List W) (b j : Nat) (a : W), ws[j]? = some a → (starts b ws)[j]? = some (b + W.sizes (ws.take j)) ∧ ∃ pre post, W.rowss b ws = pre ++ a.rows (b + W.sizes (ws.take j)) ++ post ∧ pre.length = W.sizes (ws.take j)
  | [], _, _, _, h => by simp at h
  | x :: r, b, 0, a, h => by
    obtain rfl : x = a := Option.some.inj h
    refine ⟨by rw [List.take_zero, W.sizes]; rfl, [], W.rowss (b + x.size) r, ?_, by rw [List.take_zero, W.sizes]; rfl⟩
    rw [List.take_zero, W.sizes, W.rowss]
    rfl
  | x :: r, b, j + 1, a, h => by
    obtain ⟨h1, pre, post, h2, h3⟩ := rowss_get r (b + x.size) j a h
    rw [List.take_succ_cons, W.sizes, ← Nat.add_assoc]
    refine ⟨h1, x.rows b ++ pre, post, ?_, by rw [List.length_append, W.rows_len, h3]⟩
    rw [W.rowss, h2]
    simp
theorem SubAt.arm {rows : List (Op × Int × List Nat)} {i : Nat} {o : Op} {g : Int} {as : List W} (h : SubAt rows i (.mk o g as)) {j : Nat} {a : W} (ha : as[j]? = some a) : ∃ k, (starts (i + 1) as)[j]? = some k ∧ SubAt rows k a := by
  obtain ⟨pre, post, rfl, rfl⟩ := h
  obtain ⟨h1, p2, q2, h2, h3⟩ := rowss_get as (pre.length + 1) j a ha
  refine ⟨_, h1, pre ++ [(o, g, starts (pre.length + 1) as)] ++ p2, q2 ++ post, ?_, by simp [h3]; omega⟩
  rw [W.rows_mk, h2]
  simp
/-- an answer of the program: what it comes to, or a fault -/
def AnsP (K : PySem.W.Frag) (x : PA) (pr : List (Int × W)) (told : V) (oth : Int) (H : Hp) (Q : VK) (E : XK) (r : Res) : Prop := match r with
  | .ok b s => ∀ H' y, ButP x H H' → RunAt K H' x pr told s oth → PV H' y b → Q y H'
  | .bad f s => ∀ H' d oth', ButP x H H' → RunAt K H' x pr told s oth' → H' d = some (.xd [("word", .str f.name)]) → E (.ref (He.ga K "Fault")) (some d) H'
theorem ButP.refl {x : PA} {H : Hp} : ButP x H H := fun _ _ _ _ _ e => e
theorem ButP.trans {x : PA} {H H1 H2 : Hp} (p : ButP x H H1) (q : ButP x H1 H2) : ButP x H H2 := fun b o n1 n2 n3 e => q b o n1 n2 n3 (p b o n1 n2 n3 e)
theorem ButP.same {x : PA} {H H' : Hp} (s : Same H H') : ButP x H H' := fun b o _ _ _ e => s b o e
theorem RunAt.keep {K : PySem.W.Frag} {H H' : Hp} {x : PA} {pr : List (Int × W)} {told : V} {s : RS} {oth : Int} (h : RunAt K H x pr told s oth) (b : ButP x H H') : Keep H H' := fun a xs e => b a _ (ne_of e h.ob (by intro z; cases z)) (ne_of e h.sa (by intro z; cases z)) (ne_of e h.ro (by intro z; cases z)) e
theorem AnsP.but {K : PySem.W.Frag} {x : PA} {pr : List (Int × W)} {told : V} {oth : Int} {H H1 : Hp} {Q : VK} {E : XK} (b : ButP x H H1) : ∀ {r : Res}, AnsP K x pr told oth H Q E r → AnsP K x pr told oth H1 Q E r
  | .ok _ _, h => fun H' y b' => h H' y (b.trans b')
  | .bad _ _, h => fun H' d oth' b' => h H' d oth' (b.trans b')
theorem RunAt.same {K : PySem.W.Frag} {H H' : Hp} {x : PA} {pr : List (Int × W)} {told : V} {s : RS} {oth : Int} (h : RunAt K H x pr told s oth) (e : Same H H') : RunAt K H' x pr told s oth := by
  obtain ⟨h1, ⟨bs, h2, h3, h4⟩, h5, h6, n⟩ := h
  exact ⟨e _ _ h1, ⟨bs, e _ _ h2, L2.Paired.mapP h3 fun _ _ z => z.same e, h4⟩, e _ _ h5, e _ _ h6, n⟩
/-- a fault that is told here -/
theorem AnsP.out {K : PySem.W.Frag} {x : PA} {pr : List (Int × W)} {told : V} {oth oth' : Int} {H H1 : Hp} {Q : VK} {E : XK} {f : Flt} {s : RS} (h : AnsP K x pr told oth H Q E (.bad f s)) (b : ButP x H H1) (r : RunAt K H1 x pr told s oth') : Out K H1 E f.name := fun H' d s' _ e => h H' d oth' (b.trans (ButP.same s')) (r.same s') e
/-- the object's two numbers are written -/
theorem runFs_calls {x : PA} {told : V} {c d : Int} {oth : Int} : putF "calls" (.int d) (runFs x told c oth) = runFs x told d oth := by rfl
theorem runFs_others {x : PA} {told : V} {c : Int} {o1 o2 : Int} : putF "others" (.int o2) (runFs x told c o1) = runFs x told c o2 := by rfl
theorem runFs_told {x : PA} {t1 t2 : V} {c : Int} {o : Int} : putF "told" t2 (runFs x t1 c o) = runFs x t2 c o := by rfl
theorem RunAt.wr {K : PySem.W.Frag} {H : Hp} {x : PA} {pr : List (Int × W)} {told told' : V} {s : RS} {oth oth' : Int} {c : Nat} (h : RunAt K H x pr told s oth) : RunAt K (upd H x.a (.ins (He.ga K "Run") x.dx (runFs x told' (c : Int) oth'))) x pr told' { s with calls := c } oth' ∧ ButP x H (upd H x.a (.ins (He.ga K "Run") x.dx (runFs x told' (c : Int) oth'))) := by
  obtain ⟨h1, ⟨bs, h2, h3, h4⟩, h5, h6, n⟩ := h
  have ne : ∀ {b : Addr} {l : List V}, H b = some (.lst l) → b ≠ x.a := fun e => ne_of e h1 (by intro z; cases z)
  have kt : Keep H (upd H x.a (.ins (He.ga K "Run") x.dx (runFs x told' (c : Int) oth'))) := fun b xs e => by
    rw [upd_ne (ne_of e h1 (by intro z; cases z))]
    exact e
  refine ⟨⟨upd_same, ⟨bs, by rw [upd_ne (ne h2)]; exact h2, L2.Paired.mapP h3 fun b f z => ?_, h4⟩, by rw [upd_ne (ne h5)]; exact h5, by rw [upd_ne (ne h6)]; exact h6, n⟩, fun b o n1 _ _ e => by rw [upd_ne n1]; exact e⟩
  obtain ⟨ys, z1, z2⟩ := z
  exact ⟨ys, by rw [upd_ne (ne z1)]; exact z1, L2.Paired.mapP z2 fun _ _ y => y.keep kt⟩
def spEnter (K : PySem.W.Frag) : Sp := fun vs H Q _ => ∃ (x : PA) (pr : List (Int × W)) (told v : V) (s : RS) (oth : Int) (f : Nat), vs = [.ref x.a, v, .int (f : Int)] ∧ RunAt K H x pr told s oth ∧ s.row.length ≤ most ∧ ∀ H', ButP x H H' → RunAt K H' x pr told { s with row := s.row ++ [f] } oth → Q .non H'
def spBack (K : PySem.W.Frag) : Sp := fun vs H Q _ => ∃ (x : PA) (pr : List (Int × W)) (told : V) (s : RS) (oth : Int) (p : Addr) (f w : Nat), vs = [.ref x.a, .ref p] ∧ H p = some (.tup [.int (f : Int), .int (w : Int)]) ∧ RunAt K H x pr told s oth ∧ s.row.length ≤ most ∧ ∀ H', ButP x H H' → RunAt K H' x pr told { s with row := s.row ++ [f] } oth → Q .non H'
def spCallP (K : PySem.W.Frag) (pr : List (Int × W)) (n : Nat) : Sp := fun vs H Q E => ∃ (x : PA) (told v : V) (s : RS) (oth : Int) (p : Addr) (c wi f : Nat) (a : Wt), vs = [.ref x.a, .ref p, .int (f : Int), v] ∧ H p = some (.tup [.int (c : Int), .int (wi : Int)]) ∧ RunAt K H x pr told s oth ∧ PrOk pr ∧ c < pr.length ∧ f < pr.length ∧ PV H v a ∧ WtOk pr.length a ∧ s.phi ≤ most ∧ oth + (n : Int) = 12 ∧ AnsP K x pr told oth H Q E (evC pr n c f a s)
def spWorth (K : PySem.W.Frag) (pr : List (Int × W)) (n d : Nat) : Sp := fun vs H Q E => ∃ (x : PA) (told v : V) (s : RS) (oth : Int) (f wi : Nat) (p : Int × W) (u : W) (a : Wt), vs = [.ref x.a, .int (f : Int), .int (wi : Int), v] ∧ RunAt K H x pr told s oth ∧ PrOk pr ∧ pr[f]? = some p ∧ SubAt (p.2.rows 0) wi u ∧ WOk pr.length d u ∧ PV H v a ∧ WtOk pr.length a ∧ s.phi + u.size ≤ most ∧ oth + (n : Int) = 12 ∧ AnsP K x pr told oth H Q E (evB (evC pr n f) a d u s)
end Ov
namespace Ov
open PySem PySem.Spec PyProof.Rows L2
theorem RunAt.fresh {K : PySem.W.Frag} {H0 H : Hp} {x : PA} {pr : List (Int × W)} {told told0 : V} {s s0 : RS} {oth oth0 : Int} {D : Addr} {us us' : List V} (h0 : RunAt K H0 x pr told0 s0 oth0) (hD : H0 D = none) (b : ButP x H0 H) (h : RunAt K H x pr told s oth) (e : H D = some (.lst us)) : RunAt K (upd H D (.lst us')) x pr told s oth := by
  have kt := Keep.updL (ys := us') e
  obtain ⟨bs0, g2, g3, g4⟩ := h0.bo
  obtain ⟨h1, ⟨bs, h2, h3, h4⟩, h5, h6, n1, n2, n3⟩ := h
  have ne : ∀ {b : Addr} {o : HO}, H0 b = some o → b ≠ D := fun e => ne_of_none e hD
  have nbo : x.bo ≠ x.a := ne_of g2 h0.ob (by intro z; cases z)
  have e2 := b _ _ nbo n1 n2 g2
  have eq : bs = bs0 := by
    have z := h2.symm.trans e2
    have z2 : bs.map V.ref = bs0.map V.ref := by
      injection z with z
      injection z
    exact List.map_inj_right (fun _ _ q => by injection q) |>.mp z2
  subst eq
  refine ⟨by rw [upd_ne (ne h0.ob)]; exact h1, ⟨bs, by rw [upd_ne (ne g2)]; exact h2, PairedMem.map h3 fun b f hb z => ?_, h4⟩, by rw [upd_ne (ne h0.sa)]; exact h5, by rw [upd_ne (ne h0.ro)]; exact h6, n1, n2, n3⟩
  obtain ⟨f0, ys0, z0, _⟩ := PairedMem.left g3 b hb
  obtain ⟨ys, z1, z2⟩ := z
  exact ⟨ys, by rw [upd_ne (ne z0)]; exact z1, L2.Paired.mapP z2 fun _ _ y => y.keep kt⟩
theorem ButP.updn {x : PA} {H H' : Hp} {D : Addr} {o : HO} (b : ButP x H H') (hD : H D = none) : ButP x H (upd H' D o) := fun c u n1 n2 n3 e => by
  rw [upd_ne (ne_of_none e hD)]
  exact b c u n1 n2 n3 e
theorem drop_get {α : Type} {l : List α} {i : Nat} {a : α} (h : l[i]? = some a) : l.drop i = a :: l.drop (i + 1) := by
  obtain ⟨lt, e⟩ := List.getElem?_eq_some_iff.mp h
  rw [List.drop_eq_getElem_cons lt, e]
theorem paired_two {α β : Type} {R : α → β → Prop} {us : List α} {vs : List β} (h : Paired R us vs) (l : vs.length = 2) : ∃ x y u v, us = [x, y] ∧ vs = [u, v] ∧ R x u ∧ R y v := by
  obtain ⟨x, y, a, b, h1, h2, h3, h4⟩ := two_of h l
  exact ⟨x, y, a, b, h1, h2, h3, h4⟩
end Ov
namespace Ov
open PySem PySem.Spec PyProof.Rows L2
def spBegin (K : PySem.W.Frag) : Sp := fun vs H Q _ => ∃ (x : PA) (pr : List (Int × W)) (z : Int), vs = [.ref x.a, .int z] ∧ RunAt K H x pr .non ⟨[], 0, [], [], []⟩ 0 ∧ PrOk pr ∧ 0 ≤ z ∧ z < 1000 ∧
  ∀ H' t oth, ButP x H H' → RunAt K H' x pr (.ref t) (evR pr z).st oth → H' t = some (.tup [.str (endD (evR pr z)).1, (endD (evR pr z)).2]) → Q .non H'
end Ov
namespace Ov
open PySem PySem.Spec PyProof.Rows L2
def spCheckNumber : Sp := fun vs H Q _ => ∃ z : Int, vs = [.int z] ∧ 0 ≤ z ∧ z < 1000 ∧ Q .non H
def spPlainRun (K : PySem.W.Frag) : Sp := fun vs H Q _ => ∃ (v : V) (pr : List (Int × W)) (z : Int), vs = [v, .int z] ∧ PrAt H v pr ∧ PrOk pr ∧ 0 ≤ z ∧ z < 1000 ∧
  ∀ H' x t oth, Same H H' → H x.sa = none → H x.ro = none → RunAt K H' x pr (.ref t) (evR pr z).st oth → H' t = some (.tup [.str (endD (evR pr z)).1, (endD (evR pr z)).2]) → Q (.ref x.a) H'
def spRunTold : Sp := fun vs H Q _ => ∃ (v : V) (pr : List (Int × W)) (z : Int), vs = [v, .int z] ∧ PrAt H v pr ∧ PrOk pr ∧ 0 ≤ z ∧ z < 1000 ∧
  ∀ H' r t sa, Same H H' → H sa = none → H' r = some (.tup [.ref t, .ref sa]) → H' t = some (.tup [.str (endD (evR pr z)).1, (endD (evR pr z)).2]) → H' sa = some (.lst ((evR pr z).st.said.map V.int)) → Q (.ref r) H'
def spTraced : Sp := fun vs H Q _ => ∃ (v : V) (pr : List (Int × W)) (z : Int), vs = [v, .int z] ∧ PrAt H v pr ∧ PrOk pr ∧ 0 ≤ z ∧ z < 1000 ∧
  ∀ H' ro, Same H H' → H ro = none → H' ro = some (.lst (nV (evR pr z).st.row)) → Q (.ref ro) H'
/-! ### refused -/
def NoNum (z : Int) : Prop := (z < 0 ∨ 1000 ≤ z) ∧ z.natAbs < 10 ^ 9
def OutN (K : PySem.W.Frag) (H : Hp) (E : XK) : Prop := ∀ H', Same H H' → E (.ref (He.ga K "BadNumber")) none H'
theorem OutN.same {K : PySem.W.Frag} {H H1 : Hp} {E : XK} (h : OutN K H E) (s : Same H H1) : OutN K H1 E := fun H' s' => h H' (s.trans s')
def spCheckNumberX (K : PySem.W.Frag) : Sp := fun vs H _ E => ∃ z : Int, vs = [.int z] ∧ NoNum z ∧ OutN K H E
def spRunX (K : PySem.W.Frag) : Sp := fun vs H _ E => ∃ (v : V) (pr : List (Int × W)) (z : Int), vs = [v, .int z] ∧ PrAt H v pr ∧ PrOk pr ∧ NoNum z ∧ OutN K H E
theorem NoNum.log {z : Int} (h : NoNum z) : z.natAbs.log2 < 1920 := by
  have h2 := h.2
  by_cases h0 : z.natAbs = 0
  · rw [h0]
    decide
  exact (Nat.log2_lt h0).mpr (Nat.lt_trans h2 (by decide))
theorem NoNum.len {z : Int} (h : NoNum z) : (PySem.Str.ofString (toString z)).length ≤ 10 := by
  have e := PySem.int_text_length_le10 (k := 9) (by decide) h.2
  rw [PySem.ofString_length]
  omega
end Ov
/-! ### what halls refuse -/
namespace Ov
open PySem PySem.Spec PyProof.Rows L2
def OutC (K : PySem.W.Frag) (n : Str) (H : Hp) (E : XK) : Prop := ∀ H', Same H H' → E (.ref (He.ga K n)) none H'
theorem OutC.same {K : PySem.W.Frag} {n : Str} {H H1 : Hp} {E : XK} (h : OutC K n H E) (s : Same H H1) : OutC K n H1 E := fun H' s' => h H' (s.trans s')
def Small9 (z : Int) : Prop := z.natAbs < 10 ^ 9
theorem Small9.log {z : Int} (h2 : Small9 z) : z.natAbs.log2 < 1920 := by
  unfold Small9 at h2
  by_cases h0 : z.natAbs = 0
  · rw [h0]
    decide
  exact (Nat.log2_lt h0).mpr (Nat.lt_trans h2 (by decide))
theorem Small9.len {z : Int} (h : Small9 z) : (PySem.Str.ofString (toString z)).length ≤ 10 := by
  have e := PySem.int_text_length_le10 (k := 9) (by decide) h
  rw [PySem.ofString_length]
  omega
def spCheckRoomX (K : PySem.W.Frag) : Sp := fun vs H _ E => ∃ z : Int, vs = [.int z] ∧ (z < 1 ∨ 64 < z) ∧ Small9 z ∧ OutC K "BadRoom" H E
def spCheckFunctionX (K : PySem.W.Frag) : Sp := fun vs H _ E => ∃ (f : Int) (n : Nat), vs = [.int f, .int (n : Int)] ∧ (f < 0 ∨ (n : Int) ≤ f) ∧ Small9 f ∧ OutC K "BadFunction" H E
def spHallX (K : PySem.W.Frag) : Sp := fun vs H _ E => ∃ (H0 : Hp) (x : HA) (wys : List (List Nat)) (L : List Lay) (lc : List (Option Cnt)) (mv : Int) (far : Nat) (f : Int), vs = [.ref x.a, .int f] ∧ HallIn K H0 H x wys L lc mv far ∧ (f < 0 ∨ (wys.length : Int) ≤ f) ∧ Small9 f ∧ OutC K "BadFunction" H E
def spCheckRoomB (K : PySem.W.Frag) : Sp := fun vs H Q E => ∃ z : Int, vs = [.int z] ∧ Small9 z ∧ (1 ≤ z → z ≤ 64 → Q .non H) ∧ (z < 1 ∨ 64 < z → OutC K "BadRoom" H E)
def spHallInitX (K : PySem.W.Frag) : Sp := fun vs H _ E => ∃ (a : V) (v t : V) (pr : List (Int × W)) (ps : List (List Nat)) (st : List Int) (dn : Nat → List Nat) (far z : Int), vs = [a, v, t, .int z] ∧ preT H v t pr ps st ∧ Dn pr.length ps st dn ∧ Far pr ps dn far ∧ (z < far ∨ 64 < z) ∧ Small9 z ∧ OutC K "BadRoom" H E
end Ov
/-! ### del xs[a:] -/
namespace Ov
open PySem PySem.Spec PyProof.Rows L2
open PySem.Calls PySem.W
def mysel (start stop step : Int) (i : Nat) : Bool :=
  if step > 0 then start ≤ i && i < stop && (i - start) % step == 0
  else stop < i && i ≤ start && (start - i) % (-step) == 0
theorem bounds_from {a n : Nat} (ha : a ≤ n) : sliceBounds (some (a : Int)) none none n = ((a : Int), (n : Int), 1) := by
  simp only [sliceBounds, Option.getD_none]
  have h1 : ¬ ((a : Int) < 0) := by omega
  simp only [h1, if_false, show (1 : Int) > 0 by decide, if_true]
  congr 1
  omega
theorem sel_take (its : List Value) (a : Nat) (ha : a ≤ its.length) (g : Value × Nat → Option Value) (g1 : ∀ x k, k < a → g (x, k) = some x) (g2 : ∀ x k, a ≤ k → k < its.length → g (x, k) = none) : its.zipIdx.filterMap g = its.take a := by
  have e : its.zipIdx = (its.take a).zipIdx ++ (its.drop a).zipIdx a := by
    conv => lhs; rw [← List.take_append_drop a its]
    rw [List.zipIdx_append, List.length_take, Nat.min_eq_left ha, Nat.zero_add]
  have h1 : ∀ (l : List Value) (k : Nat), k + l.length ≤ a → (l.zipIdx k).filterMap g = l := by
    intro l
    induction l with
    | nil => intro k _; rfl
    | cons x l ih =>
      intro k hk
      rw [List.length_cons] at hk
      rw [List.zipIdx_cons, List.filterMap_cons, g1 x k (by omega), ih (k + 1) (by omega)]
  have h2 : ∀ (l : List Value) (k : Nat), a ≤ k → k + l.length ≤ its.length → (l.zipIdx k).filterMap g = [] := by
    intro l
    induction l with
    | nil => intro k _ _; rfl
    | cons x l ih =>
      intro k hk hk2
      rw [List.length_cons] at hk2
      rw [List.zipIdx_cons, List.filterMap_cons, g2 x k hk (by omega), ih (k + 1) (by omega) (by omega)]
  rw [e, List.filterMap_append, h1 _ 0 (by rw [List.length_take]; omega), h2 _ a (Nat.le_refl _) (by rw [List.length_drop]; omega), List.append_nil]
section
variable {prog : Program} {w : World} {A : Around} {E : Value → Shared → Prop} {s : Shared}
theorem delItem_slice {l sl : Addr} {items : Array Value} {n : Nat} {vl : Value} {a : Nat} {Q : Unit → Shared → Prop}
    (e : s.heap.get? l = some { cls := .type "list", data := .seq items n }) (hs : s.heap.IsSliceOf sl vl .none .none) (pl : IsPart vl (some (a : Int))) (ha : a ≤ items.size) (hsz : items.size ≤ sizeLine)
    (h : ∀ f : Array Value → Array Value, f items = (items.toList.take a).toArray → Q () { s with heap := s.heap.update l (Obj.mapSeq f) }) :
    wpAny (model prog w) A (delItem (.ref l) (.ref sl)) Q E s := by
  have hl : s.heap.IsList l items := PySem.IsL.isList e
  obtain ⟨os, hos, hcs, hds⟩ := id hs
  have hTs : s.TypeIs (.ref sl) "slice" := ⟨os, hos, hcs⟩
  have hstep : ¬ ((rawPart none == rawInt 0) = true) := Bool.false_ne_true
  refine wpAny_delItem_slot hl.typeIs (by decide) PySem.F.slot_list_delitem (wpAny_call_entry PySem.F.slot_list_delitem hl.typeIs PySem.F.entry_list_delitem ?_ (PySem.F.args_list_delitem_2 _ _))
  show wpAny _ _ (Builtin.List.listSubscript? (.ref sl) >>= _) _ _ s
  refine wpAny_bind ?_
  unfold Builtin.List.listSubscript?
  refine wpAny_bind (wpAny_specialOf hTs slice_no_index ?_)
  simp only [Option.isNone_none, if_true]
  refine wpAny_pure ?_
  show wpAny _ _ (typeOf (.ref sl) >>= _) _ _ s
  refine wpAny_bind (wpAny_typeOf hTs ?_)
  first
    | rw [if_neg (by decide)]
    | refine PySem.W.KFB.if_not (by decide) ?_
  rw [listSliceParts_eq]
  refine wpAny_bind (wpAny_bind (wpAny_field hos hds (x := .none) rfl (wpAny_bind (wpAny_listPart .none ?_))))
  rw [if_neg hstep]
  refine wpAny_bind (wpAny_field hos hds (x := vl) rfl (wpAny_bind (wpAny_listPart pl ?_)))
  refine wpAny_bind (wpAny_field hos hds (x := .none) rfl (wpAny_bind (wpAny_listPart .none (wpAny_pure ?_))))
  unfold Builtin.List.listItems
  refine wpAny_bind (wpAny_bind (wpAny_seqItems e rfl (wpAny_pure ?_)))
  refine wpAny_bind (wpAny_of_eq ((sliceIndices_raw (some (a : Int)) none none items.size (by simp)).trans (congrArg (pure : Int × Int × Int → Sem (Int × Int × Int)) (bounds_from ha))) ?_)
  refine wpAny_bind (wpAny_rule ?_)
  have key : ∀ g : Value × Nat → Option Value, (∀ x k, k < a → g (x, k) = some x) → (∀ x k, a ≤ k → k < items.size → g (x, k) = none) → (items.toList.zipIdx.filterMap g).toArray = (items.toList.take a).toArray := fun g g1 g2 => congrArg List.toArray (sel_take items.toList a (by rw [Array.length_toList]; exact ha) g g1 (by rw [Array.length_toList]; exact g2))
  have step : ∀ (g : Value × Nat → Option Value) (gone : List Value), (∀ x k, k < a → g (x, k) = some x) → (∀ x k, a ≤ k → k < items.size → g (x, k) = none) →
      wpAny (model prog w) A.in1 (do
        Builtin.List.listUpdate (.ref l) fun xs => (xs.toList.zipIdx.filterMap g).toArray
        letGo gone
        ret .none) (fun fin s' => ∃ v, fin = Fin.done (Flow.ret v) ∧ Q () s') E s := fun g gone g1 g2 => by
    have hk := key g g1 g2
    have hz' : ((fun xs : Array Value => (xs.toList.zipIdx.filterMap g).toArray) items).size ≤ sizeLine + 1 := by
      show ((items.toList.zipIdx.filterMap g).toArray).size ≤ _
      rw [hk, List.size_toArray, List.length_take, Array.length_toList]
      exact Nat.le_trans (Nat.min_le_right _ _) (Nat.le_succ_of_le hsz)
    show wpAny _ _ (updateSeq l (fun xs => (xs.toList.zipIdx.filterMap g).toArray) >>= _) _ _ s
    refine wpAny_bind (wpAny_updateSeq (hz := hsz) (_hz' := hz') e rfl ?_)
    refine wpAny_bind (wpAny_letGo ?_)
    exact wpAny_pure ⟨.none, rfl, h _ hk⟩
  refine step _ _ (fun x k hk => ?_) (fun x k h1 h2 => ?_)
  · have z : mysel (a : Int) (items.size : Int) 1 k = false := by
      unfold mysel
      rw [if_pos (by decide)]
      simp
      omega
    refine if_neg (?_ : ¬ (mysel (a : Int) (items.size : Int) 1 k = true))
    rw [z]
    decide
  · have z : mysel (a : Int) (items.size : Int) 1 k = true := by
      unfold mysel
      rw [if_pos (by decide)]
      simp
      omega
    exact if_pos (z : mysel (a : Int) (items.size : Int) 1 k = true)
end
section
variable {X : Cx}
def tDelFrom (to ti : TE) : TS := fun D σ H => to σ H fun x H1 => ti σ H1 fun y H2 => ∃ (l : Addr) (xs : List V) (a : Nat), x = .ref l ∧ y = .int (a : Int) ∧ H2 l = some (.lst xs) ∧ a ≤ xs.length ∧ D.nx σ (upd H2 l (.lst (xs.take a)))
theorem ps_delFrom {o lo : Expr} {to ti : TE} {p2 tpos pos : Pos} (ho : PE X o to) (hi : PE X lo ti) : PS X (.Delete [.Subscript o (.Slice (some lo) none none p2) tpos] pos) (tDelFrom to ti) := by
  refine ⟨fun pins s σ H D I h => ?_⟩
  refine wpAny_Delete (wpAny_deleteEach_cons (wpAny_delete_Subscript (thn (ho.run pins s σ H _ I h) fun u s1 ⟨x, H1, I1, rx, q1⟩ => ?_)))
  refine wpAny_Slice (thn (hi.run pins s1 σ H1 _ I1 q1) fun iv s2 ⟨y, H2, I2, ry, q2⟩ => ?_)
  rw [evalPart_none]
  refine wpAny_pure ?_
  refine wpAny_pure ?_
  obtain ⟨l, xs, a, ex, ey, hH, ha, q2⟩ := q2
  subst ex
  subst ey
  cases (show u = Value.ref l from rx)
  obtain ⟨t, rfl⟩ := (show ∃ t, iv = Value.int (a : Int) t from ry)
  have I4 : Inv X pins σ H2 { s2 with heap := s2.heap.push { cls := .type "slice", data := .fields #[.int (a : Int) t, .none, .none] } } := I2.kept (t' := s2.toks) fun b ob q => Heap.get?_push_of_some _ q
  obtain ⟨z, its, n, r, hl, e⟩ := I4.lstM hH
  refine delItem_slice (a := a) e (Heap.IsSliceOf.new ..) (.int _ _) (by rw [List.size_toArray]; omega) (by rw [List.size_toArray]; omega) fun f hf => ?_
  refine wpAny_deleteEach_nil ⟨σ, _, ?_, q2⟩
  refine I4.lset (its' := its.take a) (t' := s2.toks) hH e ?_ (r.take a) ?_
  · exact hf
  · rw [List.length_take]
    omega
end
end Ov
/-! ### texts of programs: words as signs -/
namespace Ov
open PySem PySem.Spec PyProof.Rows L2
abbrev sg (x : Str) : List Nat := x.cps.toList
def numS (n : Nat) : Str := Str.ofString (toString ((n : Nat) : Int))
def Op.toks (o : Op) (g : Int) : List Str := o.name :: (if o.gives then [numS g.toNat] else [])
mutual
def W.toks : W → List Str
  | .mk o g as => o.toks g ++ W.tokss as
def W.tokss : List W → List Str
  | [] => []
  | a :: r => a.toks ++ W.tokss r
end
theorem W.toks_mk (o : Op) (g : Int) (as : List W) : (W.mk o g as).toks = o.toks g ++ W.tokss as := by rw [W.toks]
mutual
theorem W.toks_rows : ∀ (b : Nat) (u : W), (u.rows b).flatMap (fun r => r.1.toks r.2.1) = u.toks
  | b, .mk o g as => by
    rw [W.rows_mk, List.flatMap_cons, W.tokss_rows (b + 1) as, W.toks]
theorem W.tokss_rows : ∀ (b : Nat) (ws : List W), (W.rowss b ws).flatMap (fun r => r.1.toks r.2.1) = W.tokss ws
  | b, [] => by rw [W.rowss, W.tokss]; rfl
  | b, a :: r => by rw [W.rowss, W.tokss, List.flatMap_append, W.toks_rows b a, W.tokss_rows _ r]
end
/-- what may stand in a row: a word's name, a number -/
def IsTok (t : Str) : Prop := (∃ o : Op, t = o.name) ∨ ∃ n, n < 100 ∧ t = numS n
def tokB (t : Str) : Bool := decide (32 ∉ sg t) && decide (10 ∉ sg t) && decide (t.length ≤ 8) && decide (0 < t.length)
theorem num_tokB : ((List.range 100).all fun n => tokB (numS n)) = true := by decide +kernel
theorem name_tokB (o : Op) : tokB o.name = true := by cases o <;> decide +kernel
theorem IsTok.ok {t : Str} (h : IsTok t) : 32 ∉ sg t ∧ 10 ∉ sg t ∧ t.length ≤ 8 ∧ 0 < t.length := by
  have e : tokB t = true := by
    rcases h with ⟨o, rfl⟩ | ⟨n, hn, rfl⟩
    · exact name_tokB o
    · exact List.all_eq_true.mp num_tokB n (List.mem_range.mpr hn)
  unfold tokB at e
  simp only [Bool.and_eq_true, decide_eq_true_eq] at e
  exact ⟨e.1.1.1, e.1.1.2, e.1.2, e.2⟩
def numB (t : Str) (n : Nat) : Bool := Txt.isdigit t && decide (t.length ≤ 2) && (decide (t = "0") || (match t.cps.toList with
  | c :: _ => !decide ((⟨#[c]⟩ : Str) = "0")
  | [] => false)) && decide (PySem.intText? t = some (n : Int)) && [Op.num, .arg, .way, .plus, .less, .times, .ife, .thn, .say, .call, .through].all fun o => !decide (o.name = t)
theorem num_numB : ((List.range 100).all fun n => numB (numS n) n) = true := by decide +kernel
theorem num_facts {n : Nat} (h : n < 100) : Txt.isdigit (numS n) = true ∧ (numS n).length ≤ 2 ∧ (numS n = "0" ∨ ∃ c, atI (numS n).cps.toList 0 = some c ∧ (⟨#[c]⟩ : Str) ≠ "0") ∧ PySem.intText? (numS n) = some (n : Int) ∧ ∀ o : Op, o.name ≠ numS n := by
  have e := List.all_eq_true.mp num_numB n (List.mem_range.mpr h)
  unfold numB at e
  simp only [Bool.and_eq_true, Bool.or_eq_true, decide_eq_true_eq] at e
  obtain ⟨⟨⟨⟨h1, h2⟩, h3⟩, h4⟩, h5⟩ := e
  refine ⟨h1, h2, ?_, h4, fun o => ?_⟩
  · rcases h3 with h3 | h3
    · exact .inl h3
    · right
      cases z : (numS n).cps.toList with
      | nil => rw [z] at h3; cases h3
      | cons c r =>
        rw [z] at h3
        exact ⟨c, atI_nat (j := 0) rfl, by simpa using h3⟩
  · have := List.all_eq_true.mp h5 o (by cases o <;> simp)
    simpa using this
/-! ### what must come still -/
def sBody : Str := "body"
def sNum : Str := "number"
def Op.asks (o : Op) : List Str := List.replicate o.arity sBody ++ (if o.gives then [sNum] else [])
inductive OkT : List Str → List Str → Prop
  | nil : OkT [] []
  | word {base ts : List Str} {o : Op} : OkT (base ++ o.asks) ts → OkT (base ++ [sBody]) (o.name :: ts)
  | num {base ts : List Str} {n : Nat} : n < 100 → OkT base ts → OkT (base ++ [sNum]) (numS n :: ts)
theorem gives_lt {n : Nat} (hn : n ≤ 100) {o : Op} {g : Int} (hf : o.fits n g) (hg : o.gives = true) : 0 ≤ g ∧ g < 100 := by
  cases o <;> first | (simp [Op.gives] at hg; done) | skip
  · have z : 0 ≤ g ∧ g ≤ 99 := hf
    omega
  · have z : 0 ≤ g ∧ g < n := hf
    omega
  · have z : 0 ≤ g ∧ g < n := hf
    omega
theorem okT_ws' {n d : Nat} {base rest : List Str} (as : List W) (ih : ∀ a ∈ as, ∀ (base rest : List Str), OkT base rest → OkT (base ++ [sBody]) (a.toks ++ rest)) (h : OkT base rest) : OkT (base ++ List.replicate as.length sBody) (W.tokss as ++ rest) := by
  induction as with
  | nil =>
    rw [W.tokss, List.length_nil, List.replicate_zero, List.append_nil]
    exact h
  | cons a r ihr =>
    rw [W.tokss, List.length_cons, List.replicate_succ', ← List.append_assoc, List.append_assoc a.toks]
    exact ih a List.mem_cons_self _ _ (ihr fun b hb => ih b (List.mem_cons_of_mem _ hb))
theorem okT_w {n d : Nat} (hn : n ≤ 100) {w : W} (h : WOk n d w) : ∀ {base rest : List Str}, OkT base rest → OkT (base ++ [sBody]) (w.toks ++ rest) := by
  induction h with
  | @mk d o g as h1 h2 h3 ih =>
    intro base rest hr
    have hl := okT_ws' (n := n) (d := d) as (fun a ha base rest => ih a ha) hr
    rw [W.toks_mk]
    show OkT _ (o.name :: ((if o.gives then [numS g.toNat] else []) ++ W.tokss as) ++ rest)
    rw [List.cons_append]
    refine .word ?_
    unfold Op.asks
    rw [h1] at hl
    by_cases hg : o.gives = true
    · rw [if_pos hg, if_pos hg, ← List.append_assoc base]
      show OkT ((base ++ List.replicate o.arity sBody) ++ [sNum]) (numS g.toNat :: (W.tokss as ++ rest))
      exact .num (by have := gives_lt hn h2 hg; omega) hl
    · rw [if_neg hg, if_neg hg, List.append_nil, List.nil_append]
      exact hl
/-- the words of a row -/
def rowT (f : Int × W) : List Str := numS f.1.toNat :: f.2.toks
theorem rowT_ok {n : Nat} (hn : n ≤ 8) {f : Int × W} (h : FOk n f) : OkT [sBody, sNum] (rowT f) := by
  obtain ⟨h1, h2, h3, _⟩ := h
  refine OkT.num (base := [sBody]) (by omega) ?_
  have := okT_w (n := n) (by omega) h3 (base := []) (rest := []) .nil
  rw [List.append_nil] at this
  exact this
theorem OkT.isTok {need ts : List Str} (h : OkT need ts) : ∀ t ∈ ts, IsTok t := by
  induction h with
  | nil => exact fun _ z => nomatch z
  | word _ ih =>
    intro t ht
    rcases List.mem_cons.mp ht with rfl | ht
    · exact .inl ⟨_, rfl⟩
    · exact ih t ht
  | num hn _ ih =>
    intro t ht
    rcases List.mem_cons.mp ht with rfl | ht
    · exact .inr ⟨_, hn, rfl⟩
    · exact ih t ht
mutual
theorem W.toks_len : ∀ w : W, w.toks.length ≤ 2 * w.size
  | .mk o g as => by
    have := W.tokss_len as
    rw [W.toks_mk, List.length_append, W.size_mk]
    have e : (o.toks g).length ≤ 2 := by unfold Op.toks; split <;> simp
    omega
theorem W.tokss_len : ∀ ws : List W, (W.tokss ws).length ≤ 2 * W.sizes ws
  | [] => by rw [W.tokss]; exact Nat.zero_le _
  | a :: r => by
    have h1 := W.toks_len a
    have h2 := W.tokss_len r
    rw [W.tokss, List.length_append, W.sizes]
    omega
end
theorem rowT_len {n : Nat} {f : Int × W} (h : FOk n f) : (rowT f).length ≤ 81 := by
  have := W.toks_len f.2
  have := h.2.2.2
  unfold rowT
  rw [List.length_cons]
  omega
/-! ### read from the end on -/
inductive It where
  | num (n : Nat)
  | node (o : Op) (as : List It)
def Op.cnt (o : Op) : Nat := o.arity + (if o.gives then 1 else 0)
def opOf (t : Str) : Option Op := [Op.num, .arg, .way, .plus, .less, .times, .ife, .thn, .say, .call, .through].find? fun o => decide (o.name = t)
theorem opOf_name (o : Op) : opOf o.name = some o := by cases o <;> decide +kernel
theorem opOf_num {n : Nat} (h : n < 100) : opOf (numS n) = none := by
  unfold opOf
  rw [List.find?_eq_none]
  intro o _
  simpa using (num_facts h).2.2.2.2 o
def act (t : Str) (st : List It) : List It := match opOf t with
  | some o => st.take (st.length - o.cnt) ++ [.node o (st.drop (st.length - o.cnt)).reverse]
  | none => st ++ [.num ((PySem.intText? t).getD 0).toNat]
def parse : List Str → List It
  | [] => []
  | t :: ts => act t (parse ts)
theorem parse_num {n : Nat} (h : n < 100) (ts : List Str) : parse (numS n :: ts) = parse ts ++ [.num n] := by
  show act (numS n) (parse ts) = _
  unfold act
  rw [opOf_num h, (num_facts h).2.2.2.1]
  show parse ts ++ [It.num ((n : Int)).toNat] = _
  rw [Int.toNat_natCast]
theorem parse_word (o : Op) (ts : List Str) : parse (o.name :: ts) = (parse ts).take ((parse ts).length - o.cnt) ++ [.node o ((parse ts).drop ((parse ts).length - o.cnt)).reverse] := by
  show act o.name (parse ts) = _
  unfold act
  rw [opOf_name]
mutual
def W.it : W → It
  | .mk o g as => .node o ((if o.gives then [.num g.toNat] else []) ++ W.its as)
def W.its : List W → List It
  | [] => []
  | a :: r => a.it :: W.its r
end
theorem W.its_len : ∀ ws : List W, (W.its ws).length = ws.length
  | [] => by rw [W.its]; rfl
  | a :: r => by rw [W.its, List.length_cons, List.length_cons, W.its_len r]
/-- at each word there are as many things as it asks for -/
inductive Fine : List Str → Prop
  | nil : Fine []
  | word {o : Op} {ts : List Str} : o.cnt ≤ (parse ts).length → Fine ts → Fine (o.name :: ts)
  | num {n : Nat} {ts : List Str} : n < 100 → Fine ts → Fine (numS n :: ts)
theorem Fine.drop {ts : List Str} (h : Fine ts) : ∀ k, Fine (ts.drop k) := by
  induction h with
  | nil => intro k; rw [List.drop_nil]; exact .nil
  | word h1 h2 ih =>
    intro k
    cases k with
    | zero => exact .word h1 h2
    | succ k => exact ih k
  | num h1 h2 ih =>
    intro k
    cases k with
    | zero => exact .num h1 h2
    | succ k => exact ih k
theorem fine_ws {rest : List Str} (as : List W) (ih : ∀ a ∈ as, ∀ rest : List Str, Fine rest → Fine (a.toks ++ rest) ∧ parse (a.toks ++ rest) = parse rest ++ [a.it]) (h : Fine rest) : Fine (W.tokss as ++ rest) ∧ parse (W.tokss as ++ rest) = parse rest ++ (W.its as).reverse := by
  induction as with
  | nil =>
    rw [W.tokss, W.its, List.nil_append, List.reverse_nil, List.append_nil]
    exact ⟨h, rfl⟩
  | cons a r ihr =>
    obtain ⟨h1, h2⟩ := ihr fun b hb => ih b (List.mem_cons_of_mem _ hb)
    obtain ⟨h3, h4⟩ := ih a List.mem_cons_self _ h1
    rw [W.tokss, W.its, List.append_assoc, h4, h2, List.reverse_cons, List.append_assoc]
    exact ⟨h3, rfl⟩
theorem fine_w {n d : Nat} (hn : n ≤ 100) {w : W} (h : WOk n d w) : ∀ rest : List Str, Fine rest → Fine (w.toks ++ rest) ∧ parse (w.toks ++ rest) = parse rest ++ [w.it] := by
  induction h with
  | @mk d o g as h1 h2 h3 ih =>
    intro rest hr
    obtain ⟨f1, p1⟩ := fine_ws as ih hr
    have key : Fine ((if o.gives then [numS g.toNat] else []) ++ (W.tokss as ++ rest)) ∧ parse ((if o.gives then [numS g.toNat] else []) ++ (W.tokss as ++ rest)) = parse rest ++ ((if o.gives then [It.num g.toNat] else []) ++ W.its as).reverse := by
      by_cases hg : o.gives = true
      · have lt : g.toNat < 100 := by have := gives_lt hn h2 hg; omega
        rw [if_pos hg, if_pos hg]
        show Fine (numS g.toNat :: (W.tokss as ++ rest)) ∧ parse (numS g.toNat :: (W.tokss as ++ rest)) = parse rest ++ (It.num g.toNat :: W.its as).reverse
        rw [parse_num lt, p1, List.reverse_cons, List.append_assoc]
        exact ⟨.num lt f1, rfl⟩
      · rw [if_neg hg, if_neg hg, List.nil_append, List.nil_append]
        exact ⟨f1, p1⟩
    obtain ⟨f2, p2⟩ := key
    have cl : ((if o.gives then [It.num g.toNat] else []) ++ W.its as).length = o.cnt := by
      unfold Op.cnt
      rw [List.length_append, W.its_len, h1]
      split <;> simp [Nat.add_comm]
    rw [W.toks_mk]
    show Fine (o.name :: ((if o.gives then [numS g.toNat] else []) ++ W.tokss as) ++ rest) ∧ parse (o.name :: ((if o.gives then [numS g.toNat] else []) ++ W.tokss as) ++ rest) = _
    rw [List.cons_append, List.append_assoc]
    generalize (if o.gives then [numS g.toNat] else []) ++ (W.tokss as ++ rest) = ts at f2 p2 ⊢
    rw [W.it]
    generalize (if o.gives then [It.num g.toNat] else []) ++ W.its as = its at p2 cl ⊢
    have pl : (parse ts).length = (parse rest).length + o.cnt := by rw [p2, List.length_append, List.length_reverse, cl]
    refine ⟨.word (by omega) f2, ?_⟩
    rw [parse_word, pl, Nat.add_sub_cancel, p2, List.take_left, List.drop_left, List.reverse_reverse]
theorem rowT_fine {n : Nat} (hn : n ≤ 8) {f : Int × W} (h : FOk n f) : Fine (rowT f) ∧ parse (rowT f) = [f.2.it, .num f.1.toNat] := by
  obtain ⟨h1, h2, h3, _⟩ := h
  obtain ⟨f1, p1⟩ := fine_w (n := n) (by omega) h3 [] .nil
  rw [List.append_nil] at f1 p1
  have lt : f.1.toNat < 100 := by omega
  unfold rowT
  refine ⟨.num lt f1, ?_⟩
  rw [parse_num lt, p1]
  rfl
mutual
/-- what was read stands at v -/
inductive ItAt (H : Hp) : V → It → Prop
  | num {n : Nat} : ItAt H (.int (n : Int)) (.num n)
  | node {a : Addr} {o : Op} {vs : List V} {as : List It} : H a = some (.tup (.str o.name :: vs)) → ItsAt H vs as → ItAt H (.ref a) (.node o as)
inductive ItsAt (H : Hp) : List V → List It → Prop
  | nil : ItsAt H [] []
  | cons {v : V} {vs : List V} {i : It} {is : List It} : ItAt H v i → ItsAt H vs is → ItsAt H (v :: vs) (i :: is)
end
mutual
theorem ItAt.keep {H H' : Hp} (k : Keep H H') : ∀ {v : V} {i : It}, ItAt H v i → ItAt H' v i
  | _, _, .num => .num
  | _, _, .node h r => .node (k _ _ h) (ItsAt.keep k r)
theorem ItsAt.keep {H H' : Hp} (k : Keep H H') : ∀ {vs : List V} {is : List It}, ItsAt H vs is → ItsAt H' vs is
  | _, _, .nil => .nil
  | _, _, .cons h r => .cons (h.keep k) (ItsAt.keep k r)
end
theorem ItsAt.length {H : Hp} : ∀ {vs : List V} {is : List It}, ItsAt H vs is → vs.length = is.length
  | _, _, .nil => rfl
  | _, _, .cons _ r => congrArg Nat.succ (ItsAt.length r)
theorem ItsAt.app {H : Hp} : ∀ {vs : List V} {is : List It} {us : List V} {js : List It}, ItsAt H vs is → ItsAt H us js → ItsAt H (vs ++ us) (is ++ js)
  | _, _, _, _, .nil, h => h
  | _, _, _, _, .cons x r, h => .cons x (ItsAt.app r h)
theorem ItsAt.take {H : Hp} : ∀ {vs : List V} {is : List It}, ItsAt H vs is → ∀ k, ItsAt H (vs.take k) (is.take k)
  | _, _, _, 0 => by rw [List.take_zero, List.take_zero]; exact .nil
  | _, _, .nil, _ + 1 => .nil
  | _, _, .cons h r, k + 1 => .cons h (ItsAt.take r k)
theorem ItsAt.drop {H : Hp} : ∀ {vs : List V} {is : List It}, ItsAt H vs is → ∀ k, ItsAt H (vs.drop k) (is.drop k)
  | _, _, h, 0 => h
  | _, _, .nil, _ + 1 => .nil
  | _, _, .cons _ r, k + 1 => ItsAt.drop r k
theorem ItsAt.reverse {H : Hp} : ∀ {vs : List V} {is : List It}, ItsAt H vs is → ItsAt H vs.reverse is.reverse
  | _, _, .nil => .nil
  | _, _, .cons h r => by
    rw [List.reverse_cons, List.reverse_cons]
    exact (ItsAt.reverse r).app (.cons h .nil)
mutual
theorem ItAt.toW {H : Hp} {n d : Nat} (hn : n ≤ 100) : ∀ {v : V} {w : W}, WOk n d w → ItAt H v w.it → WAt H v w
  | v, .mk o g as, hw, h => by
    cases d with
    | zero => exact absurd hw wok0
    | succ d =>
      rw [W.it] at h
      cases h with
      | node h1 h2 =>
        cases hw with
        | mk a1 a2 a3 =>
          by_cases hg : o.gives = true
          · rw [if_pos hg] at h2
            cases h2 with
            | @cons v1 vs1 i1 is1 h3 h4 =>
              cases h3
              have lt := gives_lt hn a2 hg
              refine .mk (vs := vs1) ?_ (ItsAt.toWs hn a3 h4)
              unfold Op.pre
              rw [if_pos hg, h1, show ((g.toNat : Nat) : Int) = g by omega]
              rfl
          · rw [if_neg hg, List.nil_append] at h2
            refine .mk ?_ (ItsAt.toWs hn a3 h2)
            unfold Op.pre
            rw [if_neg hg, h1]
            rfl
theorem ItsAt.toWs {H : Hp} {n d : Nat} (hn : n ≤ 100) : ∀ {vs : List V} {ws : List W}, (∀ a ∈ ws, WOk n d a) → ItsAt H vs (W.its ws) → WsAt H vs ws
  | vs, [], _, h => by
    rw [W.its] at h
    cases h
    exact .nil
  | vs, a :: r, hw, h => by
    rw [W.its] at h
    cases h with
    | cons h1 h2 => exact .cons (ItAt.toW hn (hw a List.mem_cons_self) h1) (ItsAt.toWs hn (fun b hb => hw b (List.mem_cons_of_mem _ hb)) h2)
end
end Ov
/-! ### texts of programs: joined, split -/
namespace Ov
open PySem PySem.Spec PyProof.Rows L2
theorem joinL_cons (S : List Nat) (p : List Nat) {m : List (List Nat)} (h : m ≠ []) : TL.joinL S (p :: m) = p ++ (S ++ TL.joinL S m) := by
  cases m with
  | nil => exact absurd rfl h
  | cons q r => rfl
theorem joinL_app (S : List Nat) : ∀ {l m : List (List Nat)}, l ≠ [] → m ≠ [] → TL.joinL S (l ++ m) = TL.joinL S l ++ (S ++ TL.joinL S m)
  | [], _, h, _ => absurd rfl h
  | [p], m, _, hm => joinL_cons S p hm
  | p :: q :: r, m, _, hm => by
    rw [List.cons_append, joinL_cons S p (by simp), joinL_app S (l := q :: r) (by simp) hm, joinL_cons S p (by simp : q :: r ≠ [])]
    simp only [List.append_assoc]
theorem joinL_flat (S : List Nat) : ∀ {ls : List (List (List Nat))}, (∀ l ∈ ls, l ≠ []) → TL.joinL S (ls.map (TL.joinL S)) = TL.joinL S ls.flatten
  | [], _ => rfl
  | [l], _ => by
    rw [List.flatten_cons, List.flatten_nil, List.append_nil]
    rfl
  | l :: m :: r, h => by
    have ih := joinL_flat S (ls := m :: r) fun x hx => h x (List.mem_cons_of_mem _ hx)
    have hm : (m :: r).flatten ≠ [] := by
      rw [List.flatten_cons]
      intro z
      exact h m (by simp) (List.append_eq_nil_iff.mp z).1
    rw [List.map_cons, joinL_cons S _ (by simp), ih, ← joinL_app S (h l (by simp)) hm]
    rfl
theorem mem_joinL {S : List Nat} {x : Nat} : ∀ {ps : List (List Nat)}, x ∈ TL.joinL S ps → x ∈ S ∨ ∃ p ∈ ps, x ∈ p
  | [], h => nomatch h
  | [p], h => .inr ⟨p, by simp, h⟩
  | p :: q :: r, h => by
    rw [joinL_cons S p (by simp)] at h
    rcases List.mem_append.mp h with h | h
    · exact .inr ⟨p, by simp, h⟩
    · rcases List.mem_append.mp h with h | h
      · exact .inl h
      · rcases mem_joinL (ps := q :: r) h with h | ⟨z, hz, h⟩
        · exact .inl h
        · exact .inr ⟨z, List.mem_cons_of_mem _ hz, h⟩
theorem joinL_len (S : List Nat) : ∀ ps : List (List Nat), (TL.joinL S ps).length ≤ (ps.map (·.length)).sum + ps.length * S.length
  | [] => Nat.zero_le _
  | [p] => by
    show p.length ≤ _
    simp
  | p :: q :: r => by
    have ih := joinL_len S (q :: r)
    rw [joinL_cons S p (by simp), List.length_append, List.length_append, List.map_cons, List.sum_cons, List.length_cons, Nat.succ_mul]
    omega
def spcS : Str := " "
def nlS : Str := "\n"
theorem sg_join (y : Str) (parts : List Str) : sg (Txt.join y parts) = TL.joinL (sg y) (parts.map sg) := by
  rw [TL.join_eq]
  exact TL.tl_join y parts
theorem str_ext {x y : Str} (h : sg x = sg y) : x = y := TL.ext_tl h
def bodyS (w : W) : Str := Txt.join spcS w.toks
def rowS (f : Int × W) : Str := Txt.join spcS (rowT f)
def progS (pr : List (Int × W)) : Str := Txt.join nlS (pr.map rowS)
theorem W.toks_ne (w : W) : w.toks ≠ [] := by
  cases w with
  | mk o g as =>
    rw [W.toks_mk]
    unfold Op.toks
    simp
theorem W.tokss_flat : ∀ as : List W, W.tokss as = (as.map W.toks).flatten
  | [] => by rw [W.tokss]; rfl
  | a :: r => by rw [W.tokss, W.tokss_flat r]; rfl
theorem bodyS_mk (o : Op) (g : Int) (as : List W) : Txt.join spcS (o.toks g ++ as.map bodyS) = bodyS (.mk o g as) := by
  refine str_ext ?_
  unfold bodyS
  rw [sg_join, sg_join]
  have e : (o.toks g ++ as.map fun a => Txt.join spcS a.toks).map sg = (((o.toks g).map fun t => [sg t]) ++ as.map fun a => a.toks.map sg).map (TL.joinL (sg spcS)) := by
    rw [List.map_append, List.map_append, List.map_map, List.map_map, List.map_map]
    congr 1
    refine List.map_congr_left fun a _ => ?_
    show sg (Txt.join spcS a.toks) = TL.joinL (sg spcS) (a.toks.map sg)
    exact sg_join _ _
  rw [e, joinL_flat]
  · congr 1
    rw [List.flatten_append, W.toks_mk, List.map_append, W.tokss_flat, List.map_flatten, List.map_map]
    congr 1
    induction o.toks g with
    | nil => rfl
    | cons t r ih => rw [List.map_cons, List.flatten_cons, ih]; rfl
  · intro l hl
    rcases List.mem_append.mp hl with hl | hl
    · obtain ⟨t, _, rfl⟩ := List.mem_map.mp hl
      simp
    · obtain ⟨a, _, rfl⟩ := List.mem_map.mp hl
      intro z
      exact W.toks_ne a (List.map_eq_nil_iff.mp z)
theorem rowS_eq (f : Int × W) : numS f.1.toNat ++ spcS ++ bodyS f.2 = rowS f := by
  refine str_ext ?_
  unfold rowS rowT bodyS
  rw [sg_join, List.map_cons, joinL_cons _ _ (fun z => W.toks_ne f.2 (List.map_eq_nil_iff.mp z)), ← sg_join]
  show sg (numS f.1.toNat ++ spcS ++ Txt.join spcS f.2.toks) = _
  rw [show ∀ a b : Str, sg (a ++ b) = sg a ++ sg b from TL.tl_append, show ∀ a b : Str, sg (a ++ b) = sg a ++ sg b from TL.tl_append, List.append_assoc]
theorem join_len (y : Str) (parts : List Str) : (Txt.join y parts).length ≤ (parts.map (·.length)).sum + parts.length * y.length := by
  have h := joinL_len (sg y) (parts.map sg)
  rw [← sg_join, List.length_map, List.map_map] at h
  exact h
theorem sum_le {α : Type} (f : α → Nat) (b : Nat) : ∀ l : List α, (∀ x ∈ l, f x ≤ b) → (l.map f).sum ≤ l.length * b
  | [], _ => Nat.zero_le _
  | x :: l, h => by
    have h1 := h x List.mem_cons_self
    have h2 := sum_le f b l fun y hy => h y (List.mem_cons_of_mem _ hy)
    rw [List.map_cons, List.sum_cons, List.length_cons, Nat.succ_mul]
    omega
theorem rowT_sum {n : Nat} (hn : n ≤ 8) {f : Int × W} (h : FOk n f) : ((rowT f).map (·.length)).sum + (rowT f).length * spcS.length ≤ 1000 := by
  have h1 := sum_le (fun t : Str => t.length) 8 (rowT f) fun t ht => ((rowT_ok hn h).isTok t ht).ok.2.2.1
  have h2 := rowT_len h
  have e : spcS.length = 1 := by decide +kernel
  rw [e]
  have : (rowT f).length * 8 ≤ 81 * 8 := Nat.mul_le_mul_right 8 h2
  omega
theorem rowS_len {n : Nat} (hn : n ≤ 8) {f : Int × W} (h : FOk n f) : (rowS f).length ≤ 1000 := Nat.le_trans (join_len _ _) (rowT_sum hn h)
theorem body_sum {n : Nat} (hn : n ≤ 8) {f : Int × W} (h : FOk n f) : (bodyS f.2).length ≤ 1000 := by
  have e := rowS_eq f
  have l := rowS_len hn h
  rw [← e, PySem.Str.length_append] at l
  omega
theorem progS_sum {pr : List (Int × W)} (ok : PrOk pr) : ((pr.map rowS).map (·.length)).sum + (pr.map rowS).length * nlS.length ≤ 9000 := by
  have h1 := sum_le (fun t : Str => t.length) 1000 (pr.map rowS) fun t ht => by
    obtain ⟨f, hf, rfl⟩ := List.mem_map.mp ht
    exact rowS_len ok.l8 (ok.f f hf)
  have e : nlS.length = 1 := by decide +kernel
  rw [e]
  rw [List.length_map] at h1 ⊢
  have := ok.l8
  have : pr.length * 1000 ≤ 8 * 1000 := Nat.mul_le_mul_right 1000 this
  omega
theorem progS_len {pr : List (Int × W)} (ok : PrOk pr) : (progS pr).length ≤ 9000 := Nat.le_trans (join_len _ _) (progS_sum ok)
theorem row_split {n : Nat} (hn : n ≤ 8) {f : Int × W} (h : FOk n f) : Txt.split (rowS f) spcS = rowT f :=
  TL.split_join (s := 32) (S := []) (by decide +kernel) (by decide +kernel) (by unfold rowT; simp) fun t ht => ((rowT_ok hn h).isTok t ht).ok.1
theorem prog_split {pr : List (Int × W)} (ok : PrOk pr) : Txt.split (progS pr) nlS = pr.map rowS :=
  TL.split_join (s := 10) (S := []) (by decide +kernel) (by decide +kernel) (fun z => by
    have := List.map_eq_nil_iff.mp z
    have l := ok.l1
    rw [this] at l
    exact absurd l (by decide)) fun t ht => by
    obtain ⟨f, hf, rfl⟩ := List.mem_map.mp ht
    intro z
    have z : 10 ∈ sg (rowS f) := z
    unfold rowS at z
    rw [sg_join] at z
    rcases mem_joinL z with z | ⟨p, hp, z⟩
    · exact absurd z (by decide +kernel)
    · obtain ⟨t, ht, rfl⟩ := List.mem_map.mp hp
      exact ((rowT_ok ok.l8 (ok.f f hf)).isTok t ht).ok.2.1 z
end Ov
namespace Ov
open PySem PySem.Spec PyProof.Rows L2
/-! ### the promises -/
def spMayStand : Sp := fun vs H Q _ => ∃ z k : Str, vs = [.str z, .str k] ∧ ((k = sBody ∧ ∃ o : Op, z = o.name) ∨ (k = sNum ∧ ∃ n, n < 100 ∧ z = numS n)) ∧ Q (.bl true) H
def asksOf (t : Str) : List Str := match opOf t with
  | some o => o.asks
  | none => []
theorem asksOf_name (o : Op) : asksOf o.name = o.asks := by unfold asksOf; rw [opOf_name]
theorem asksOf_num {n : Nat} (h : n < 100) : asksOf (numS n) = [] := by unfold asksOf; rw [opOf_num h]
theorem asks_len (o : Op) : o.asks.length = o.cnt := by
  unfold Op.asks Op.cnt
  rw [List.length_append, List.length_replicate]
  split <;> rfl
def spAskedBy : Sp := fun vs H Q _ => ∃ z : Str, vs = [.str z] ∧ IsTok z ∧ ∀ H' p, Same H H' → H p = none → H' p = some (.lst ((asksOf z).map V.str)) → Q (.ref p) H'
def spCheckRow : Sp := fun vs H Q _ => ∃ (r : V) (a : Addr) (ts : List Str), vs = [r, .ref a] ∧ H a = some (.lst (ts.map V.str)) ∧ OkT [sBody, sNum] ts ∧ ts.length ≤ 900 ∧ ∀ H', Same H H' → Q .non H'
def spReadRow : Sp := fun vs H Q _ => ∃ (a : Addr) (n : Nat) (f : Int × W), vs = [.ref a] ∧ H a = some (.lst ((rowT f).map V.str)) ∧ FOk n f ∧ n ≤ 8 ∧ ∀ H' v, Same H H' → FAt H' v f → Q v H'
def spWrittenRow : Sp := fun vs H Q _ => ∃ (z : Int) (v : V) (n : Nat) (u : W), vs = [.int z, v] ∧ WAt H v u ∧ FOk n (z, u) ∧ n ≤ 8 ∧ ∀ H', Same H H' → Q (.str (rowS (z, u))) H'
def spWritten : Sp := fun vs H Q _ => ∃ v pr, vs = [v] ∧ PrAt H v pr ∧ PrOk pr ∧ ∀ H', Same H H' → Q (.str (progS pr)) H'
def spRead : Sp := fun vs H Q _ => ∃ pr, vs = [.str (progS pr)] ∧ PrOk pr ∧ ∀ H' v, Same H H' → PrAt H' v pr → Q v H'
theorem OkT.inv {need : List Str} {t : Str} {ts : List Str} (h : OkT need (t :: ts)) : ∃ base k, need = base ++ [k] ∧ ((k = sBody ∧ ∃ o : Op, t = o.name) ∨ (k = sNum ∧ ∃ n, n < 100 ∧ t = numS n)) ∧ OkT (base ++ asksOf t) ts := by
  generalize e : t :: ts = l at h
  cases h with
  | nil => cases e
  | @word base ts' o h =>
    injection e with e1 e2
    subst e1 e2
    exact ⟨base, sBody, rfl, .inl ⟨rfl, o, rfl⟩, by rw [asksOf_name]; exact h⟩
  | @num base ts' n hn h =>
    injection e with e1 e2
    subst e1 e2
    exact ⟨base, sNum, rfl, .inr ⟨rfl, n, hn, rfl⟩, by rw [asksOf_num hn, List.append_nil]; exact h⟩
theorem OkT.end_ {need : List Str} (h : OkT need []) : need = [] := by
  generalize e : ([] : List Str) = l at h
  cases h with
  | nil => rfl
  | word h => cases e
  | num hn h => cases e
theorem mem_need {need ts : List Str} (h : OkT need ts) : need.length ≤ ts.length := by
  induction h with
  | nil => exact Nat.le_refl _
  | word h ih =>
    rw [List.length_append] at ih ⊢
    simp only [List.length_cons, List.length_nil]
    omega
  | num hn h ih =>
    rw [List.length_append]
    simp only [List.length_cons, List.length_nil]
    omega
theorem strs_get {ts : List Str} {i : Nat} {x : V} (h : (ts.map V.str)[i]? = some x) : ∃ t, ts[i]? = some t ∧ x = V.str t := by
  rw [List.getElem?_map] at h
  cases e : ts[i]? with
  | none => rw [e] at h; cases h
  | some t => rw [e] at h; exact ⟨t, rfl, (Option.some.inj h).symm⟩
theorem parse_le : ∀ ts : List Str, (parse ts).length ≤ ts.length
  | [] => Nat.le_refl _
  | t :: ts => by
    have ih := parse_le ts
    show (act t (parse ts)).length ≤ _
    unfold act
    cases opOf t with
    | some o =>
      simp only [List.length_append, List.length_take, List.length_cons, List.length_nil]
      omega
    | none =>
      simp only [List.length_append, List.length_cons, List.length_nil]
      omega
end Ov
namespace Ov
open PySem PySem.Spec PyProof.Rows L2
theorem rows_fits {n : Nat} {r : Op × Int × List Nat} (as : List W) (ih : ∀ a ∈ as, ∀ b, r ∈ a.rows b → r.1.fits n r.2.1) : ∀ b, r ∈ W.rowss b as → r.1.fits n r.2.1 := by
  induction as with
  | nil => intro b h; rw [W.rowss] at h; exact nomatch h
  | cons a l ihl =>
    intro b h
    rw [W.rowss] at h
    rcases List.mem_append.mp h with h | h
    · exact ih a List.mem_cons_self b h
    · exact ihl (fun c hc => ih c (List.mem_cons_of_mem _ hc)) _ h
theorem row_fits {n d : Nat} {u : W} (h : WOk n d u) {i : Nat} {r : Op × Int × List Nat} (e : (u.rows 0)[i]? = some r) : r.1.fits n r.2.1 := by
  have key : ∀ {d : Nat} {u : W}, WOk n d u → ∀ b, r ∈ u.rows b → r.1.fits n r.2.1 := by
    intro d u h
    induction h with
    | @mk d o g as h1 h2 h3 ih =>
      intro b hr
      rw [W.rows_mk] at hr
      rcases List.mem_cons.mp hr with rfl | hr
      · exact h2
      · exact rows_fits as ih _ hr
  exact key h 0 (List.mem_of_getElem? e)
end Ov
/-! ### the law's text -/
namespace Ov
open PySem PySem.Spec PyProof.Rows L2
theorem call_str_any {X : Cx} : CallR X (.type "str") (fun xs H Q => (∃ i : Int, xs = [.int i] ∧ i.natAbs.log2 < 1920 ∧ Q (.str (toString i)) H) ∨ ∃ a : Str, xs = [.str a] ∧ Q (.str a) H) := by
  intro pins s σ H xs us Q I r h
  rcases h with h | h
  · exact call_str_int pins s σ H xs us Q I r h
  · exact SkE.call_str_str pins s σ H xs us Q I r h
theorem W.toks_ok {n d : Nat} (hn : n ≤ 100) {w : W} (h : WOk n d w) : ∀ t ∈ w.toks, IsTok t := by
  have z := okT_w hn h (base := []) (rest := []) .nil
  rw [List.append_nil] at z
  exact z.isTok
theorem bodyS_len {n d : Nat} (hn : n ≤ 100) {w : W} (h : WOk n d w) : (bodyS w).length ≤ 18 * w.size := by
  have h1 := join_len spcS w.toks
  have h2 := sum_le (fun t : Str => t.length) 8 w.toks fun t ht => (W.toks_ok hn h t ht).ok.2.2.1
  have h3 := W.toks_len w
  have e : spcS.length = 1 := by decide +kernel
  rw [e] at h1
  unfold bodyS
  omega
def spText (d : Nat) : Sp := fun vs H Q _ => ∃ v n u, vs = [v] ∧ WAt H v u ∧ WOk n d u ∧ n ≤ 100 ∧ u.size ≤ 40 ∧ ∀ H', Same H H' → Q (.str (bodyS u)) H'
theorem paired_app2 {α β : Type} {R : α → β → Prop} : ∀ {a : List α} {b : List β} {c : List α} {d : List β}, Paired R a b → Paired R c d → Paired R (a ++ c) (b ++ d)
  | _, _, _, _, .nil, h => h
  | _, _, _, _, .cons x r, h => .cons x (paired_app2 r h)
theorem wsAt_al {H : Hp} {k : Nat} : ∀ {vs us : List V} {ws : List W}, (∀ a ∈ ws, ∀ v u, WAt H v a → WAt H u a → Al H k v u) → WsAt H vs ws → WsAt H us ws → Paired (Al H k) vs us
  | _, _, _, _, .nil, .nil => .nil
  | _, _, _, h, .cons x r, .cons y s => .cons (h _ List.mem_cons_self _ _ x y) (wsAt_al (fun a ha => h a (List.mem_cons_of_mem _ ha)) r s)
theorem w_al {H : Hp} {n d : Nat} {w : W} (h : WOk n d w) : ∀ v u, WAt H v w → WAt H u w → Al H (d + 1) v u := by
  induction h with
  | @mk d o g as h1 h2 h3 ih =>
    intro v u hv hu
    cases hv with
    | @mk a _ _ vs _ ha hs =>
    cases hu with
    | @mk b _ _ us _ hb ht =>
    have hl := hs.length
    have ar : o.arity ≤ 3 := by cases o <;> decide
    have pl : (o.pre g).length ≤ 1 := by
      unfold Op.pre
      split
      · exact Nat.le_refl 1
      · exact Nat.zero_le 1
    refine .inr (.inr ⟨a, b, _, _, rfl, rfl, ha, hb, by rw [List.length_cons, List.length_append]; omega, .cons (.inl ⟨rfl, rfl⟩) ?_⟩)
    refine paired_app2 (Al.flat _ ?_) (wsAt_al (fun a ha v u x y => ih a ha v u x y) hs ht)
    unfold Op.pre
    split <;> rfl
theorem prog_al {H : Hp} {pr : List (Int × W)} (ok : PrOk pr) {v u : V} (hv : PrAt H v pr) (hu : PrAt H u pr) : Al H 10 v u := by
  obtain ⟨a, vs, rfl, ha, hf⟩ := hv
  obtain ⟨b, us, rfl, hb, hg⟩ := hu
  have hl := PySem.Paired.length hf
  have l8 := ok.l8
  refine .inr (.inr ⟨a, b, _, _, rfl, rfl, ha, hb, by omega, ?_⟩)
  have key : ∀ {vs us : List V} {qs : List (Int × W)}, (∀ f ∈ qs, FOk pr.length f) → Paired (FAt H) vs qs → Paired (FAt H) us qs → Paired (Al H 9) vs us := by
    intro vs us qs
    induction qs generalizing vs us with
    | nil =>
      intro _ h h'
      cases h
      cases h'
      exact .nil
    | cons f qs ih =>
      intro hq h h'
      cases h with
      | cons x r =>
      cases h' with
      | cons y s =>
      refine .cons ?_ (ih (fun g hg => hq g (List.mem_cons_of_mem _ hg)) r s)
      obtain ⟨c, cv, rfl, hc, hcw⟩ := x
      obtain ⟨e, ev, rfl, he, hew⟩ := y
      exact .inr (.inr ⟨c, e, _, _, rfl, rfl, hc, he, (by show 2 ≤ 9000; decide), .cons (.inl ⟨rfl, rfl⟩) (.cons (w_al (hq f List.mem_cons_self).2.2.1 _ _ hcw hew) .nil)⟩)
  exact key ok.f hf hg
end Ov
namespace K19
open PySem PySem.Spec PyProof.Rows L2
/-! ### the text by places -/
def top (i : Nat) : Stmt := PySem.Challenge.pw_overlayhall_k19_whole_written_and_read.main.body.getD i (.Pass ⟨0, 0, 0, 0⟩)
abbrev s_between : Stmt := top 5
abbrev s_given_of : Stmt := top 9
abbrev s_arms_of : Stmt := top 10
abbrev s_words_of : Stmt := top 11
abbrev s_add_word : Stmt := top 12
abbrev s_check_program : Stmt := top 19
abbrev s_function_fits : Stmt := top 20
abbrev s_word_fits : Stmt := top 21
abbrev s_given_fits : Stmt := top 22
abbrev s_written : Stmt := top 27
abbrev s_read : Stmt := top 28
abbrev s_written_row : Stmt := top 29
abbrev s_check_row : Stmt := top 30
abbrev s_may_stand : Stmt := top 31
abbrev s_asked_by : Stmt := top 32
abbrev s_read_row : Stmt := top 33
abbrev s_law_mix : Stmt := top 35
abbrev s_law_next : Stmt := top 36
abbrev s_law_alike : Stmt := top 37
abbrev s_law_leaf : Stmt := top 38
abbrev s_law_call : Stmt := top 39
abbrev s_law_less : Stmt := top 40
abbrev s_law_body : Stmt := top 41
abbrev s_law_words : Stmt := top 42
abbrev s_law_program : Stmt := top 43
abbrev s_law_text : Stmt := top 44
abbrev s_law : Stmt := top 45
abbrev s_BadProgram_init : Stmt := inClass (top 2) 0
abbrev s_BadText_init : Stmt := inClass (top 3) 0
abbrev FnP (K : PySem.W.Frag) (x q : Str) (st : Stmt) (f : Addr) (fd : FuncData) : Prop := FunD K x q (defArgs st) (defBody st) (defScope st) [] [] f fd
/-! ### the head: facts by names, the run -/
def d_between : He.DefD := ⟨("between", none), "between", "between", defArgs s_between, defBody s_between, defScope s_between, [], []⟩
def d_given_of : He.DefD := ⟨("given_of", none), "given_of", "given_of", defArgs s_given_of, defBody s_given_of, defScope s_given_of, [], []⟩
def d_arms_of : He.DefD := ⟨("arms_of", none), "arms_of", "arms_of", defArgs s_arms_of, defBody s_arms_of, defScope s_arms_of, [], []⟩
def d_words_of : He.DefD := ⟨("words_of", none), "words_of", "words_of", defArgs s_words_of, defBody s_words_of, defScope s_words_of, [], []⟩
def d_add_word : He.DefD := ⟨("add_word", none), "add_word", "add_word", defArgs s_add_word, defBody s_add_word, defScope s_add_word, [], []⟩
def d_check_program : He.DefD := ⟨("check_program", none), "check_program", "check_program", defArgs s_check_program, defBody s_check_program, defScope s_check_program, [], []⟩
def d_function_fits : He.DefD := ⟨("function_fits", none), "function_fits", "function_fits", defArgs s_function_fits, defBody s_function_fits, defScope s_function_fits, [], []⟩
def d_word_fits : He.DefD := ⟨("word_fits", none), "word_fits", "word_fits", defArgs s_word_fits, defBody s_word_fits, defScope s_word_fits, [], []⟩
def d_given_fits : He.DefD := ⟨("given_fits", none), "given_fits", "given_fits", defArgs s_given_fits, defBody s_given_fits, defScope s_given_fits, [], []⟩
def d_written : He.DefD := ⟨("written", none), "written", "written", defArgs s_written, defBody s_written, defScope s_written, [], []⟩
def d_read : He.DefD := ⟨("read", none), "read", "read", defArgs s_read, defBody s_read, defScope s_read, [], []⟩
def d_written_row : He.DefD := ⟨("written_row", none), "written_row", "written_row", defArgs s_written_row, defBody s_written_row, defScope s_written_row, [], []⟩
def d_check_row : He.DefD := ⟨("check_row", none), "check_row", "check_row", defArgs s_check_row, defBody s_check_row, defScope s_check_row, [], []⟩
def d_may_stand : He.DefD := ⟨("may_stand", none), "may_stand", "may_stand", defArgs s_may_stand, defBody s_may_stand, defScope s_may_stand, [], []⟩
def d_asked_by : He.DefD := ⟨("asked_by", none), "asked_by", "asked_by", defArgs s_asked_by, defBody s_asked_by, defScope s_asked_by, [], []⟩
def d_read_row : He.DefD := ⟨("read_row", none), "read_row", "read_row", defArgs s_read_row, defBody s_read_row, defScope s_read_row, [], []⟩
def d_law_mix : He.DefD := ⟨("_law_mix", none), "_law_mix", "_law_mix", defArgs s_law_mix, defBody s_law_mix, defScope s_law_mix, [], []⟩
def d_law_next : He.DefD := ⟨("_law_next", none), "_law_next", "_law_next", defArgs s_law_next, defBody s_law_next, defScope s_law_next, [], []⟩
def d_law_alike : He.DefD := ⟨("_law_alike", none), "_law_alike", "_law_alike", defArgs s_law_alike, defBody s_law_alike, defScope s_law_alike, [], []⟩
def d_law_leaf : He.DefD := ⟨("_law_leaf", none), "_law_leaf", "_law_leaf", defArgs s_law_leaf, defBody s_law_leaf, defScope s_law_leaf, [], []⟩
def d_law_call : He.DefD := ⟨("_law_call", none), "_law_call", "_law_call", defArgs s_law_call, defBody s_law_call, defScope s_law_call, [], []⟩
def d_law_less : He.DefD := ⟨("_law_less", none), "_law_less", "_law_less", defArgs s_law_less, defBody s_law_less, defScope s_law_less, [], []⟩
def d_law_body : He.DefD := ⟨("_law_body", none), "_law_body", "_law_body", defArgs s_law_body, defBody s_law_body, defScope s_law_body, [], []⟩
def d_law_words : He.DefD := ⟨("_law_words", none), "_law_words", "_law_words", defArgs s_law_words, defBody s_law_words, defScope s_law_words, [], []⟩
def d_law_program : He.DefD := ⟨("_law_program", none), "_law_program", "_law_program", defArgs s_law_program, defBody s_law_program, defScope s_law_program, [], []⟩
def d_law_text : He.DefD := ⟨("_law_text", none), "_law_text", "_law_text", defArgs s_law_text, defBody s_law_text, defScope s_law_text, [], []⟩
def d_law : He.DefD := ⟨("law", none), "law", "law", defArgs s_law, defBody s_law, defScope s_law, [], []⟩
def d_BadProgram_init : He.DefD := ⟨("BadProgram", (some "__init__")), "__init__", "BadProgram.__init__", defArgs s_BadProgram_init, defBody s_BadProgram_init, defScope s_BadProgram_init, [], []⟩
def d_BadText_init : He.DefD := ⟨("BadText", (some "__init__")), "__init__", "BadText.__init__", defArgs s_BadText_init, defBody s_BadText_init, defScope s_BadText_init, [], []⟩
def fn : List He.DefD := [d_between, d_given_of, d_arms_of, d_words_of, d_add_word, d_check_program, d_function_fits, d_word_fits, d_given_fits, d_written, d_read, d_written_row, d_check_row, d_may_stand, d_asked_by, d_read_row, d_law_mix, d_law_next, d_law_alike, d_law_leaf, d_law_call, d_law_less, d_law_body, d_law_words, d_law_program, d_law_text, d_law, d_BadProgram_init, d_BadText_init]
def fa : List He.Fa := [.glo "HallError", .glo "BadProgram", .glo "BadText", .glo "between", .glo "ARMS", .glo "GIVEN", .glo "given_of", .glo "arms_of", .glo "words_of", .glo "add_word", .glo "check_program", .glo "function_fits", .glo "word_fits", .glo "given_fits", .glo "written", .glo "read", .glo "written_row", .glo "check_row", .glo "may_stand", .glo "asked_by", .glo "read_row", .glo "_law_mix", .glo "_law_next", .glo "_law_alike", .glo "_law_leaf", .glo "_law_call", .glo "_law_less", .glo "_law_body", .glo "_law_words", .glo "_law_program", .glo "_law_text", .glo "law", .free "ValueError", .free "all", .free "bool", .free "enumerate", .free "int", .free "isinstance", .free "len", .free "list", .free "max", .free "range", .free "str", .free "sum", .free "tuple", .int "MOST_FUNCTIONS" 8, .int "MOST_CELLS" 8, .int "MOST_WORDS" 40, .int "MOST_AROUND" 6, .int "GREATEST_WRITTEN" 99, .int "MOST_FIGURES" 2, .str "NUMBER" "number", .str "BODY" "body", .exc "HallError", .exm "HallError" "HallError" true]
def kv_ARMS : List (Str × He.Dv) := [("num", .int 0), ("argument", .int 0), ("way", .int 0), ("plus", .int 2), ("less", .int 2), ("times", .int 2), ("if", .int 3), ("then", .int 2), ("say", .int 1), ("call", .int 1), ("through", .int 2)]
def kv_GIVEN : List (Str × He.Dv) := [("num", .str "number"), ("way", .str "function"), ("call", .str "function")]
def miss_ARMS : List Str := []
def miss_GIVEN : List Str := ["argument", "plus", "less", "times", "if", "then", "say", "through"]
def tf : List He.Defn := []
def ts : List He.Tab := [(fun K => He.ga K "ARMS", ["num", "argument", "way", "plus", "less", "times", "if", "then", "say", "call", "through"]), (fun K => He.ga K "GIVEN", ["num", "way", "call"])]
def ex (K : PySem.W.Frag) : Bool := He.valsB K (He.ga K "ARMS") kv_ARMS && He.valsB K (He.ga K "GIVEN") kv_GIVEN && (miss_GIVEN.all fun x => He.eqO (PySem.W.nsIn K (He.ga K "GIVEN") x) (some none)) && ((List.range 100).all fun i => He.eqO (PySem.W.nsIn K (He.ga K "ARMS") (PySem.Str.ofString (toString ((i : Nat) : Int)))) (some none))
abbrev R : PySem.W.OpenRow := PySem.W.OpenLaw.row PySem.Challenge.rw_overlayhall_k19_whole_written_and_read
abbrev hk : PySem.W.Hook := He.hookX 4 fa fn ts tf ex
def ob (s : PySem.W.SharedT) : He.AlX := He.obsX 4 fa fn ts tf ex (HandSHeadRun.getT s)
theorem ob_eq (s : PySem.W.SharedT) : ob s = hk.obs s.abs := He.obsX_eq (HandSHeadRun.getT_eq s)
def names0 : List PySem.Str := ["HallError", "BadProgram", "BadText", "between", "ARMS", "GIVEN", "given_of", "arms_of", "words_of", "add_word", "MOST_FUNCTIONS", "MOST_CELLS", "MOST_WORDS", "MOST_AROUND", "GREATEST_WRITTEN", "check_program", "function_fits", "word_fits", "given_fits", "NUMBER", "BODY", "MOST_FIGURES", "written", "read", "written_row", "check_row", "may_stand", "asked_by", "read_row", "_law_mix"]
def names1 : List PySem.Str := ["_law_next", "_law_alike", "_law_leaf", "_law_call", "_law_less", "_law_body", "_law_words", "_law_program", "_law_text"]
def names : List PySem.Str := names0 ++ names1
theorem run (w : World) : HandSHeadRun.RunEq R (PySem.W.view R.prog [45]) hk ob 6000 names w := by
  refine PySem.W.byRow2 "special-get-raises" (P := fun w => HandSHeadRun.RunEq R (PySem.W.view R.prog [45]) hk ob 6000 names w) ?_ ?_ w
  · intro w os
    kernel_rfl
  · intro w os
    kernel_rfl
/-! ### the facts by name -/
def fdOf (K : PySem.W.Frag) (d : He.DefD) : FuncData := match K.lookup (He.fAd K d.at_) with
  | some ⟨_, _, .func fd, _⟩ => fd
  | _ => PySem.W.fnOf d.name d.qual d.params d.body d.scope .none .none .none .none none .none .none
theorem fdOf_eq {K : PySem.W.Frag} {d : He.DefD} {fd : FuncData} (F : FunD K d.name d.qual d.params d.body d.scope (d.dvs K) (d.kws K) (He.fAd K d.at_) fd) : FunD K d.name d.qual d.params d.body d.scope (d.dvs K) (d.kws K) (He.fAd K d.at_) (fdOf K d) := by
  obtain ⟨oc, od, dV, kV, doc, pm, an, cdv, ct, osl, _, lk, h⟩ := F.ex
  have e : fdOf K d = fd := by
    unfold fdOf
    rw [lk]
  rw [e]
  exact F
structure Txt (w : World) (K : PySem.W.Frag) (mg : Str → Option Value) : Prop where
  g_HallError : mg "HallError" = some (.ref (He.ga K "HallError"))
  g_BadProgram : mg "BadProgram" = some (.ref (He.ga K "BadProgram"))
  g_BadText : mg "BadText" = some (.ref (He.ga K "BadText"))
  g_between : mg "between" = some (.ref (He.ga K "between"))
  g_ARMS : mg "ARMS" = some (.ref (He.ga K "ARMS"))
  g_GIVEN : mg "GIVEN" = some (.ref (He.ga K "GIVEN"))
  g_given_of : mg "given_of" = some (.ref (He.ga K "given_of"))
  g_arms_of : mg "arms_of" = some (.ref (He.ga K "arms_of"))
  g_words_of : mg "words_of" = some (.ref (He.ga K "words_of"))
  g_add_word : mg "add_word" = some (.ref (He.ga K "add_word"))
  g_check_program : mg "check_program" = some (.ref (He.ga K "check_program"))
  g_function_fits : mg "function_fits" = some (.ref (He.ga K "function_fits"))
  g_word_fits : mg "word_fits" = some (.ref (He.ga K "word_fits"))
  g_given_fits : mg "given_fits" = some (.ref (He.ga K "given_fits"))
  g_written : mg "written" = some (.ref (He.ga K "written"))
  g_read : mg "read" = some (.ref (He.ga K "read"))
  g_written_row : mg "written_row" = some (.ref (He.ga K "written_row"))
  g_check_row : mg "check_row" = some (.ref (He.ga K "check_row"))
  g_may_stand : mg "may_stand" = some (.ref (He.ga K "may_stand"))
  g_asked_by : mg "asked_by" = some (.ref (He.ga K "asked_by"))
  g_read_row : mg "read_row" = some (.ref (He.ga K "read_row"))
  g_law_mix : mg "_law_mix" = some (.ref (He.ga K "_law_mix"))
  g_law_next : mg "_law_next" = some (.ref (He.ga K "_law_next"))
  g_law_alike : mg "_law_alike" = some (.ref (He.ga K "_law_alike"))
  g_law_leaf : mg "_law_leaf" = some (.ref (He.ga K "_law_leaf"))
  g_law_call : mg "_law_call" = some (.ref (He.ga K "_law_call"))
  g_law_less : mg "_law_less" = some (.ref (He.ga K "_law_less"))
  g_law_body : mg "_law_body" = some (.ref (He.ga K "_law_body"))
  g_law_words : mg "_law_words" = some (.ref (He.ga K "_law_words"))
  g_law_program : mg "_law_program" = some (.ref (He.ga K "_law_program"))
  g_law_text : mg "_law_text" = some (.ref (He.ga K "_law_text"))
  g_law : mg "law" = some (.ref (He.ga K "law"))
  z_ValueError : mg "ValueError" = none
  z_all : mg "all" = none
  z_bool : mg "bool" = none
  z_enumerate : mg "enumerate" = none
  z_int : mg "int" = none
  z_isinstance : mg "isinstance" = none
  z_len : mg "len" = none
  z_list : mg "list" = none
  z_max : mg "max" = none
  z_range : mg "range" = none
  z_str : mg "str" = none
  z_sum : mg "sum" = none
  z_tuple : mg "tuple" = none
  i_MOST_FUNCTIONS : ∃ t, mg "MOST_FUNCTIONS" = some (.int 8 t)
  i_MOST_CELLS : ∃ t, mg "MOST_CELLS" = some (.int 8 t)
  i_MOST_WORDS : ∃ t, mg "MOST_WORDS" = some (.int 40 t)
  i_MOST_AROUND : ∃ t, mg "MOST_AROUND" = some (.int 6 t)
  i_GREATEST_WRITTEN : ∃ t, mg "GREATEST_WRITTEN" = some (.int 99 t)
  i_MOST_FIGURES : ∃ t, mg "MOST_FIGURES" = some (.int 2 t)
  s_NUMBER : ∃ t, mg "NUMBER" = some (.str "number" t)
  s_BODY : ∃ t, mg "BODY" = some (.str "body" t)
  F_between : FnP K "between" "between" s_between (He.ga K "between") (fdOf K d_between)
  F_given_of : FnP K "given_of" "given_of" s_given_of (He.ga K "given_of") (fdOf K d_given_of)
  F_arms_of : FnP K "arms_of" "arms_of" s_arms_of (He.ga K "arms_of") (fdOf K d_arms_of)
  F_words_of : FnP K "words_of" "words_of" s_words_of (He.ga K "words_of") (fdOf K d_words_of)
  F_add_word : FnP K "add_word" "add_word" s_add_word (He.ga K "add_word") (fdOf K d_add_word)
  F_check_program : FnP K "check_program" "check_program" s_check_program (He.ga K "check_program") (fdOf K d_check_program)
  F_function_fits : FnP K "function_fits" "function_fits" s_function_fits (He.ga K "function_fits") (fdOf K d_function_fits)
  F_word_fits : FnP K "word_fits" "word_fits" s_word_fits (He.ga K "word_fits") (fdOf K d_word_fits)
  F_given_fits : FnP K "given_fits" "given_fits" s_given_fits (He.ga K "given_fits") (fdOf K d_given_fits)
  F_written : FnP K "written" "written" s_written (He.ga K "written") (fdOf K d_written)
  F_read : FnP K "read" "read" s_read (He.ga K "read") (fdOf K d_read)
  F_written_row : FnP K "written_row" "written_row" s_written_row (He.ga K "written_row") (fdOf K d_written_row)
  F_check_row : FnP K "check_row" "check_row" s_check_row (He.ga K "check_row") (fdOf K d_check_row)
  F_may_stand : FnP K "may_stand" "may_stand" s_may_stand (He.ga K "may_stand") (fdOf K d_may_stand)
  F_asked_by : FnP K "asked_by" "asked_by" s_asked_by (He.ga K "asked_by") (fdOf K d_asked_by)
  F_read_row : FnP K "read_row" "read_row" s_read_row (He.ga K "read_row") (fdOf K d_read_row)
  F_law_mix : FnP K "_law_mix" "_law_mix" s_law_mix (He.ga K "_law_mix") (fdOf K d_law_mix)
  F_law_next : FnP K "_law_next" "_law_next" s_law_next (He.ga K "_law_next") (fdOf K d_law_next)
  F_law_alike : FnP K "_law_alike" "_law_alike" s_law_alike (He.ga K "_law_alike") (fdOf K d_law_alike)
  F_law_leaf : FnP K "_law_leaf" "_law_leaf" s_law_leaf (He.ga K "_law_leaf") (fdOf K d_law_leaf)
  F_law_call : FnP K "_law_call" "_law_call" s_law_call (He.ga K "_law_call") (fdOf K d_law_call)
  F_law_less : FnP K "_law_less" "_law_less" s_law_less (He.ga K "_law_less") (fdOf K d_law_less)
  F_law_body : FnP K "_law_body" "_law_body" s_law_body (He.ga K "_law_body") (fdOf K d_law_body)
  F_law_words : FnP K "_law_words" "_law_words" s_law_words (He.ga K "_law_words") (fdOf K d_law_words)
  F_law_program : FnP K "_law_program" "_law_program" s_law_program (He.ga K "_law_program") (fdOf K d_law_program)
  F_law_text : FnP K "_law_text" "_law_text" s_law_text (He.ga K "_law_text") (fdOf K d_law_text)
  F_law : FnP K "law" "law" s_law (He.ga K "law") (fdOf K d_law)
  x_HallError : PySem.W.excIn K (He.ga K "HallError") He.veBase "ValueError.__new__" = true ∧ PySem.W.keepIn K (.ref (He.ga K "HallError")) = true ∧ PySem.W.subIn K (.ref (He.ga K "HallError")) (.type "BaseException") = some true ∧ PySem.W.typeIn K (.ref (He.ga K "HallError")) = some (.type "type")
  e_HallError_HallError : PySem.W.exmOne K (.ref (He.ga K "HallError")) (.ref (He.ga K "HallError")) = some true
  kd_ARMS : ∃ es n, KDict K w (He.ga K "ARMS") es n
  v_ARMS : He.valsB K (He.ga K "ARMS") kv_ARMS = true
  m_ARMS : (miss_ARMS.all fun x => He.eqO (PySem.W.nsIn K (He.ga K "ARMS") x) (some none)) = true
  kd_GIVEN : ∃ es n, KDict K w (He.ga K "GIVEN") es n
  v_GIVEN : He.valsB K (He.ga K "GIVEN") kv_GIVEN = true
  m_GIVEN : (miss_GIVEN.all fun x => He.eqO (PySem.W.nsIn K (He.ga K "GIVEN") x) (some none)) = true
  num_ARMS : ((List.range 100).all fun i => He.eqO (PySem.W.nsIn K (He.ga K "ARMS") (PySem.Str.ofString (toString ((i : Nat) : Int)))) (some none)) = true
theorem Txt.of {w : World} {K : PySem.W.Frag} {h : Heap} {mg : Str → Option Value} (X : K.In h) (G : h.Ns mainGlobals mg) (c : He.SaysX fa fn ts tf ex w h K) : Txt w K mg := by
  have e := c.more
  unfold ex at e
  simp only [Bool.and_eq_true] at e
  exact ⟨He.glo_ok X G (c.t.d.fact 0),
    He.glo_ok X G (c.t.d.fact 1),
    He.glo_ok X G (c.t.d.fact 2),
    He.glo_ok X G (c.t.d.fact 3),
    He.glo_ok X G (c.t.d.fact 4),
    He.glo_ok X G (c.t.d.fact 5),
    He.glo_ok X G (c.t.d.fact 6),
    He.glo_ok X G (c.t.d.fact 7),
    He.glo_ok X G (c.t.d.fact 8),
    He.glo_ok X G (c.t.d.fact 9),
    He.glo_ok X G (c.t.d.fact 10),
    He.glo_ok X G (c.t.d.fact 11),
    He.glo_ok X G (c.t.d.fact 12),
    He.glo_ok X G (c.t.d.fact 13),
    He.glo_ok X G (c.t.d.fact 14),
    He.glo_ok X G (c.t.d.fact 15),
    He.glo_ok X G (c.t.d.fact 16),
    He.glo_ok X G (c.t.d.fact 17),
    He.glo_ok X G (c.t.d.fact 18),
    He.glo_ok X G (c.t.d.fact 19),
    He.glo_ok X G (c.t.d.fact 20),
    He.glo_ok X G (c.t.d.fact 21),
    He.glo_ok X G (c.t.d.fact 22),
    He.glo_ok X G (c.t.d.fact 23),
    He.glo_ok X G (c.t.d.fact 24),
    He.glo_ok X G (c.t.d.fact 25),
    He.glo_ok X G (c.t.d.fact 26),
    He.glo_ok X G (c.t.d.fact 27),
    He.glo_ok X G (c.t.d.fact 28),
    He.glo_ok X G (c.t.d.fact 29),
    He.glo_ok X G (c.t.d.fact 30),
    He.glo_ok X G (c.t.d.fact 31),
    He.free_ok X G (c.t.d.fact 32),
    He.free_ok X G (c.t.d.fact 33),
    He.free_ok X G (c.t.d.fact 34),
    He.free_ok X G (c.t.d.fact 35),
    He.free_ok X G (c.t.d.fact 36),
    He.free_ok X G (c.t.d.fact 37),
    He.free_ok X G (c.t.d.fact 38),
    He.free_ok X G (c.t.d.fact 39),
    He.free_ok X G (c.t.d.fact 40),
    He.free_ok X G (c.t.d.fact 41),
    He.free_ok X G (c.t.d.fact 42),
    He.free_ok X G (c.t.d.fact 43),
    He.free_ok X G (c.t.d.fact 44),
    He.int_ok X G (c.t.d.fact 45),
    He.int_ok X G (c.t.d.fact 46),
    He.int_ok X G (c.t.d.fact 47),
    He.int_ok X G (c.t.d.fact 48),
    He.int_ok X G (c.t.d.fact 49),
    He.int_ok X G (c.t.d.fact 50),
    He.str_ok X G (c.t.d.fact 51),
    He.str_ok X G (c.t.d.fact 52),
    (c.t.d.def_ 0 (d := d_between)).elim fun _ F => fdOf_eq F,
    (c.t.d.def_ 1 (d := d_given_of)).elim fun _ F => fdOf_eq F,
    (c.t.d.def_ 2 (d := d_arms_of)).elim fun _ F => fdOf_eq F,
    (c.t.d.def_ 3 (d := d_words_of)).elim fun _ F => fdOf_eq F,
    (c.t.d.def_ 4 (d := d_add_word)).elim fun _ F => fdOf_eq F,
    (c.t.d.def_ 5 (d := d_check_program)).elim fun _ F => fdOf_eq F,
    (c.t.d.def_ 6 (d := d_function_fits)).elim fun _ F => fdOf_eq F,
    (c.t.d.def_ 7 (d := d_word_fits)).elim fun _ F => fdOf_eq F,
    (c.t.d.def_ 8 (d := d_given_fits)).elim fun _ F => fdOf_eq F,
    (c.t.d.def_ 9 (d := d_written)).elim fun _ F => fdOf_eq F,
    (c.t.d.def_ 10 (d := d_read)).elim fun _ F => fdOf_eq F,
    (c.t.d.def_ 11 (d := d_written_row)).elim fun _ F => fdOf_eq F,
    (c.t.d.def_ 12 (d := d_check_row)).elim fun _ F => fdOf_eq F,
    (c.t.d.def_ 13 (d := d_may_stand)).elim fun _ F => fdOf_eq F,
    (c.t.d.def_ 14 (d := d_asked_by)).elim fun _ F => fdOf_eq F,
    (c.t.d.def_ 15 (d := d_read_row)).elim fun _ F => fdOf_eq F,
    (c.t.d.def_ 16 (d := d_law_mix)).elim fun _ F => fdOf_eq F,
    (c.t.d.def_ 17 (d := d_law_next)).elim fun _ F => fdOf_eq F,
    (c.t.d.def_ 18 (d := d_law_alike)).elim fun _ F => fdOf_eq F,
    (c.t.d.def_ 19 (d := d_law_leaf)).elim fun _ F => fdOf_eq F,
    (c.t.d.def_ 20 (d := d_law_call)).elim fun _ F => fdOf_eq F,
    (c.t.d.def_ 21 (d := d_law_less)).elim fun _ F => fdOf_eq F,
    (c.t.d.def_ 22 (d := d_law_body)).elim fun _ F => fdOf_eq F,
    (c.t.d.def_ 23 (d := d_law_words)).elim fun _ F => fdOf_eq F,
    (c.t.d.def_ 24 (d := d_law_program)).elim fun _ F => fdOf_eq F,
    (c.t.d.def_ 25 (d := d_law_text)).elim fun _ F => fdOf_eq F,
    (c.t.d.def_ 26 (d := d_law)).elim fun _ F => fdOf_eq F,
    He.exc_ok (c.t.d.fact 53),
    He.exm_ok (c.t.d.fact 54),
    c.t.tab 0,
    e.1.1.1,
    rfl,
    c.t.tab 1,
    e.1.1.2,
    e.1.2,
    e.2⟩
theorem Txt.kp_between {w : World} {K : PySem.W.Frag} {mg : Str → Option Value} (T : Txt w K mg) : PySem.W.keepIn K (.ref (He.ga K "between")) = true := T.F_between.kp
theorem Txt.b_between {w : World} {K : PySem.W.Frag} {mg : Str → Option Value} (T : Txt w K mg) : Binds K (fdOf K d_between) ["value", "low", "high"] [] := T.F_between.bindsN fun _ _ _ _ _ _ us hl => match us, hl with | [_, _, _], _ => rfl
theorem Txt.kp_given_of {w : World} {K : PySem.W.Frag} {mg : Str → Option Value} (T : Txt w K mg) : PySem.W.keepIn K (.ref (He.ga K "given_of")) = true := T.F_given_of.kp
theorem Txt.b_given_of {w : World} {K : PySem.W.Frag} {mg : Str → Option Value} (T : Txt w K mg) : Binds K (fdOf K d_given_of) ["word"] [] := T.F_given_of.bindsN fun _ _ _ _ _ _ us hl => match us, hl with | [_], _ => rfl
theorem Txt.kp_arms_of {w : World} {K : PySem.W.Frag} {mg : Str → Option Value} (T : Txt w K mg) : PySem.W.keepIn K (.ref (He.ga K "arms_of")) = true := T.F_arms_of.kp
theorem Txt.b_arms_of {w : World} {K : PySem.W.Frag} {mg : Str → Option Value} (T : Txt w K mg) : Binds K (fdOf K d_arms_of) ["word"] [] := T.F_arms_of.bindsN fun _ _ _ _ _ _ us hl => match us, hl with | [_], _ => rfl
theorem Txt.kp_words_of {w : World} {K : PySem.W.Frag} {mg : Str → Option Value} (T : Txt w K mg) : PySem.W.keepIn K (.ref (He.ga K "words_of")) = true := T.F_words_of.kp
theorem Txt.b_words_of {w : World} {K : PySem.W.Frag} {mg : Str → Option Value} (T : Txt w K mg) : Binds K (fdOf K d_words_of) ["body"] [] := T.F_words_of.bindsN fun _ _ _ _ _ _ us hl => match us, hl with | [_], _ => rfl
theorem Txt.kp_add_word {w : World} {K : PySem.W.Frag} {mg : Str → Option Value} (T : Txt w K mg) : PySem.W.keepIn K (.ref (He.ga K "add_word")) = true := T.F_add_word.kp
theorem Txt.b_add_word {w : World} {K : PySem.W.Frag} {mg : Str → Option Value} (T : Txt w K mg) : Binds K (fdOf K d_add_word) ["rows", "word"] [] := T.F_add_word.bindsN fun _ _ _ _ _ _ us hl => match us, hl with | [_, _], _ => rfl
theorem Txt.kp_check_program {w : World} {K : PySem.W.Frag} {mg : Str → Option Value} (T : Txt w K mg) : PySem.W.keepIn K (.ref (He.ga K "check_program")) = true := T.F_check_program.kp
theorem Txt.b_check_program {w : World} {K : PySem.W.Frag} {mg : Str → Option Value} (T : Txt w K mg) : Binds K (fdOf K d_check_program) ["program"] [] := T.F_check_program.bindsN fun _ _ _ _ _ _ us hl => match us, hl with | [_], _ => rfl
theorem Txt.kp_function_fits {w : World} {K : PySem.W.Frag} {mg : Str → Option Value} (T : Txt w K mg) : PySem.W.keepIn K (.ref (He.ga K "function_fits")) = true := T.F_function_fits.kp
theorem Txt.b_function_fits {w : World} {K : PySem.W.Frag} {mg : Str → Option Value} (T : Txt w K mg) : Binds K (fdOf K d_function_fits) ["function", "functions"] [] := T.F_function_fits.bindsN fun _ _ _ _ _ _ us hl => match us, hl with | [_, _], _ => rfl
theorem Txt.kp_word_fits {w : World} {K : PySem.W.Frag} {mg : Str → Option Value} (T : Txt w K mg) : PySem.W.keepIn K (.ref (He.ga K "word_fits")) = true := T.F_word_fits.kp
theorem Txt.b_word_fits {w : World} {K : PySem.W.Frag} {mg : Str → Option Value} (T : Txt w K mg) : Binds K (fdOf K d_word_fits) ["word", "functions", "around"] [] := T.F_word_fits.bindsN fun _ _ _ _ _ _ us hl => match us, hl with | [_, _, _], _ => rfl
theorem Txt.kp_given_fits {w : World} {K : PySem.W.Frag} {mg : Str → Option Value} (T : Txt w K mg) : PySem.W.keepIn K (.ref (He.ga K "given_fits")) = true := T.F_given_fits.kp
theorem Txt.b_given_fits {w : World} {K : PySem.W.Frag} {mg : Str → Option Value} (T : Txt w K mg) : Binds K (fdOf K d_given_fits) ["kind", "given", "functions"] [] := T.F_given_fits.bindsN fun _ _ _ _ _ _ us hl => match us, hl with | [_, _, _], _ => rfl
theorem Txt.kp_written {w : World} {K : PySem.W.Frag} {mg : Str → Option Value} (T : Txt w K mg) : PySem.W.keepIn K (.ref (He.ga K "written")) = true := T.F_written.kp
theorem Txt.b_written {w : World} {K : PySem.W.Frag} {mg : Str → Option Value} (T : Txt w K mg) : Binds K (fdOf K d_written) ["program"] [] := T.F_written.bindsN fun _ _ _ _ _ _ us hl => match us, hl with | [_], _ => rfl
theorem Txt.kp_read {w : World} {K : PySem.W.Frag} {mg : Str → Option Value} (T : Txt w K mg) : PySem.W.keepIn K (.ref (He.ga K "read")) = true := T.F_read.kp
theorem Txt.b_read {w : World} {K : PySem.W.Frag} {mg : Str → Option Value} (T : Txt w K mg) : Binds K (fdOf K d_read) ["text"] [] := T.F_read.bindsN fun _ _ _ _ _ _ us hl => match us, hl with | [_], _ => rfl
theorem Txt.kp_written_row {w : World} {K : PySem.W.Frag} {mg : Str → Option Value} (T : Txt w K mg) : PySem.W.keepIn K (.ref (He.ga K "written_row")) = true := T.F_written_row.kp
theorem Txt.b_written_row {w : World} {K : PySem.W.Frag} {mg : Str → Option Value} (T : Txt w K mg) : Binds K (fdOf K d_written_row) ["size", "body"] [] := T.F_written_row.bindsN fun _ _ _ _ _ _ us hl => match us, hl with | [_, _], _ => rfl
theorem Txt.kp_check_row {w : World} {K : PySem.W.Frag} {mg : Str → Option Value} (T : Txt w K mg) : PySem.W.keepIn K (.ref (He.ga K "check_row")) = true := T.F_check_row.kp
theorem Txt.b_check_row {w : World} {K : PySem.W.Frag} {mg : Str → Option Value} (T : Txt w K mg) : Binds K (fdOf K d_check_row) ["row", "words"] [] := T.F_check_row.bindsN fun _ _ _ _ _ _ us hl => match us, hl with | [_, _], _ => rfl
theorem Txt.kp_may_stand {w : World} {K : PySem.W.Frag} {mg : Str → Option Value} (T : Txt w K mg) : PySem.W.keepIn K (.ref (He.ga K "may_stand")) = true := T.F_may_stand.kp
theorem Txt.b_may_stand {w : World} {K : PySem.W.Frag} {mg : Str → Option Value} (T : Txt w K mg) : Binds K (fdOf K d_may_stand) ["word", "kind"] [] := T.F_may_stand.bindsN fun _ _ _ _ _ _ us hl => match us, hl with | [_, _], _ => rfl
theorem Txt.kp_asked_by {w : World} {K : PySem.W.Frag} {mg : Str → Option Value} (T : Txt w K mg) : PySem.W.keepIn K (.ref (He.ga K "asked_by")) = true := T.F_asked_by.kp
theorem Txt.b_asked_by {w : World} {K : PySem.W.Frag} {mg : Str → Option Value} (T : Txt w K mg) : Binds K (fdOf K d_asked_by) ["word"] [] := T.F_asked_by.bindsN fun _ _ _ _ _ _ us hl => match us, hl with | [_], _ => rfl
theorem Txt.kp_read_row {w : World} {K : PySem.W.Frag} {mg : Str → Option Value} (T : Txt w K mg) : PySem.W.keepIn K (.ref (He.ga K "read_row")) = true := T.F_read_row.kp
theorem Txt.b_read_row {w : World} {K : PySem.W.Frag} {mg : Str → Option Value} (T : Txt w K mg) : Binds K (fdOf K d_read_row) ["words"] [] := T.F_read_row.bindsN fun _ _ _ _ _ _ us hl => match us, hl with | [_], _ => rfl
theorem Txt.kp_law_mix {w : World} {K : PySem.W.Frag} {mg : Str → Option Value} (T : Txt w K mg) : PySem.W.keepIn K (.ref (He.ga K "_law_mix")) = true := T.F_law_mix.kp
theorem Txt.b_law_mix {w : World} {K : PySem.W.Frag} {mg : Str → Option Value} (T : Txt w K mg) : Binds K (fdOf K d_law_mix) ["_law_script", "_law_seed"] [] := T.F_law_mix.bindsN fun _ _ _ _ _ _ us hl => match us, hl with | [_, _], _ => rfl
theorem Txt.kp_law_next {w : World} {K : PySem.W.Frag} {mg : Str → Option Value} (T : Txt w K mg) : PySem.W.keepIn K (.ref (He.ga K "_law_next")) = true := T.F_law_next.kp
theorem Txt.b_law_next {w : World} {K : PySem.W.Frag} {mg : Str → Option Value} (T : Txt w K mg) : Binds K (fdOf K d_law_next) ["_law_h", "_law_many"] [] := T.F_law_next.bindsN fun _ _ _ _ _ _ us hl => match us, hl with | [_, _], _ => rfl
theorem Txt.kp_law_alike {w : World} {K : PySem.W.Frag} {mg : Str → Option Value} (T : Txt w K mg) : PySem.W.keepIn K (.ref (He.ga K "_law_alike")) = true := T.F_law_alike.kp
theorem Txt.b_law_alike {w : World} {K : PySem.W.Frag} {mg : Str → Option Value} (T : Txt w K mg) : Binds K (fdOf K d_law_alike) ["_law_found", "_law_due"] [] := T.F_law_alike.bindsN fun _ _ _ _ _ _ us hl => match us, hl with | [_, _], _ => rfl
theorem Txt.kp_law_leaf {w : World} {K : PySem.W.Frag} {mg : Str → Option Value} (T : Txt w K mg) : PySem.W.keepIn K (.ref (He.ga K "_law_leaf")) = true := T.F_law_leaf.kp
theorem Txt.b_law_leaf {w : World} {K : PySem.W.Frag} {mg : Str → Option Value} (T : Txt w K mg) : Binds K (fdOf K d_law_leaf) ["_law_h", "_law_e", "_law_kind"] [] := T.F_law_leaf.bindsN fun _ _ _ _ _ _ us hl => match us, hl with | [_, _, _], _ => rfl
theorem Txt.kp_law_call {w : World} {K : PySem.W.Frag} {mg : Str → Option Value} (T : Txt w K mg) : PySem.W.keepIn K (.ref (He.ga K "_law_call")) = true := T.F_law_call.kp
theorem Txt.b_law_call {w : World} {K : PySem.W.Frag} {mg : Str → Option Value} (T : Txt w K mg) : Binds K (fdOf K d_law_call) ["_law_h", "_law_e", "_law_deep"] [] := T.F_law_call.bindsN fun _ _ _ _ _ _ us hl => match us, hl with | [_, _, _], _ => rfl
theorem Txt.kp_law_less {w : World} {K : PySem.W.Frag} {mg : Str → Option Value} (T : Txt w K mg) : PySem.W.keepIn K (.ref (He.ga K "_law_less")) = true := T.F_law_less.kp
theorem Txt.b_law_less {w : World} {K : PySem.W.Frag} {mg : Str → Option Value} (T : Txt w K mg) : Binds K (fdOf K d_law_less) ["_law_h", "_law_e", "_law_deep"] [] := T.F_law_less.bindsN fun _ _ _ _ _ _ us hl => match us, hl with | [_, _, _], _ => rfl
theorem Txt.kp_law_body {w : World} {K : PySem.W.Frag} {mg : Str → Option Value} (T : Txt w K mg) : PySem.W.keepIn K (.ref (He.ga K "_law_body")) = true := T.F_law_body.kp
theorem Txt.b_law_body {w : World} {K : PySem.W.Frag} {mg : Str → Option Value} (T : Txt w K mg) : Binds K (fdOf K d_law_body) ["_law_h", "_law_e", "_law_kind", "_law_deep"] [] := T.F_law_body.bindsN fun _ _ _ _ _ _ us hl => match us, hl with | [_, _, _, _], _ => rfl
theorem Txt.kp_law_words {w : World} {K : PySem.W.Frag} {mg : Str → Option Value} (T : Txt w K mg) : PySem.W.keepIn K (.ref (He.ga K "_law_words")) = true := T.F_law_words.kp
theorem Txt.b_law_words {w : World} {K : PySem.W.Frag} {mg : Str → Option Value} (T : Txt w K mg) : Binds K (fdOf K d_law_words) ["_law_body_here"] [] := T.F_law_words.bindsN fun _ _ _ _ _ _ us hl => match us, hl with | [_], _ => rfl
theorem Txt.kp_law_program {w : World} {K : PySem.W.Frag} {mg : Str → Option Value} (T : Txt w K mg) : PySem.W.keepIn K (.ref (He.ga K "_law_program")) = true := T.F_law_program.kp
theorem Txt.b_law_program {w : World} {K : PySem.W.Frag} {mg : Str → Option Value} (T : Txt w K mg) : Binds K (fdOf K d_law_program) ["_law_h", "_law_most"] [] := T.F_law_program.bindsN fun _ _ _ _ _ _ us hl => match us, hl with | [_, _], _ => rfl
theorem Txt.kp_law_text {w : World} {K : PySem.W.Frag} {mg : Str → Option Value} (T : Txt w K mg) : PySem.W.keepIn K (.ref (He.ga K "_law_text")) = true := T.F_law_text.kp
theorem Txt.b_law_text {w : World} {K : PySem.W.Frag} {mg : Str → Option Value} (T : Txt w K mg) : Binds K (fdOf K d_law_text) ["_law_body_here"] [] := T.F_law_text.bindsN fun _ _ _ _ _ _ us hl => match us, hl with | [_], _ => rfl
theorem Txt.kp_law {w : World} {K : PySem.W.Frag} {mg : Str → Option Value} (T : Txt w K mg) : PySem.W.keepIn K (.ref (He.ga K "law")) = true := T.F_law.kp
theorem Txt.b_law {w : World} {K : PySem.W.Frag} {mg : Str → Option Value} (T : Txt w K mg) : Binds K (fdOf K d_law) ["_law_script"] [] := T.F_law.bindsN fun _ _ _ _ _ _ us hl => match us, hl with | [_], _ => rfl
def lawi : Nat := 45
end K19
namespace K19
open PySem PySem.Spec PyProof.Rows L2 Ov
section
variable {P : Program} {w : World} {K : PySem.W.Frag} {mg : Str → Option Value} {base : Heap}
theorem sc_law_next : FnScope ["_law_h", "_law_many", "_law_at", "_law_cell"] ["_law_h", "_law_many"] (defScope s_law_next) := ⟨rfl, rfl, rfl, by decide +kernel, rfl, by decide +kernel, by decide +kernel⟩
-- 0 _law_h, 1 _law_many, 2 _law_at, 3 _law_cell
theorem ok_law_next (T : Txt w K mg) : FnOk P w K mg base CX0 1 (He.ga K "_law_next") (fdOf K d_law_next) ["_law_h", "_law_many"] spNext := by
  refine T.F_law_next.ok sc_law_next (fun vs H Q E h => ?_) (fun cdv A outer s H vs Q E hr h => ?_)
  · obtain ⟨h, c, n, rfl, _⟩ := h
    rfl
  obtain ⟨h, c, n, rfl, ⟨m, k, xs, hh, hc, h63⟩, n0, n1, q⟩ := h
  have nhc : h ≠ c := Dr.ne ⟨m, k, xs, hh, hc, h63⟩
  refine ⟨_, PSs.nox (pss_cons (ps_set (i := 2) sc_law_next.nd rfl (by first | exact Or.inl rfl | exact Or.inr rfl) (pe_op op_mod (pe_ix (r := rIxL K) ix_list (pv 0) pe_int (fun _ _ => rfl)) (pe_callB (call_max2 rfl) (by rfl) T.z_max (by decide +kernel) (pa_cons pe_int (pa_cons (pe_callB (r := Evl.rLenS K) call_len_seq (by rfl) T.z_len PySem.boot_len (pa_cons (pe_ix (r := rIxL K) ix_list (pv 0) pe_int (fun _ _ => rfl)) pa_nil)) pa_nil)))))
      (Evl.pss_cut (ps_set (i := 3) sc_law_next.nd rfl (by first | exact Or.inl rfl | exact Or.inr rfl) (pe_ifExp (pt_cmpR (r := rNeD K) (op_neD hr.units) (pe_ix (r := rIxL K) ix_list (pv 0) pe_int (fun _ _ => rfl)) (pe_lst pa_nil) (nomark _)) (pe_ix (r := rIxL K) ix_list (pe_ix (r := rIxL K) ix_list (pv 0) pe_int (fun _ _ => rfl)) (pv 2) (fun _ _ => rfl)) pe_int))
      (pss_cons (ps_if (pt_cmpR op_ge (pv 3) (pe_op op_pow pe_int pe_int) (nomark _)) (pss_cons (ps_asg (pe_op op_fdiv (pv 3) (pv 1)) (pg_sub (pe_ix (r := rIxL K) ix_list (pv 0) pe_int (fun _ _ => rfl)) (pv 2) set_list))
      (pss_one (ps_ret (pe_op op_mod (pv 3) (pv 1))))) pss_nil)
      (pss_cons (ps_asg (pe_op op_mod (pe_op op_add (pe_op op_add (pe_op op_mul (pe_ix (r := rIxL K) ix_list (pv 0) pe_int (fun _ _ => rfl)) pe_int) (pe_op op_mul (pv 3) pe_int)) pe_int) pe_int) (pg_sub (pv 0) pe_int set_list))
      (pss_cons (ps_asg (pe_op op_add (pe_ix (r := rIxL K) ix_list (pv 0) pe_int (fun _ _ => rfl)) pe_int) (pg_sub (pv 0) pe_int set_list))
      (pss_one (ps_ret (pe_op op_mod (pe_op op_fdiv (pe_ix (r := rIxL K) ix_list (pv 0) pe_int (fun _ _ => rfl)) pe_int) (pv 1))))))))), ?_⟩
  have hm : (0 : Int) < (if ((xs.map V.int).length : Int) > 1 then ((xs.map V.int).length : Int) else 1) := by split <;> omega
  refine ⟨_, rfl, h, _, 2, .int k, rfl, rfl, SqL.of hh, rfl, _, rfl, h, _, 1, .ref c, rfl, rfl, SqL.of hh, rfl, c, _, rfl, .inl (SqL.of hc), 1, _, rfl, k, _, rfl, rfl, hm, ?_⟩
  have ht : xs ≠ [] → ∃ (j : Nat) (z : Int), k % (if ((xs.map V.int).length : Int) > 1 then ((xs.map V.int).length : Int) else 1) = (j : Int) ∧ j < xs.length ∧ xs[j]? = some z := fun ne => by
    have l1 : 0 < xs.length := (by cases xs with | nil => exact absurd rfl ne | cons _ _ => exact Nat.succ_pos _)
    have b0 := Int.emod_nonneg k (Int.ne_of_gt hm)
    have b1 := Int.emod_lt_of_pos k hm
    generalize k % (if ((xs.map V.int).length : Int) > 1 then ((xs.map V.int).length : Int) else 1) = t at b0 b1
    have b2 : t < (xs.length : Int) := by
      rw [List.length_map] at b1
      split at b1 <;> omega
    have b3 : t.toNat < xs.length := by omega
    exact ⟨t.toNat, xs[t.toNat], by omega, b3, List.getElem?_eq_getElem b3⟩
  show Evl.tCut _ _ _ ([some (.ref h), some (.int n), some (.int (k % (if ((xs.map V.int).length : Int) > 1 then ((xs.map V.int).length : Int) else 1))), none] : L2.St) _
  generalize k % (if ((xs.map V.int).length : Int) > 1 then ((xs.map V.int).length : Int) else 1) = t at ht
  refine ⟨fun σ' H' => ∃ z : Int, σ' = [some (.ref h), some (.int n), some (.int t), some (.int z)] ∧ H' h = some (.lst [.int m, .ref c, .int k]) ∧ H' c = some (.lst (xs.map V.int)) ∧ But h c H H' ∧ (z ≠ 0 → ∃ j : Nat, t = (j : Int) ∧ j < xs.length), ?_, ?_⟩
  · refine ⟨_, rfl, h, _, 1, .ref c, rfl, rfl, SqL.of hh, rfl, sml 0, fun p hp => ?_⟩
    have ph : h ≠ p := ne_of_none hh hp
    have pc : c ≠ p := ne_of_none hc hp
    have hh1 : upd H p (.lst []) h = some (.lst [.int m, .ref c, .int k]) := by rw [upd_ne ph]; exact hh
    have hc1 : upd H p (.lst []) c = some (.lst (xs.map V.int)) := by rw [upd_ne pc]; exact hc
    refine ⟨.list (xs.map PyData.int), .list [], .lst (SqL.of hc1) (dpInts xs), .lst (SqL.of upd_same) .nil, intsShaped xs, intsShaped [], _, rfl, ?_⟩
    rw [eqvNil]
    by_cases e : xs = []
    · have e1 : xs.isEmpty = true := by rw [e]; rfl
      rw [e1]
      refine iteF ?_
      exact ⟨0, rfl, hh1, hc1, But.new hp, fun h => absurd rfl h⟩
    · have e1 : xs.isEmpty = false := by
        cases xs with
        | nil => exact absurd rfl e
        | cons _ _ => rfl
      rw [e1]
      refine iteT ?_
      obtain ⟨j, z, ej, hj, hz⟩ := ht e
      refine ⟨_, rfl, h, _, 1, .ref c, rfl, rfl, SqL.of hh1, rfl, _, rfl, c, _, t, .int z, rfl, rfl, SqL.of hc1, by rw [ej]; exact atI_nat (by rw [List.getElem?_map, hz]; rfl), ?_⟩
      exact ⟨z, rfl, hh1, hc1, But.new hp, fun _ => ⟨j, ej, hj⟩⟩
  rintro σ1 H1 ⟨z, rfl, hh1, hc1, b1, hz⟩
  refine ⟨_, rfl, 10, 18, rfl, rfl, (by refine ⟨by decide, by decide, by decide⟩), z, _, rfl, rfl, _, rfl, ite2 (fun e => ?_) (fun e => ?_)⟩
  · have e1 : (10 : Int) ^ (18 : Int).toNat ≤ z := of_decide_eq_true e
    have e2 : (0 : Int) < (10 : Int) ^ (18 : Int).toNat := by decide
    obtain ⟨j, ej, hj⟩ := hz (by omega)
    refine ⟨_, rfl, _, rfl, z, n, rfl, rfl, ⟨n0, by omega⟩, ?_⟩
    refine ⟨_, rfl, h, _, 1, .ref c, rfl, rfl, SqL.of hh1, rfl, _, rfl, c, _, t, j, rfl, rfl, hc1, ?_, ?_⟩
    · rw [ej]
      unfold ixN
      rw [List.length_map, if_pos (by omega), if_pos (by omega)]
      simp
    refine ⟨_, rfl, _, rfl, z, n, rfl, rfl, n0, ?_⟩
    refine q _ _ (Int.emod_nonneg _ (by omega)) (Int.emod_lt_of_pos _ n0) (b1.trans But.updc) ⟨m, k, xs.set j (z / n), ?_, ?_, ?_⟩
    · rw [upd_ne nhc]; exact hh1
    · rw [upd_same, List.map_set]
    · rw [List.length_set]; exact h63
  · refine ⟨_, rfl, h, _, 0, .int m, rfl, rfl, SqL.of hh1, rfl, m, 48271, rfl, rfl, .inr (by decide), _, rfl, z, 69621, rfl, rfl, .inr (by decide), _, _, rfl, rfl, _, 11, rfl, rfl, _, 2147483647, rfl, rfl, (by show (0 : Int) < 2147483647; decide), ?_⟩
    refine ⟨_, rfl, h, _, 0, 0, rfl, rfl, hh1, rfl, ?_⟩
    refine ⟨_, rfl, h, _, 2, .int k, rfl, rfl, SqL.of upd_same, rfl, k, 1, rfl, rfl, _, rfl, h, _, 2, 2, rfl, rfl, upd_same, rfl, ?_⟩
    refine ⟨_, rfl, h, _, 0, .int ((m * 48271 + z * 69621 + 11) % 2147483647), rfl, rfl, SqL.of upd_same, rfl, _, 7, rfl, rfl, ⟨by decide, by decide⟩, _, rfl, _, n, rfl, rfl, n0, ?_⟩
    refine q _ _ (Int.emod_nonneg _ (by omega)) (Int.emod_lt_of_pos _ n0) (b1.trans (But.updh.trans But.updh)) ⟨(m * 48271 + z * 69621 + 11) % 2147483647, k + 1, xs, upd_same, ?_, h63⟩
    rw [upd_ne nhc.symm, upd_ne nhc.symm]
    exact hc1
theorem sc_law_mix : FnScope ["_law_script", "_law_seed", "_law_mixed", "_law_cell"] ["_law_script", "_law_seed"] (defScope s_law_mix) := ⟨rfl, rfl, rfl, by decide +kernel, rfl, by decide +kernel, by decide +kernel⟩
-- 0 _law_script, 1 _law_seed, 2 _law_mixed, 3 _law_cell
theorem ok_law_mix (T : Txt w K mg) : FnOk P w K mg base CX0 1 (He.ga K "_law_mix") (fdOf K d_law_mix) ["_law_script", "_law_seed"] (spMix K) := by
  refine T.F_law_mix.ok sc_law_mix (fun vs H Q E h => ?_) (fun cdv A outer s H vs Q E hr h => ?_)
  · obtain ⟨a, ns, z, rfl, _⟩ := h
    rfl
  obtain ⟨a, ns, z, rfl, hS, h63, z0, z1, q⟩ := h
  refine ⟨_, PSs.nox (pss_cons (ps_set (i := 2) sc_law_mix.nd rfl (by first | exact Or.inl rfl | exact Or.inr rfl) (pv 1))
      (pss_cons (ps_for PassesOwn.never rfl (Ov.pi_listK (K := K) rfl (pv 0)) (pg_name (i := 3) sc_law_mix.nd rfl (by first | exact Or.inl rfl | exact Or.inr rfl)) (pss_one (ps_set (i := 2) sc_law_mix.nd rfl (by first | exact Or.inl rfl | exact Or.inr rfl) (pe_op op_mod (pe_op op_add (pe_op op_add (pe_op op_mul (pv 2) pe_int) (pe_op op_mod (pv 3) pe_int)) pe_int) pe_int))))
      (pss_one (ps_ret (pe_lst (pa_cons (pv 2) (pa_cons (pe_callTy (r := Evl.rListS K) call_list_of (by rfl) T.z_list (by decide +kernel) (pa_cons (pv 0) pa_nil)) (pa_cons pe_int pa_nil)))))))), ?_⟩
  refine ⟨_, rfl, _, rfl, a, rfl, ⟨_, hS⟩, for_list (K := K) (a := a) (xs := ns.map V.int) (fun _ σ H' => ∃ (y : Int) (v : Option V), σ = [some (.ref a), some (.int z), some (.int y), v] ∧ H' = H) ⟨z, none, rfl, rfl⟩ (fun i σ H' _ ⟨_, _, _, e⟩ => by rw [e]; exact hS) ?_ ?_⟩
  · rintro i x σ H' hi ⟨y, v, rfl, rfl⟩
    obtain ⟨u, rfl⟩ : ∃ u, x = V.int u := by
      rw [List.getElem?_map] at hi
      cases e : ns[i]? with
      | none => rw [e] at hi; cases hi
      | some u => rw [e] at hi; exact ⟨u, (Option.some.inj hi).symm⟩
    refine ⟨_, rfl, y, 48271, rfl, rfl, .inr (by decide), _, rfl, u, 2147483629, rfl, rfl, (by show (0 : Int) < 2147483629; decide), _, _, rfl, rfl, _, 1, rfl, rfl, _, 2147483647, rfl, rfl, (by show (0 : Int) < 2147483647; decide), ?_⟩
    exact ⟨_, _, rfl, rfl⟩
  · rintro σ H' ⟨y, v, rfl, rfl⟩
    refine ⟨_, rfl, _, rfl, a, _, rfl, .inl hS, fun c hc => ⟨sml 3, fun h hh => ?_⟩⟩
    have nc : c ≠ h := fun e => by rw [e, upd_same] at hh; cases hh
    have hh0 : H' h = none := by rw [upd_ne nc.symm] at hh; exact hh
    refine q h c _ hh0 hc ((Same.new hc).trans (Same.new hh)) ⟨y, 0, ns, upd_same, ?_, h63⟩
    rw [upd_ne nc, upd_same]
end
end K19

namespace K19
open PySem PySem.Spec PyProof.Rows L2 Ov
section
variable {P : Program} {w : World} {K : PySem.W.Frag} {mg : Str → Option Value} {base : Heap}
theorem sc_law_leaf : FnScope ["_law_h", "_law_e", "_law_kind", "_law_some", "_law_k"] ["_law_h", "_law_e", "_law_kind"] (defScope s_law_leaf) := ⟨rfl, rfl, rfl, by decide +kernel, rfl, by decide +kernel, by decide +kernel⟩
-- 0 _law_h, 1 _law_e, 2 _law_kind, 3 _law_some, 4 _law_k
theorem ok_law_leaf (T : Txt w K mg) {n : Nat} : FnOk P w K mg base CX0 2 (He.ga K "_law_leaf") (fdOf K d_law_leaf) ["_law_h", "_law_e", "_law_kind"] (spWord n 1 (preLeaf n)) := by
  have G_law_next := ok_law_next (P := P) (base := base) T
  refine T.F_law_leaf.ok sc_law_leaf (fun vs H Q E h => ?_) (fun cdv A outer s H vs Q E hr h => ?_)
  · obtain ⟨h, c, ⟨e, k, rfl, _⟩, _⟩ := h
    rfl
  obtain ⟨h, c, ⟨e, k, rfl, kk, came, pl, kl, ps, ks, x⟩, dr, q⟩ := h
  refine ⟨_, PSs.nox (Evl.pss_cut (ps_set (i := 3) sc_law_leaf.nd rfl (by first | exact Or.inl rfl | exact Or.inr rfl) (pe_op op_rep (pe_op op_rep (pe_lst (pa_cons (pe_tup (pa_cons pe_str pa_nil)) pa_nil)) pe_int) (pe_callTy call_int1 (by rfl) T.z_int (by decide +kernel) (pa_cons (pe_cmpR op_eq (pe_dget (hu_of hr) (pv 1) pe_str (fun _ _ => rfl)) (pv 2) (nomark _)) pa_nil))))
      (Evl.pss_cut (ps_if (pt_cmpR op_eq (pv 2) pe_str (nomark _)) (pss_one (ps_set (i := 3) sc_law_leaf.nd rfl (by first | exact Or.inl rfl | exact Or.inr rfl) (pe_op op_cat (pv 3) (pe_lst (pa_cons (pe_tup (pa_cons pe_str (pa_cons (pe_ix (r := rIxL K) ix_list (pe_lst (pa_cons (pe_call G_law_next (hr.mono (by omega)) (by rfl) T.g_law_next T.kp_law_next T.b_law_next .nil pass0 (pa_cons (pv 0) (pa_cons pe_int pa_nil))) (pa_cons (pe_call G_law_next (hr.mono (by omega)) (by rfl) T.g_law_next T.kp_law_next T.b_law_next .nil pass0 (pa_cons (pv 0) (pa_cons pe_int pa_nil))) pa_nil))) (pe_call G_law_next (hr.mono (by omega)) (by rfl) T.g_law_next T.kp_law_next T.b_law_next .nil pass0 (pa_cons (pv 0) (pa_cons pe_int pa_nil))) (fun _ _ => rfl)) pa_nil))) pa_nil))))) (pss_one (ps_set (i := 3) sc_law_leaf.nd rfl (by first | exact Or.inl rfl | exact Or.inr rfl) (pe_op op_cat (pv 3) (pe_lc (own := [("_law_k", 4)]) rfl sc_law_leaf.nd (pi_range1 (by rfl) T.z_range (pa_cons pe_int pa_nil)) (blkOk_by (own := [("_law_k", 4)]) (N := ["_law_h", "_law_e", "_law_kind", "_law_some", "_law_k"]) (sc := defScope s_law_leaf) (by decide +kernel)) (fun _ _ _ _ _ => (pg_name (i := 4) sc_law_leaf.nd rfl (by first | exact Or.inl rfl | exact Or.inr rfl))) (fun _ _ _ _ _ => pts_nil) (fun _ _ _ _ _ => (pe_tup (pa_cons pe_str (pa_cons (pe_ix (r := rIxL K) ix_list (pe_dget (hu_of hr) (pv 1) pe_str (fun _ _ => rfl)) (pe_call G_law_next (hr.mono (by omega)) (by rfl) T.g_law_next T.kp_law_next T.b_law_next .nil pass0 (pa_cons (pv 0) (pa_cons (pe_callB (r := Evl.rLenS K) call_len_seq (by rfl) T.z_len PySem.boot_len (pa_cons (pe_dget (hu_of hr) (pv 1) pe_str (fun _ _ => rfl)) pa_nil)) pa_nil))) (fun _ _ => rfl)) pa_nil)))))))))
      (pss_one (ps_ret (pe_ix (r := rIxL K) ix_list (pv 3) (pe_call G_law_next (hr.mono (by omega)) (by rfl) T.g_law_next T.kp_law_next T.b_law_next .nil pass0 (pa_cons (pv 0) (pa_cons (pe_callB (r := Evl.rLenS K) call_len_seq (by rfl) T.z_len PySem.boot_len (pa_cons (pv 3) pa_nil)) pa_nil))) (fun _ _ => rfl)))))), ?_⟩
  have hk0 : Keep H H := Keep.refl H
  refine ⟨fun σ' H' => ∃ (l : Addr) (xs : List V), σ' = [some (.ref h), some (.ref e), some (.str k), some (.ref l), none] ∧ Same H H' ∧ H l = none ∧ H' l = some (.lst xs) ∧ xs.length ≤ 3 ∧ ∀ v ∈ xs, Wd H' n 1 v, ?_, ?_⟩
  · refine ⟨sml 1, fun t ht => ⟨sml 1, fun l hl => ⟨l, 3, _, rfl, rfl, upd_same, by decide, by decide, (by show 1 * 3 ≤ sizeLine; decide), fun p1 hp1 => ?_⟩⟩⟩
    have ntl : t ≠ l := fun z => by rw [z] at ht; rw [z, upd_same] at hl; cases hl
    have ntp : t ≠ p1 := fun z => by rw [z, upd_ne ((fun y => by rw [y, upd_same] at hp1; cases hp1) : p1 ≠ l), upd_same] at hp1; cases hp1
    have s1 : Same H (upd (upd (upd H t (.tup [.str "argument"])) l (.lst [.ref t])) p1 (.lst (List.replicate (3 : Int).toNat [V.ref t]).flatten)) := (Same.new ht).trans ((Same.new hl).trans (Same.new hp1))
    refine ⟨_, rfl, e, .str came, rfl, DGet.k (k := Sum.inr "came") (s1 _ _ x.e), _, rfl, rfl, .inr ⟨_, rfl, ?_⟩⟩
    refine ⟨p1, _, _, rfl, rfl, upd_same, ?_, ?_, ?_, fun p2 hp2 => ?_⟩
    · split <;> decide
    · split <;> decide
    · split
      · show 3 * 1 ≤ sizeLine
        decide
      · show 3 * 0 ≤ sizeLine
        decide
    refine ⟨p2, _, rfl, s1.trans (Same.new hp2), s1.free hp2, upd_same, ?_, fun v hv => ?_⟩
    · split
      · exact Nat.le_refl 3
      · exact Nat.zero_le 3
    · have ev : v = .ref t := by
        split at hv
        · have hv2 : v ∈ [V.ref t, .ref t, .ref t] := hv
          simpa using hv2
        · cases hv
      rw [ev]
      refine wd0 (d := 0) .arg 0 ?_ trivial
      have np2 : t ≠ p2 := fun z => by
        rw [← z, upd_ne ntp, upd_ne ntl, upd_same] at hp2
        cases hp2
      rw [upd_ne np2, upd_ne ntp, upd_ne ntl, upd_same]
      rfl
  rintro σ1 H1 ⟨l, xs, rfl, s1, hl0, hl, hx3, hw⟩
  have d1 : Dr H1 h c := dr.same s1
  have x1 := x.same s1
  have lh := (Dr.new dr hl0)
  have b1 : But h c H H1 := .same s1
  refine ⟨fun σ' H' => ∃ (l : Addr) (xs : List V), σ' = [some (.ref h), some (.ref e), some (.str k), some (.ref l), none] ∧ But h c H H' ∧ Dr H' h c ∧ l ≠ h ∧ l ≠ c ∧ H' l = some (.lst xs) ∧ xs ≠ [] ∧ xs.length ≤ 9 ∧ ∀ v ∈ xs, Wd H' n 1 v, ?_, ?_⟩
  · refine ⟨_, rfl, rfl, _, rfl, ite2 (fun ek => ?_) (fun ek => ?_)⟩
    · refine ⟨_, rfl, _, rfl, h, c, 4, rfl, d1, by decide, by decide, fun r1 H2 r10 r11 b2 d2 => ?_⟩
      refine ⟨_, rfl, h, c, 100, rfl, d2, by decide, by decide, fun r2 H3 r20 r21 b3 d3 => ⟨sml 2, fun l2 hl2 => ?_⟩⟩
      have d3' : Dr (upd H3 l2 (.lst [.int r1, .int r2])) h c := d3.same (Same.new hl2)
      refine ⟨_, rfl, h, c, 2, rfl, d3', by decide, by decide, fun r3 H4 r30 r31 b4 d4 => ?_⟩
      have n2 := Dr.new d3 hl2
      refine ⟨l2, _, r3, _, rfl, rfl, SqL.of (b4 _ _ n2.1 n2.2 upd_same), two_at _ _ r30 r31, ?_⟩
      refine ⟨sml 2, fun t ht => ⟨sml 1, fun l3 hl3 => ?_⟩⟩
      have b14 : But h c H1 H4 := b2.trans (b3.trans ((But.new hl2).trans b4))
      have hl4 : H4 l = some (.lst xs) := b14 _ _ lh.1 lh.2 hl
      have s46 : Same H4 (upd (upd H4 t (.tup [.str "num", if r3 = 0 then .int r1 else .int r2])) l3 (.lst [.ref t])) := (Same.new ht).trans (Same.new hl3)
      refine ⟨l, l3, xs, _, rfl, rfl, s46 _ _ hl4, upd_same, sml _ (by rw [List.length_singleton]; omega), fun p hp => ?_⟩
      have s7 := s46.trans (Same.new (o := .lst (xs ++ [.ref t])) hp)
      have np := Dr.new (d4.same s46) hp
      have ntl3 : t ≠ l3 := fun z => by rw [z, upd_same] at hl3; cases hl3
      have ntp : t ≠ p := fun z => by rw [← z, upd_ne ntl3, upd_same] at hp; cases hp
      refine ⟨p, _, rfl, b1.trans (b14.trans (.same s7)), d4.same s7, np.1, np.2, upd_same, by simp, by rw [List.length_append, List.length_singleton]; omega, wds_app (wds_keep ((Keep.but b14 d1).trans (Keep.same s7)) hw) (wds_one ?_)⟩
      refine wd0 (d := 0) .num (if r3 = 0 then r1 else r2) ?_ (by split <;> exact ⟨by omega, by omega⟩)
      rw [upd_ne ntp, upd_ne ntl3, upd_same]
      split <;> rfl
    · refine ⟨_, rfl, 2, rfl, by decide, by decide, fun D hD => ?_⟩
      have nD := Dr.new d1 hD
      refine lc_rangeY (lo := 0) (n := 2) (fun i H' => ∃ acc, But h c H1 H' ∧ Dr H' h c ∧ H' D = some (.lst acc) ∧ acc.length = i ∧ ∀ v ∈ acc, Wd H' n 1 v) ⟨[], But.new hD, d1.same (Same.new hD), upd_same, rfl, fun _ h => by cases h⟩ ?_ ?_
      · rintro i H2 hi ⟨acc, b2, d2, hacc, hlen, hwa⟩
        have x2 := x1.but d1 b2
        refine ⟨rfl, ?_⟩
        refine ⟨_, rfl, e, .ref pl, rfl, DGet.k (k := Sum.inr "plain") x2.e, ?_⟩
        refine ⟨_, rfl, _, rfl, e, .ref pl, rfl, DGet.k (k := Sum.inr "plain") x2.e, pl, _, rfl, .inl (SqL.of x2.p), ?_⟩
        refine ⟨h, c, _, rfl, d2, (by rw [List.length_map]; have := List.length_pos_iff.mpr x2.p0; omega), (by rw [List.length_map]; have := x2.p8; omega), fun r H3 r0 r1 b3 d3 => ?_⟩
        have x3 := x2.but d2 b3
        rw [List.length_map] at r1
        obtain ⟨z, hz, ez⟩ := int_at (P := fun x => 0 ≤ x ∧ x < n) x3.pn r0 r1
        refine ⟨pl, _, r, .int z, rfl, rfl, SqL.of x3.p, ez, sml 2, fun t ht => ?_⟩
        have hacc3 : H3 D = some (.lst acc) := b3 _ _ nD.1 nD.2 hacc
        have d4 : Dr (upd H3 t (.tup [.str "way", .int z])) h c := d3.same (Same.new ht)
        have ntD : D ≠ t := ne_of_none hacc3 ht
        have k24 : Keep H2 (upd H3 t (.tup [.str "way", .int z])) := (Keep.but b3 d2).trans (Keep.same (Same.new ht))
        have hD4 : (upd H3 t (.tup [.str "way", .int z])) D = some (.lst acc) := by rw [upd_ne ntD]; exact hacc3
        have hw4 : ∀ v ∈ acc ++ [V.ref t], Wd (upd H3 t (.tup [.str "way", .int z])) n 1 v := wds_app (wds_keep k24 hwa) (wds_one (wd0 (d := 0) .way z upd_same hz))
        exact ⟨acc, hD4, sm _, acc ++ [.ref t], ((b2.trans b3).trans (But.new ht)).updn hD, d4.upd nD.1 nD.2, upd_same, by rw [List.length_append, List.length_singleton, hlen], wds_keep (Keep.updL hD4) hw4⟩
      · rintro H2 ⟨acc, b2, d2, hacc, hlen, hwa⟩
        have hl2 : H2 l = some (.lst xs) := b2 _ _ lh.1 lh.2 hl
        refine ⟨l, D, xs, acc, rfl, rfl, hl2, hacc, sml _, fun p hp => ?_⟩
        have np := Dr.new d2 hp
        refine ⟨p, _, rfl, b1.trans (b2.trans (But.new hp)), d2.same (Same.new hp), np.1, np.2, upd_same, ?_, by rw [List.length_append]; omega, wds_keep (Keep.same (Same.new hp)) (wds_app (wds_keep (Keep.but b2 d1) hw) hwa)⟩
        intro z
        have z2 := congrArg List.length z
        rw [List.length_append, hlen] at z2
        simp at z2
  rintro σ2 H2 ⟨l, xs, rfl, b2, d2, lh, lc, hl, hx0, hx9, hw⟩
  have hx1 : 0 < xs.length := List.length_pos_iff.mpr hx0
  refine ⟨_, rfl, _, rfl, _, rfl, l, _, rfl, .inl (SqL.of hl), h, c, _, rfl, d2, by omega, by omega, fun r H3 r0 r1 b3 d3 => ?_⟩
  obtain ⟨v, hv, ev⟩ := val_at hw r0 r1
  exact ⟨l, _, r, v, rfl, rfl, SqL.of (b3 _ _ lh lc hl), ev, q v H3 (b2.trans b3) d3 (hv.keep (Keep.but b3 d2))⟩
end
end K19

namespace K19
open PySem PySem.Spec PyProof.Rows L2 Ov
section
variable {P : Program} {w : World} {K : PySem.W.Frag} {mg : Str → Option Value} {base : Heap}
theorem sc_law_less : FnScope ["_law_h", "_law_e", "_law_deep"] ["_law_h", "_law_e", "_law_deep"] (defScope s_law_less) := ⟨rfl, rfl, rfl, by decide +kernel, rfl, by decide +kernel, by decide +kernel⟩
-- 0 _law_h, 1 _law_e, 2 _law_deep
theorem ok_law_less (T : Txt w K mg) {n m : Nat} (G_law_body : FnOk P w K mg base CX0 (3 * m + 3) (He.ga K "_law_body") (fdOf K d_law_body) ["_law_h", "_law_e", "_law_kind", "_law_deep"] (spWord n (m + 2) (preBody n m))) :
    FnOk P w K mg base CX0 (3 * m + 4) (He.ga K "_law_less") (fdOf K d_law_less) ["_law_h", "_law_e", "_law_deep"] (spWord n (m + 2) (preDeep n m)) := by
  have G_law_next := ok_law_next (P := P) (base := base) T
  refine T.F_law_less.ok sc_law_less (fun vs H Q E h => ?_) (fun cdv A outer s H vs Q E hr h => ?_)
  · obtain ⟨h, c, ⟨e, z, rfl, _⟩, _⟩ := h
    rfl
  obtain ⟨h, c, ⟨e, z, rfl, ez, x⟩, dr, q⟩ := h
  have x' := x
  obtain ⟨came, pl, kl, ps, ks, xe⟩ := x'
  refine ⟨_, PSs.nox (pss_cons (ps_if (PW.pt (pw_and (pt_cmpR op_eq (pe_dget (hu_of hr) (pv 1) pe_str (fun _ _ => rfl)) pe_str (nomark _)) (pw_and1 (pt_cmpR op_gt (pe_call G_law_next (hr.mono (by omega)) (by rfl) T.g_law_next T.kp_law_next T.b_law_next .nil pass0 (pa_cons (pv 0) (pa_cons pe_int pa_nil))) pe_int (nomark _))))) (pss_one (ps_ret (pe_tup (pa_cons pe_str (pa_cons (pe_tup (pa_cons pe_str pa_nil)) (pa_cons (pe_tup (pa_cons pe_str (pa_cons pe_int pa_nil))) pa_nil)))))) pss_nil)
      (pss_one (ps_ret (pe_call G_law_body (hr.mono (by omega)) (by rfl) T.g_law_body T.kp_law_body T.b_law_body .nil pass0 (pa_cons (pv 0) (pa_cons (pv 1) (pa_cons pe_str (pa_cons (pv 2) pa_nil)))))))), ?_⟩
  have go : ∀ H', But h c H H' → Dr H' h c → spWord n (m + 2) (preBody n m) [.ref h, .ref e, .str "number", .int z] H' Q E := fun H' b d => ⟨h, c, ⟨e, _, z, rfl, ez, kindN, x.but dr b⟩, d, fun v H2 b2 d2 hv => q v H2 (b.trans b2) d2 hv⟩
  refine ⟨_, rfl, e, .str came, rfl, DGet.k (k := Sum.inr "came") xe.e, rfl, _, rfl, ite2 (fun a => ?_) (fun a => ?_)⟩
  · refine ⟨_, rfl, h, c, 4, rfl, dr, by decide, by decide, fun r H2 r0 r1 b2 d2 => ⟨_, 0, rfl, rfl, _, rfl, ite2 (fun _ => ?_) (fun _ => ?_)⟩⟩
    · refine ⟨sml 1, fun t1 h1 => ⟨sml 2, fun t2 h2 => ⟨sml 3, fun t3 h3 => ?_⟩⟩⟩
      have s3 := (Same.new (o := .tup [.str "argument"]) h1).trans ((Same.new (o := .tup [.str "num", .int 1]) h2).trans (Same.new (o := .tup [.str "less", .ref t1, .ref t2]) h3))
      have n12 : t1 ≠ t2 := ne_of_none upd_same h2
      have n13 : t1 ≠ t3 := ne_of_none (by rw [upd_ne n12]; exact upd_same) h3
      have n23 : t2 ≠ t3 := ne_of_none upd_same h3
      refine q _ _ (b2.trans (.same s3)) (d2.same s3) (Wd.mono (wd2 (d := 1) .less 0 upd_same trivial (wd0 (d := 0) .arg 0 ?_ trivial) (wd0 (d := 0) .num 1 ?_ ⟨by decide, by decide⟩)) (by omega))
      · rw [upd_ne n13, upd_ne n12, upd_same]; rfl
      · rw [upd_ne n23, upd_same]; rfl
    · exact ⟨_, rfl, _, rfl, _, rfl, go H2 b2 d2⟩
  · exact ⟨_, rfl, _, rfl, _, rfl, go H (But.refl H) dr⟩
theorem sc_law_call : FnScope ["_law_h", "_law_e", "_law_deep", "_law_called", "_law_kind", "_law_arm"] ["_law_h", "_law_e", "_law_deep"] (defScope s_law_call) := ⟨rfl, rfl, rfl, by decide +kernel, rfl, by decide +kernel, by decide +kernel⟩
-- 0 _law_h, 1 _law_e, 2 _law_deep, 3 _law_called, 4 _law_kind, 5 _law_arm
theorem ok_law_call (T : Txt w K mg) {n m : Nat} (G_law_body : FnOk P w K mg base CX0 (3 * m + 3) (He.ga K "_law_body") (fdOf K d_law_body) ["_law_h", "_law_e", "_law_kind", "_law_deep"] (spWord n (m + 2) (preBody n m))) :
    FnOk P w K mg base CX0 (3 * m + 5) (He.ga K "_law_call") (fdOf K d_law_call) ["_law_h", "_law_e", "_law_deep"] (spWord n (m + 3) (preDeep n (m + 1))) := by
  have G_law_next := ok_law_next (P := P) (base := base) T
  have G_law_less := ok_law_less (P := P) (base := base) T G_law_body
  refine T.F_law_call.ok sc_law_call (fun vs H Q E h => ?_) (fun cdv A outer s H vs Q E hr h => ?_)
  · obtain ⟨h, c, ⟨e, z, rfl, _⟩, _⟩ := h
    rfl
  obtain ⟨h, c, ⟨e, z, rfl, ez, x⟩, dr, q⟩ := h
  have ez1 : z - 1 = (m : Int) := by omega
  refine ⟨_, PSs.nox (pss_cons (ps_if (pt_cmpR op_eq (pe_call G_law_next (hr.mono (by omega)) (by rfl) T.g_law_next T.kp_law_next T.b_law_next .nil pass0 (pa_cons (pv 0) (pa_cons pe_int pa_nil))) pe_int (nomark _)) (pss_one (ps_ret (pe_tup (pa_cons pe_str (pa_cons (pe_call G_law_body (hr.mono (by omega)) (by rfl) T.g_law_body T.kp_law_body T.b_law_body .nil pass0 (pa_cons (pv 0) (pa_cons (pv 1) (pa_cons pe_str (pa_cons (pe_op op_sub (pv 2) pe_int) pa_nil))))) (pa_cons (pe_call G_law_less (hr.mono (by omega)) (by rfl) T.g_law_less T.kp_law_less T.b_law_less .nil pass0 (pa_cons (pv 0) (pa_cons (pv 1) (pa_cons (pe_op op_sub (pv 2) pe_int) pa_nil)))) pa_nil)))))) pss_nil)
      (pss_cons (ps_set (i := 3) sc_law_call.nd rfl (by first | exact Or.inl rfl | exact Or.inr rfl) (pe_call G_law_next (hr.mono (by omega)) (by rfl) T.g_law_next T.kp_law_next T.b_law_next .nil pass0 (pa_cons (pv 0) (pa_cons (pe_callB (r := Evl.rLenS K) call_len_seq (by rfl) T.z_len PySem.boot_len (pa_cons (pe_dget (hu_of hr) (pv 1) pe_str (fun _ _ => rfl)) pa_nil)) pa_nil))))
      (pss_cons (ps_set (i := 4) sc_law_call.nd rfl (by first | exact Or.inl rfl | exact Or.inr rfl) (pe_ix (r := rIxL K) ix_list (pe_dget (hu_of hr) (pv 1) pe_str (fun _ _ => rfl)) (pv 3) (fun _ _ => rfl)))
      (Evl.pss_cut (ps_if (pt_cmpR op_eq (pe_call G_law_next (hr.mono (by omega)) (by rfl) T.g_law_next T.kp_law_next T.b_law_next .nil pass0 (pa_cons (pv 0) (pa_cons pe_int pa_nil))) pe_int (nomark _)) (pss_one (ps_set (i := 4) sc_law_call.nd rfl (by first | exact Or.inl rfl | exact Or.inr rfl) (pe_ix (r := rIxL K) ix_list (pe_lst (pa_cons pe_str (pa_cons pe_str pa_nil))) (pe_call G_law_next (hr.mono (by omega)) (by rfl) T.g_law_next T.kp_law_next T.b_law_next .nil pass0 (pa_cons (pv 0) (pa_cons pe_int pa_nil))) (fun _ _ => rfl)))) pss_nil)
      (pss_cons (ps_set (i := 5) sc_law_call.nd rfl (by first | exact Or.inl rfl | exact Or.inr rfl) (pe_ifExp (pt_cmpR op_eq (pv 4) pe_str (nomark _)) (pe_call G_law_less (hr.mono (by omega)) (by rfl) T.g_law_less T.kp_law_less T.b_law_less .nil pass0 (pa_cons (pv 0) (pa_cons (pv 1) (pa_cons (pe_op op_sub (pv 2) pe_int) pa_nil)))) (pe_call G_law_body (hr.mono (by omega)) (by rfl) T.g_law_body T.kp_law_body T.b_law_body .nil pass0 (pa_cons (pv 0) (pa_cons (pv 1) (pa_cons pe_str (pa_cons (pe_op op_sub (pv 2) pe_int) pa_nil)))))))
      (pss_one (ps_ret (pe_tup (pa_cons pe_str (pa_cons (pv 3) (pa_cons (pv 5) pa_nil))))))))))), ?_⟩
  refine ⟨_, rfl, h, c, 3, rfl, dr, by decide, by decide, fun r H2 r0 r1 b2 d2 => ⟨rfl, _, rfl, ite2 (fun _ => ?_) (fun _ => ?_)⟩⟩
  · refine ⟨_, rfl, _, rfl, _, rfl, z, 1, rfl, rfl, h, c, ⟨e, _, _, rfl, ez1, kindW, x.but dr b2⟩, d2, fun v1 H3 b3 d3 w1 => ?_⟩
    refine ⟨_, rfl, _, rfl, _, rfl, z, 1, rfl, rfl, h, c, ⟨e, _, rfl, ez1, (x.but dr b2).but d2 b3⟩, d3, fun v2 H4 b4 d4 w2 => ?_⟩
    refine ⟨sml 3, fun t ht => ?_⟩
    have k4 := Keep.same (Same.new (o := .tup [.str "through", v1, v2]) ht)
    exact q _ _ (b2.trans (b3.trans (b4.trans (But.new ht)))) (d4.same (Same.new ht)) (wd2 .through 0 upd_same trivial (w1.keep ((Keep.but b4 d3).trans k4)) (w2.keep k4))
  · obtain ⟨came, pl, kl, ps, ks, xe⟩ := x.but dr b2
    refine ⟨_, rfl, _, rfl, e, .ref kl, rfl, DGet.k (k := Sum.inr "kinds") xe.e, kl, _, rfl, .inl (SqL.of xe.k), ?_⟩
    refine ⟨h, c, _, rfl, d2, (by rw [List.length_map, xe.kn]; have := xe.n1; omega), (by rw [List.length_map, xe.kn]; have := xe.n8; omega), fun r3 H3 r30 r31 b3 d3 => ?_⟩
    rw [List.length_map] at r31
    have xe3 := xe.but d2 b3
    obtain ⟨kd, hkd, ekd⟩ := kind_at xe3.kk r30 r31
    refine ⟨_, rfl, e, .ref kl, rfl, DGet.k (k := Sum.inr "kinds") xe3.e, _, rfl, kl, _, r3, .str kd, rfl, rfl, SqL.of xe3.k, ekd, ?_⟩
    have x3 : preE n h c e H3 := ⟨came, pl, kl, ps, ks, xe3⟩
    have b13 := b2.trans b3
    refine ⟨fun σ' H' => ∃ kd, KindS kd ∧ σ' = [some (.ref h), some (.ref e), some (.int z), some (.int r3), some (.str kd), none] ∧ But h c H3 H' ∧ Dr H' h c, ?_, ?_⟩
    · refine ⟨_, rfl, h, c, 12, rfl, d3, by decide, by decide, fun r4 H4 r40 r41 b4 d4 => ⟨rfl, _, rfl, ite2 (fun _ => ?_) (fun _ => ?_)⟩⟩
      · refine ⟨sml 2, fun l hl => ?_⟩
        have d4' := d4.same (Same.new (o := .lst [.str "number", .str "way"]) hl)
        have nl := Dr.new d4 hl
        refine ⟨_, rfl, h, c, 2, rfl, d4', by decide, by decide, fun r5 H5 r50 r51 b5 d5 => ?_⟩
        obtain ⟨k5, hk5, e5⟩ := two_kinds r5 r50 r51
        exact ⟨l, _, r5, .str k5, rfl, rfl, SqL.of (b5 _ _ nl.1 nl.2 upd_same), e5, k5, hk5, rfl, b4.trans ((But.new hl).trans b5), d5⟩
      · exact ⟨kd, hkd, rfl, b4, d4⟩
    rintro σ5 H5 ⟨k5, hk5, rfl, b5, d5⟩
    have x5 := x3.but d3 b5
    have fin : ∀ v H6, But h c H5 H6 → Dr H6 h c → Wd H6 n (m + 2) v → tTup (tCons (tC (.str "call")) (tCons (tVar 3) (tCons (tVar 5) tNil))) [some (.ref h), some (.ref e), some (.int z), some (.int r3), some (.str k5), some v] H6 Q := fun v H6 b6 d6 w6 => by
      refine ⟨_, rfl, _, rfl, sml 3, fun t ht => ?_⟩
      have k6 := Keep.same (Same.new (o := .tup [.str "call", .int r3, v]) ht)
      refine q _ _ (b13.trans (b5.trans (b6.trans (But.new ht)))) (d6.same (Same.new ht)) (wd1 .call r3 upd_same ⟨r30, by rw [xe.kn] at r31; omega⟩ (w6.keep k6))
    refine ⟨_, rfl, rfl, _, rfl, ite2 (fun _ => ?_) (fun _ => ?_)⟩
    · exact ⟨_, rfl, _, rfl, _, rfl, z, 1, rfl, rfl, h, c, ⟨e, _, rfl, ez1, x5⟩, d5, fun v1 H6 b6 d6 w6 => fin v1 H6 b6 d6 w6⟩
    · exact ⟨_, rfl, _, rfl, _, rfl, z, 1, rfl, rfl, h, c, ⟨e, _, _, rfl, ez1, kindW, x5⟩, d5, fun v1 H6 b6 d6 w6 => fin v1 H6 b6 d6 w6⟩
theorem sc_law_body : FnScope ["_law_h", "_law_e", "_law_kind", "_law_deep", "_law_turn", "_law_test", "_law_other", "_law_word"] ["_law_h", "_law_e", "_law_kind", "_law_deep"] (defScope s_law_body) := ⟨rfl, rfl, rfl, by decide +kernel, rfl, by decide +kernel, by decide +kernel⟩
-- 0 _law_h, 1 _law_e, 2 _law_kind, 3 _law_deep, 4 _law_turn, 5 _law_test, 6 _law_other, 7 _law_word
theorem ok_law_body0 (T : Txt w K mg) {n : Nat} : FnOk P w K mg base CX0 3 (He.ga K "_law_body") (fdOf K d_law_body) ["_law_h", "_law_e", "_law_kind", "_law_deep"] (spWord n (0 + 2) (preBody n 0)) := by
  have G_law_next := ok_law_next (P := P) (base := base) T
  have G_law_leaf := ok_law_leaf (P := P) (base := base) (n := n) T
  refine T.F_law_body.ok sc_law_body (fun vs H Q E h => ?_) (fun cdv A outer s H vs Q E hr h => ?_)
  · obtain ⟨h, c, ⟨e, k, z, rfl, _⟩, _⟩ := h
    rfl
  obtain ⟨h, c, ⟨e, k, z, rfl, ez, hk, x⟩, dr, q⟩ := h
  refine ⟨_, PSs.nox (pss_cons (ps_set (i := 4) sc_law_body.nd rfl (by first | exact Or.inl rfl | exact Or.inr rfl) (pe_call G_law_next (hr.mono (by omega)) (by rfl) T.g_law_next T.kp_law_next T.b_law_next .nil pass0 (pa_cons (pv 0) (pa_cons pe_int pa_nil))))
      (pss_cons (ps_if (PW.pt (pw_or (pt_cmpR op_lt (pv 3) pe_int (nomark _)) (pw_or1 (pt_cmpR op_lt (pv 4) pe_int (nomark _))))) (pss_one (ps_ret (pe_call G_law_leaf (hr.mono (by omega)) (by rfl) T.g_law_leaf T.kp_law_leaf T.b_law_leaf .nil pass0 (pa_cons (pv 0) (pa_cons (pv 1) (pa_cons (pv 2) pa_nil)))))) pss_nil)
      pss_never)), ?_⟩
  refine ⟨_, rfl, h, c, 10, rfl, dr, by decide, by decide, fun r H2 r0 r1 b2 d2 => ?_⟩
  have hz : decide (z < 1) = true := decide_eq_true (by omega)
  refine ⟨_, rfl, z, 1, rfl, rfl, _, rfl, ?_⟩
  rw [hz]
  exact ⟨_, rfl, _, rfl, _, rfl, h, c, ⟨e, k, rfl, hk, x.but dr b2⟩, d2, fun v H3 b3 d3 w3 => q v H3 (b2.trans b3) d3 (w3.mono (by omega))⟩

theorem ok_law_bodyS (T : Txt w K mg) {n m : Nat} (G_law_body : FnOk P w K mg base CX0 (3 * m + 3) (He.ga K "_law_body") (fdOf K d_law_body) ["_law_h", "_law_e", "_law_kind", "_law_deep"] (spWord n (m + 2) (preBody n m))) :
    FnOk P w K mg base CX0 (3 * (m + 1) + 3) (He.ga K "_law_body") (fdOf K d_law_body) ["_law_h", "_law_e", "_law_kind", "_law_deep"] (spWord n ((m + 1) + 2) (preBody n (m + 1))) := by
  have G_law_next := ok_law_next (P := P) (base := base) T
  have G_law_leaf := ok_law_leaf (P := P) (base := base) (n := n) T
  have G_law_call := ok_law_call (P := P) (base := base) T G_law_body
  refine T.F_law_body.ok sc_law_body (fun vs H Q E h => ?_) (fun cdv A outer s H vs Q E hr h => ?_)
  · obtain ⟨h, c, ⟨e, k, z, rfl, _⟩, _⟩ := h
    rfl
  obtain ⟨h, c, ⟨e, k, z, rfl, ez, hk, x⟩, dr, q⟩ := h
  have ez1 : z - 1 = (m : Int) := by omega
  refine ⟨_, PSs.nox (pss_cons (ps_set (i := 4) sc_law_body.nd rfl (by first | exact Or.inl rfl | exact Or.inr rfl) (pe_call G_law_next (hr.mono (by omega)) (by rfl) T.g_law_next T.kp_law_next T.b_law_next .nil pass0 (pa_cons (pv 0) (pa_cons pe_int pa_nil))))
      (pss_cons (ps_if (PW.pt (pw_or (pt_cmpR op_lt (pv 3) pe_int (nomark _)) (pw_or1 (pt_cmpR op_lt (pv 4) pe_int (nomark _))))) (pss_one (ps_ret (pe_call G_law_leaf (hr.mono (by omega)) (by rfl) T.g_law_leaf T.kp_law_leaf T.b_law_leaf .nil pass0 (pa_cons (pv 0) (pa_cons (pv 1) (pa_cons (pv 2) pa_nil)))))) pss_nil)
      (pss_cons (ps_if (pt_cmpR op_lt (pv 4) pe_int (nomark _)) (pss_cons (ps_set (i := 5) sc_law_body.nd rfl (by first | exact Or.inl rfl | exact Or.inr rfl) (pe_call G_law_body (hr.mono (by omega)) (by rfl) T.g_law_body T.kp_law_body T.b_law_body .nil pass0 (pa_cons (pv 0) (pa_cons (pv 1) (pa_cons pe_str (pa_cons (pe_op op_sub (pv 3) pe_int) pa_nil))))))
      (pss_one (ps_ret (pe_tup (pa_cons pe_str (pa_cons (pv 5) (pa_cons (pe_call G_law_body (hr.mono (by omega)) (by rfl) T.g_law_body T.kp_law_body T.b_law_body .nil pass0 (pa_cons (pv 0) (pa_cons (pv 1) (pa_cons (pv 2) (pa_cons (pe_op op_sub (pv 3) pe_int) pa_nil))))) (pa_cons (pe_call G_law_body (hr.mono (by omega)) (by rfl) T.g_law_body T.kp_law_body T.b_law_body .nil pass0 (pa_cons (pv 0) (pa_cons (pv 1) (pa_cons (pv 2) (pa_cons (pe_op op_sub (pv 3) pe_int) pa_nil))))) pa_nil)))))))) pss_nil)
      (pss_cons (ps_if (pt_cmpR op_eq (pv 4) pe_int (nomark _)) (pss_cons (ps_set (i := 6) sc_law_body.nd rfl (by first | exact Or.inl rfl | exact Or.inr rfl) (pe_ix (r := rIxL K) ix_list (pe_lst (pa_cons pe_str (pa_cons pe_str pa_nil))) (pe_call G_law_next (hr.mono (by omega)) (by rfl) T.g_law_next T.kp_law_next T.b_law_next .nil pass0 (pa_cons (pv 0) (pa_cons pe_int pa_nil))) (fun _ _ => rfl)))
      (pss_one (ps_ret (pe_tup (pa_cons pe_str (pa_cons (pe_call G_law_body (hr.mono (by omega)) (by rfl) T.g_law_body T.kp_law_body T.b_law_body .nil pass0 (pa_cons (pv 0) (pa_cons (pv 1) (pa_cons (pv 6) (pa_cons (pe_op op_sub (pv 3) pe_int) pa_nil))))) (pa_cons (pe_call G_law_body (hr.mono (by omega)) (by rfl) T.g_law_body T.kp_law_body T.b_law_body .nil pass0 (pa_cons (pv 0) (pa_cons (pv 1) (pa_cons (pv 2) (pa_cons (pe_op op_sub (pv 3) pe_int) pa_nil))))) pa_nil))))))) pss_nil)
      (pss_cons (ps_if (pt_cmpR op_eq (pv 2) pe_str (nomark _)) (pss_one (ps_ret (pe_call G_law_leaf (hr.mono (by omega)) (by rfl) T.g_law_leaf T.kp_law_leaf T.b_law_leaf .nil pass0 (pa_cons (pv 0) (pa_cons (pv 1) (pa_cons (pv 2) pa_nil)))))) pss_nil)
      (pss_cons (ps_if (pt_cmpR op_lt (pv 4) pe_int (nomark _)) (pss_one (ps_ret (pe_call G_law_call (hr.mono (by omega)) (by rfl) T.g_law_call T.kp_law_call T.b_law_call .nil pass0 (pa_cons (pv 0) (pa_cons (pv 1) (pa_cons (pv 3) pa_nil)))))) pss_nil)
      (pss_cons (ps_if (pt_cmpR op_eq (pv 4) pe_int (nomark _)) (pss_one (ps_ret (pe_tup (pa_cons pe_str (pa_cons (pe_call G_law_body (hr.mono (by omega)) (by rfl) T.g_law_body T.kp_law_body T.b_law_body .nil pass0 (pa_cons (pv 0) (pa_cons (pv 1) (pa_cons pe_str (pa_cons (pe_op op_sub (pv 3) pe_int) pa_nil))))) pa_nil))))) pss_nil)
      (pss_cons (ps_set (i := 7) sc_law_body.nd rfl (by first | exact Or.inl rfl | exact Or.inr rfl) (pe_ix (r := rIxL K) ix_list (pe_lst (pa_cons pe_str (pa_cons pe_str (pa_cons pe_str pa_nil)))) (pe_call G_law_next (hr.mono (by omega)) (by rfl) T.g_law_next T.kp_law_next T.b_law_next .nil pass0 (pa_cons (pv 0) (pa_cons pe_int pa_nil))) (fun _ _ => rfl)))
      (pss_one (ps_ret (pe_tup (pa_cons (pv 7) (pa_cons (pe_call G_law_body (hr.mono (by omega)) (by rfl) T.g_law_body T.kp_law_body T.b_law_body .nil pass0 (pa_cons (pv 0) (pa_cons (pv 1) (pa_cons pe_str (pa_cons (pe_op op_sub (pv 3) pe_int) pa_nil))))) (pa_cons (pe_call G_law_body (hr.mono (by omega)) (by rfl) T.g_law_body T.kp_law_body T.b_law_body .nil pass0 (pa_cons (pv 0) (pa_cons (pv 1) (pa_cons pe_str (pa_cons (pe_op op_sub (pv 3) pe_int) pa_nil))))) pa_nil)))))))))))))), ?_⟩
  refine ⟨_, rfl, h, c, 10, rfl, dr, by decide, by decide, fun r H2 r0 r1 b2 d2 => ?_⟩
  have x2 := x.but dr b2
  have hz : decide (z < 1) = false := decide_eq_false (by omega)
  have leaf : spWord n 1 (preLeaf n) [.ref h, .ref e, .str k] H2 Q E0 := ⟨h, c, ⟨e, k, rfl, hk, x2⟩, d2, fun v H3 b3 d3 w3 => q v H3 (b2.trans b3) d3 (w3.mono (by omega))⟩
  refine ⟨_, rfl, z, 1, rfl, rfl, _, rfl, ?_⟩
  rw [hz]
  refine iteF ?_
  refine ⟨_, rfl, r, 2, rfl, rfl, _, rfl, ite2 (fun _ => ?_) (fun _ => ?_)⟩
  · exact ⟨_, rfl, _, rfl, _, rfl, leaf⟩
  refine ⟨_, rfl, r, 3, rfl, rfl, _, rfl, ite2 (fun _ => ?_) (fun _ => ?_)⟩
  · refine ⟨_, rfl, _, rfl, _, rfl, z, 1, rfl, rfl, h, c, ⟨e, _, _, rfl, ez1, kindN, x2⟩, d2, fun v1 H3 b3 d3 w1 => ?_⟩
    have x3 := x2.but d2 b3
    refine ⟨_, rfl, _, rfl, _, rfl, _, rfl, _, rfl, z, 1, rfl, rfl, h, c, ⟨e, _, _, rfl, ez1, hk, x3⟩, d3, fun v2 H4 b4 d4 w2 => ?_⟩
    have x4 := x3.but d3 b4
    refine ⟨_, rfl, _, rfl, _, rfl, _, rfl, z, 1, rfl, rfl, h, c, ⟨e, _, _, rfl, ez1, hk, x4⟩, d4, fun v3 H5 b5 d5 w3 => ⟨sml 4, fun t ht => ?_⟩⟩
    have k5 := Keep.same (Same.new (o := .tup [.str "if", v1, v2, v3]) ht)
    have k45 := (Keep.but b5 d4).trans k5
    exact q _ _ (b2.trans (b3.trans (b4.trans (b5.trans (But.new ht))))) (d5.same (Same.new ht)) (wd3 .ife 0 upd_same trivial (w1.keep ((Keep.but b4 d3).trans k45)) (w2.keep k45) (w3.keep k5))
  refine ⟨_, rfl, rfl, _, rfl, ite2 (fun _ => ?_) (fun _ => ?_)⟩
  · refine ⟨sml 2, fun l hl => ?_⟩
    have d2' := d2.same (Same.new (o := .lst [.str "number", .str "way"]) hl)
    have nl := Dr.new d2 hl
    refine ⟨_, rfl, h, c, 2, rfl, d2', by decide, by decide, fun r5 H5 r50 r51 b5 d5 => ?_⟩
    obtain ⟨k5, hk5, e5⟩ := two_kinds r5 r50 r51
    have b25 := (But.new (h := h) (c := c) (o := .lst [.str "number", .str "way"]) hl).trans b5
    have x5 := x2.but d2 b25
    refine ⟨l, _, r5, .str k5, rfl, rfl, SqL.of (b5 _ _ nl.1 nl.2 upd_same), e5, ?_⟩
    refine ⟨_, rfl, _, rfl, _, rfl, _, rfl, z, 1, rfl, rfl, h, c, ⟨e, _, _, rfl, ez1, hk5, x5⟩, d5, fun v1 H6 b6 d6 w1 => ?_⟩
    refine ⟨_, rfl, _, rfl, _, rfl, _, rfl, z, 1, rfl, rfl, h, c, ⟨e, _, _, rfl, ez1, hk, x5.but d5 b6⟩, d6, fun v2 H7 b7 d7 w2 => ⟨sml 3, fun t ht => ?_⟩⟩
    have k7 := Keep.same (Same.new (o := .tup [.str "then", v1, v2]) ht)
    exact q _ _ (b2.trans (b25.trans (b6.trans (b7.trans (But.new ht))))) (d7.same (Same.new ht)) (wd2 .thn 0 upd_same trivial (w1.keep ((Keep.but b7 d6).trans k7)) (w2.keep k7))
  refine ⟨_, rfl, rfl, _, rfl, ite2 (fun _ => ?_) (fun _ => ?_)⟩
  · exact ⟨_, rfl, _, rfl, _, rfl, leaf⟩
  refine ⟨_, rfl, r, 8, rfl, rfl, _, rfl, ite2 (fun _ => ?_) (fun _ => ?_)⟩
  · exact ⟨_, rfl, _, rfl, _, rfl, h, c, ⟨e, z, rfl, ez, x2⟩, d2, fun v H3 b3 d3 w3 => q v H3 (b2.trans b3) d3 (w3.mono (by omega))⟩
  refine ⟨_, rfl, rfl, _, rfl, ite2 (fun _ => ?_) (fun _ => ?_)⟩
  · refine ⟨_, rfl, _, rfl, _, rfl, z, 1, rfl, rfl, h, c, ⟨e, _, _, rfl, ez1, kindN, x2⟩, d2, fun v1 H3 b3 d3 w1 => ⟨sml 2, fun t ht => ?_⟩⟩
    have k7 := Keep.same (Same.new (o := .tup [.str "say", v1]) ht)
    exact q _ _ (b2.trans (b3.trans (But.new ht))) (d3.same (Same.new ht)) (wd1 .say 0 upd_same trivial (w1.keep k7))
  · refine ⟨sml 3, fun l hl => ?_⟩
    have d2' := d2.same (Same.new (o := .lst [.str "plus", .str "less", .str "times"]) hl)
    have nl := Dr.new d2 hl
    refine ⟨_, rfl, h, c, 3, rfl, d2', by decide, by decide, fun r5 H5 r50 r51 b5 d5 => ?_⟩
    obtain ⟨o, ho, hg, hf, e5⟩ := three_words r5 r50 r51
    have b25 := (But.new (h := h) (c := c) (o := .lst [.str "plus", .str "less", .str "times"]) hl).trans b5
    have x5 := x2.but d2 b25
    refine ⟨l, _, r5, .str o.name, rfl, rfl, SqL.of (b5 _ _ nl.1 nl.2 upd_same), e5, ?_⟩
    refine ⟨_, rfl, _, rfl, _, rfl, _, rfl, z, 1, rfl, rfl, h, c, ⟨e, _, _, rfl, ez1, kindN, x5⟩, d5, fun v1 H6 b6 d6 w1 => ?_⟩
    refine ⟨_, rfl, _, rfl, _, rfl, z, 1, rfl, rfl, h, c, ⟨e, _, _, rfl, ez1, kindN, x5.but d5 b6⟩, d6, fun v2 H7 b7 d7 w2 => ⟨sml 3, fun t ht => ?_⟩⟩
    have k7 := Keep.same (Same.new (o := .tup [.str o.name, v1, v2]) ht)
    refine q _ _ (b2.trans (b25.trans (b6.trans (b7.trans (But.new ht))))) (d7.same (Same.new ht)) (wd2 o 0 ?_ (hf _ _) (w1.keep ((Keep.but b7 d6).trans k7)) (w2.keep k7) ho)
    rw [upd_same]
    unfold Op.pre
    rw [hg]
    rfl
theorem ok_law_body (T : Txt w K mg) {n : Nat} : ∀ m : Nat, FnOk P w K mg base CX0 (3 * m + 3) (He.ga K "_law_body") (fdOf K d_law_body) ["_law_h", "_law_e", "_law_kind", "_law_deep"] (spWord n (m + 2) (preBody n m))
  | 0 => ok_law_body0 T
  | m + 1 => ok_law_bodyS T (ok_law_body T m)
end
end K19

namespace K19
open PySem PySem.Spec PyProof.Rows L2 Ov
section
variable {P : Program} {w : World} {K : PySem.W.Frag} {mg : Str → Option Value} {base : Heap}
theorem sc_law_words : FnScope ["_law_body_here", "_law_arm"] ["_law_body_here"] (defScope s_law_words) := ⟨rfl, rfl, rfl, by decide +kernel, rfl, by decide +kernel, by decide +kernel⟩
-- 0 _law_body_here, 1 _law_arm
theorem ok_law_wordsS (T : Txt w K mg) {d : Nat} (G_law_words : FnOk P w K mg base CX0 d (He.ga K "_law_words") (fdOf K d_law_words) ["_law_body_here"] (spWords d)) :
    FnOk P w K mg base CX0 (d + 1) (He.ga K "_law_words") (fdOf K d_law_words) ["_law_body_here"] (spWords (d + 1)) := by
  refine T.F_law_words.ok sc_law_words (fun vs H Q E h => ?_) (fun cdv A outer s H vs Q E hr h => ?_)
  · obtain ⟨v, n, u, rfl, _⟩ := h
    rfl
  obtain ⟨v, n, u, rfl, hv, ok, q⟩ := h
  cases hv with
  | @mk a o g vs as ha hs =>
  cases ok with
  | mk h1 h2 h3 =>
  refine ⟨_, PSs.nox (pss_one (ps_ret (pe_op op_add pe_int (pe_callB (r := rSum K) (cr_sum rfl) (by rfl) T.z_sum (by decide +kernel) (pa_cons (pe_lc (own := [("_law_arm", 1)]) rfl sc_law_words.nd (Ov.pi_tupK (K := K) rfl (pv 0)) (blkOk_by (own := [("_law_arm", 1)]) (N := ["_law_body_here", "_law_arm"]) (sc := defScope s_law_words) (by decide +kernel)) (fun _ _ _ _ _ => (pg_name (i := 1) sc_law_words.nd rfl (by first | exact Or.inl rfl | exact Or.inr rfl))) (fun _ _ _ _ _ => pts_one (pt_val (pe_callB (r := rIsi K) call_isi (by rfl) T.z_isinstance (by decide +kernel) (pa_cons (pv 1) (pa_cons (pe_bltn (v := .ty "tuple") (by rfl) T.z_tuple (by decide +kernel) rfl) pa_nil))))) (fun _ _ _ _ _ => (pe_call G_law_words (hr.mono (by omega)) (by rfl) T.g_law_words T.kp_law_words T.b_law_words .nil pass0 (pa_cons (pv 1) pa_nil)))) pa_nil))))), ?_⟩
  have hlen := hs.length
  have hl40 : as.length ≤ 3 := by rw [h1]; cases o <;> decide
  have hpre : (o.pre g).length ≤ 1 := by
    unfold Op.pre
    split
    · exact Nat.le_refl 1
    · exact Nat.zero_le 1
  have lt {x : V} {i : Nat} (hi : (.str o.name :: (o.pre g ++ vs) : List V)[i]? = some x) : i < 1 + (o.pre g).length → (∃ y, x = .str y) ∨ ∃ y, x = .int y := fun le => by
    cases i with
    | zero => exact .inl ⟨_, (Option.some.inj hi).symm⟩
    | succ j =>
      have hj : (o.pre g ++ vs)[j]? = some x := hi
      rw [List.getElem?_append_left (by omega)] at hj
      unfold Op.pre at hj
      split at hj
      · exact .inr ⟨g, by
          have := List.mem_of_getElem? hj
          simpa using this⟩
      · simp at hj
  have ge {x : V} {i : Nat} (hi : (.str o.name :: (o.pre g ++ vs) : List V)[i]? = some x) : ¬ i < 1 + (o.pre g).length → vs[i - (1 + (o.pre g).length)]? = some x := fun le => by
    obtain ⟨j, rfl⟩ : ∃ j, i = j + 1 := ⟨i - 1, by omega⟩
    have hj : (o.pre g ++ vs)[j]? = some x := hi
    rw [List.getElem?_append_right (by omega)] at hj
    rw [show j + 1 - (1 + (o.pre g).length) = j - (o.pre g).length by omega]
    exact hj
  refine ⟨_, rfl, a, rfl, ⟨_, SqT.of ha⟩, fun D hD => ?_⟩
  refine lc_tup (K := K) (a := a) (xs := .str o.name :: (o.pre g ++ vs)) (fun i H' => Same H H' ∧ H' D = some (.lst (((as.take (i - (1 + (o.pre g).length))).map fun z => (z.size : Int)).map V.int))) ⟨Same.new hD, by rw [upd_same, show 0 - (1 + (o.pre g).length) = 0 by omega]; rfl⟩ (fun i H' _ p => SqT.of (p.1 _ _ ha)) ?_ ?_
  · rintro i x H2 hi ⟨s2, e2⟩
    refine ⟨rfl, ?_⟩
    by_cases hi0 : i < 1 + (o.pre g).length
    · -- the word's name, what is given
      have e1 : i + 1 - (1 + (o.pre g).length) = i - (1 + (o.pre g).length) := by omega
      rcases lt hi hi0 with ⟨y, rfl⟩ | ⟨y, rfl⟩
      · refine ⟨_, rfl, _, .ty "tuple", .type "str", .type "tuple", false, rfl, .ty _, .base (.str y), k_str_tuple, false, rfl, iteF ⟨s2, ?_⟩⟩
        rw [e1]
        exact e2
      · refine ⟨_, rfl, _, .ty "tuple", .type "int", .type "tuple", false, rfl, .ty _, .base (.int y), k_int_tuple, false, rfl, iteF ⟨s2, ?_⟩⟩
        rw [e1]
        exact e2
    · have hx := ge hi hi0
      obtain ⟨u, hu, hxu⟩ := WsAt.get hs hx
      have hk := h3 u (List.mem_of_getElem? hu)
      have hxu2 := hxu.keep (Keep.same s2)
      obtain ⟨b, xs, rfl, hb⟩ := hxu2.ref
      refine ⟨_, rfl, _, .ty "tuple", .type "tuple", .type "tuple", true, rfl, .ty _, .base (.tup hb), k_tuple_tuple, true, rfl, ?_⟩
      refine ⟨_, rfl, _, n, u, rfl, hxu2, hk, fun H3 s3 => ⟨_, s3 _ _ e2, sm _ (by simp only [List.length_map, List.length_take]; omega), Ov.Same.updn (s2.trans s3) hD, ?_⟩⟩
      rw [upd_same, show i + 1 - (1 + (o.pre g).length) = i - (1 + (o.pre g).length) + 1 by omega, List.take_add_one, hu, List.map_append, List.map_append]
      rfl
  · rintro H2 ⟨s2, e2⟩
    have el : (.str o.name :: (o.pre g ++ vs) : List V).length - (1 + (o.pre g).length) = as.length := by
      rw [List.length_cons, List.length_append, hlen]
      omega
    rw [el, List.take_length] at e2
    refine ⟨D, _, rfl, SqL.of e2, 1, _, rfl, rfl, ?_⟩
    have z : (1 : Int) + ((as.map fun z => (z.size : Int))).sum = ((W.mk o g as).size : Int) := by
      have e := W.sizes_sum as
      rw [W.size_mk]
      omega
    show Q (.int (1 + ((as.map fun z => (z.size : Int))).sum)) H2
    rw [z]
    exact q H2 s2
theorem ok_law_words (T : Txt w K mg) : ∀ d : Nat, FnOk P w K mg base CX0 d (He.ga K "_law_words") (fdOf K d_law_words) ["_law_body_here"] (spWords d)
  | 0 => fn0 fun vs H Q E ⟨_, _, _, _, _, h, _⟩ => nomatch h
  | d + 1 => ok_law_wordsS T (ok_law_words T d)
end
end K19

namespace K19
open PySem PySem.Spec PyProof.Rows L2 Ov
section
variable {P : Program} {w : World} {K : PySem.W.Frag} {mg : Str → Option Value} {base : Heap}
theorem sc_law_program : FnScope ["_law_h", "_law_most", "_law_kinds", "_law_plain", "_law_found", "_law_came", "_law_e", "_law_body_here", "_law_k"] ["_law_h", "_law_most"] (defScope s_law_program) := ⟨rfl, rfl, rfl, by decide +kernel, rfl, by decide +kernel, by decide +kernel⟩
-- 0 _law_h, 1 _law_most, 2 _law_kinds, 3 _law_plain, 4 _law_found, 5 _law_came, 6 _law_e, 7 _law_body_here, 8 _law_k
theorem ok_law_program (T : Txt w K mg) : FnOk P w K mg base CX0 16 (He.ga K "_law_program") (fdOf K d_law_program) ["_law_h", "_law_most"] spProgram := by
  have G_law_next := ok_law_next (P := P) (base := base) T
  have G_law_leaf : FnOk P w K mg base CX0 2 (He.ga K "_law_leaf") (fdOf K d_law_leaf) ["_law_h", "_law_e", "_law_kind"] spLeaves := fn_ex (k := fun _ => 2) (fun n => ok_law_leaf T) fun _ => Nat.le_refl _
  have G_law_body : FnOk P w K mg base CX0 15 (He.ga K "_law_body") (fdOf K d_law_body) ["_law_h", "_law_e", "_law_kind", "_law_deep"] spBodies := fn_ex (k := fun i : Nat × _root_.Fin 5 => 3 * i.2.val + 3) (fun i => ok_law_body T i.2.val) fun i => by have := i.2.isLt; omega
  have G_law_words := ok_law_words (P := P) (base := base) T 7
  refine T.F_law_program.ok sc_law_program (fun vs H Q E h => ?_) (fun cdv A outer s H vs Q E hr h => ?_)
  · obtain ⟨h, c, m, rfl, _⟩ := h
    rfl
  obtain ⟨h, c, m, rfl, dr, m1, m8, q⟩ := h
  refine ⟨_, PSs.nox (Evl.pss_cut (ps_set (i := 2) sc_law_program.nd rfl (by first | exact Or.inl rfl | exact Or.inr rfl) (pe_op op_cat (pe_lst (pa_cons pe_str pa_nil)) (pe_lc (own := [("_law_k", 8)]) rfl sc_law_program.nd (pi_range1 (by rfl) T.z_range (pa_cons (pe_call G_law_next (hr.mono (by omega)) (by rfl) T.g_law_next T.kp_law_next T.b_law_next .nil pass0 (pa_cons (pv 0) (pa_cons (pv 1) pa_nil))) pa_nil)) (blkOk_by (own := [("_law_k", 8)]) (N := ["_law_h", "_law_most", "_law_kinds", "_law_plain", "_law_found", "_law_came", "_law_e", "_law_body_here", "_law_k"]) (sc := defScope s_law_program) (by decide +kernel)) (fun _ _ _ _ _ => (pg_name (i := 8) sc_law_program.nd rfl (by first | exact Or.inl rfl | exact Or.inr rfl))) (fun _ _ _ _ _ => pts_nil) (fun _ _ _ _ _ => (pe_ix (r := rIxL K) ix_list (pe_lst (pa_cons pe_str (pa_cons pe_str (pa_cons pe_str pa_nil)))) (pe_call G_law_next (hr.mono (by omega)) (by rfl) T.g_law_next T.kp_law_next T.b_law_next .nil pass0 (pa_cons (pv 0) (pa_cons pe_int pa_nil))) (fun _ _ => rfl))))))
      (Evl.pss_cut (ps_setLc (i := 3) (own := [("_law_k", 8)]) rfl sc_law_program.nd rfl rfl (sw_true rfl rfl rfl (by decide +kernel)) (pi_range1 (by rfl) T.z_range (pa_cons (pe_callB (r := Evl.rLenS K) call_len_seq (by rfl) T.z_len PySem.boot_len (pa_cons (pv 2) pa_nil)) pa_nil)) (blkOk_by (own := [("_law_k", 8)]) (N := ["_law_h", "_law_most", "_law_kinds", "_law_plain", "_law_found", "_law_came", "_law_e", "_law_body_here", "_law_k"]) (sc := defScope s_law_program) (by decide +kernel)) (fun _ _ _ _ _ => (pg_name (i := 8) sc_law_program.nd rfl (by first | exact Or.inl rfl | exact Or.inr rfl))) (fun _ _ _ _ _ => (pts_one (pt_cmpR op_eq (pe_ix (r := rIxL K) ix_list (pv 2) (pv 8) (fun _ _ => rfl)) pe_str (nomark _)))) (fun _ _ _ _ _ => (pv 8)))
      (pss_cons (ps_set (i := 4) sc_law_program.nd rfl (by first | exact Or.inl rfl | exact Or.inr rfl) (pe_lst pa_nil))
      (pss_cons (ps_for PassesOwn.never rfl (Ov.pi_listK (K := K) rfl (pv 2)) (pg_name (i := 5) sc_law_program.nd rfl (by first | exact Or.inl rfl | exact Or.inr rfl)) (pss_cons (ps_set (i := 6) sc_law_program.nd rfl (by first | exact Or.inl rfl | exact Or.inr rfl) (pe_disp (pps_cons pe_str (pv 5) (pps_cons pe_str (pv 3) (pps_cons pe_str (pv 2) pps_nil))) (by rfl) (by rfl) (fun z => by cases z) (by decide)))
      (pss_cons (ps_set (i := 7) sc_law_program.nd rfl (by first | exact Or.inl rfl | exact Or.inr rfl) (pe_call G_law_body (hr.mono (by omega)) (by rfl) T.g_law_body T.kp_law_body T.b_law_body .nil pass0 (pa_cons (pv 0) (pa_cons (pv 6) (pa_cons (pe_ix (r := rIxL K) ix_list (pe_lst (pa_cons pe_str (pa_cons pe_str (pa_cons pe_str (pa_cons pe_str pa_nil))))) (pe_call G_law_next (hr.mono (by omega)) (by rfl) T.g_law_next T.kp_law_next T.b_law_next .nil pass0 (pa_cons (pv 0) (pa_cons pe_int pa_nil))) (fun _ _ => rfl)) (pa_cons (pe_op op_add pe_int (pe_call G_law_next (hr.mono (by omega)) (by rfl) T.g_law_next T.kp_law_next T.b_law_next .nil pass0 (pa_cons (pv 0) (pa_cons pe_int pa_nil)))) pa_nil))))))
      (Evl.pss_cut (ps_if (PW.pt (pw_and (pt_cmpR op_eq (pv 5) pe_str (nomark _)) (pw_and1 (pt_cmpR op_gt (pe_call G_law_next (hr.mono (by omega)) (by rfl) T.g_law_next T.kp_law_next T.b_law_next .nil pass0 (pa_cons (pv 0) (pa_cons pe_int pa_nil))) pe_int (nomark _))))) (pss_one (ps_set (i := 7) sc_law_program.nd rfl (by first | exact Or.inl rfl | exact Or.inr rfl) (pe_tup (pa_cons pe_str (pa_cons (pe_tup (pa_cons pe_str pa_nil)) (pa_cons (pv 7) (pa_cons (pe_call G_law_leaf (hr.mono (by omega)) (by rfl) T.g_law_leaf T.kp_law_leaf T.b_law_leaf .nil pass0 (pa_cons (pv 0) (pa_cons (pv 6) (pa_cons pe_str pa_nil)))) pa_nil))))))) pss_nil)
      (Evl.pss_cut (ps_if (pt_cmpR op_gt (pe_call G_law_words (hr.mono (by omega)) (by rfl) T.g_law_words T.kp_law_words T.b_law_words .nil pass0 (pa_cons (pv 7) pa_nil)) pe_int (nomark _)) (pss_one (ps_set (i := 7) sc_law_program.nd rfl (by first | exact Or.inl rfl | exact Or.inr rfl) (pe_call G_law_leaf (hr.mono (by omega)) (by rfl) T.g_law_leaf T.kp_law_leaf T.b_law_leaf .nil pass0 (pa_cons (pv 0) (pa_cons (pv 6) (pa_cons pe_str pa_nil)))))) pss_nil)
      (pss_one (ps_expr (Ov.pe_bmK (K := K) rfl PySem.F.plainAttrs_list PySem.F.slot_list_append PySem.F.type_list_append mt_append (pv 4) (pa_cons (pe_tup (pa_cons (pe_op op_add pe_int (pe_call G_law_next (hr.mono (by omega)) (by rfl) T.g_law_next T.kp_law_next T.b_law_next .nil pass0 (pa_cons (pv 0) (pa_cons (pe_ix (r := rIxL K) ix_list (pe_lst (pa_cons pe_int (pa_cons pe_int pa_nil))) (pe_call G_law_next (hr.mono (by omega)) (by rfl) T.g_law_next T.kp_law_next T.b_law_next .nil pass0 (pa_cons (pv 0) (pa_cons pe_int pa_nil))) (fun _ _ => rfl)) pa_nil)))) (pa_cons (pv 7) pa_nil))) pa_nil)))))))))
      (pss_one (ps_ret (pe_callTy (r := Ov.rTupS K) call_tuple_of (by rfl) T.z_tuple (by decide +kernel) (pa_cons (pv 4) pa_nil)))))))), ?_⟩
  -- the kinds
  refine ⟨fun σ' H' => ∃ (kl : Addr) (ks : List Str), σ' = [some (.ref h), some (.int m), some (.ref kl), none, none, none, none, none, none] ∧ But h c H H' ∧ Dr H' h c ∧ H' kl = some (.lst ((("number" :: ks : List Str)).map V.str)) ∧ ks.length ≤ 7 ∧ (∀ k ∈ ks, KindS k) ∧ kl ≠ h ∧ kl ≠ c, ?_, ?_⟩
  · refine ⟨sml 1, fun l0 hl0 => ?_⟩
    have n0 := Dr.new dr hl0
    refine ⟨_, rfl, _, rfl, h, c, m, rfl, dr.same (Same.new hl0), by omega, by omega, fun r H1 r0 r1 b1 d1 => ⟨r, rfl, by omega, by omega, fun D hD => ?_⟩⟩
    have nD := Dr.new d1 hD
    have h1 := b1 _ _ n0.1 n0.2 upd_same
    refine lc_rangeY (lo := 0) (n := r.toNat) (fun i H' => ∃ ks : List Str, But h c H1 H' ∧ Dr H' h c ∧ H' D = some (.lst (ks.map V.str)) ∧ ks.length = i ∧ ∀ k ∈ ks, KindS k) ⟨[], But.new hD, d1.same (Same.new hD), upd_same, rfl, (fun _ h => nomatch h)⟩ ?_ ?_
    · rintro i H2 hi ⟨ks, b2, d2, e2, hl, hk⟩
      refine ⟨rfl, sml 3, fun l hl3 => ?_⟩
      have nl := Dr.new d2 hl3
      refine ⟨_, rfl, h, c, 3, rfl, d2.same (Same.new hl3), by decide, by decide, fun r3 H3 r30 r31 b3 d3 => ?_⟩
      obtain ⟨k3, hk3, e3⟩ := three_kinds r3 r30 r31
      have b23 := (But.new (h := h) (c := c) (o := .lst [.str "number", .str "number", .str "way"]) hl3).trans b3
      have eD := b23 _ _ nD.1 nD.2 e2
      refine ⟨l, _, r3, .str k3, rfl, rfl, SqL.of (b3 _ _ nl.1 nl.2 upd_same), e3, _, eD, sm _ (by rw [List.length_map]; omega), ks ++ [k3], (b2.trans b23).updn hD, d3.upd nD.1 nD.2, ?_, by rw [List.length_append, hl]; rfl, fun k hk4 => ?_⟩
      · rw [upd_same, List.map_append]; rfl
      · rcases List.mem_append.mp hk4 with z | z
        · exact hk k z
        · rw [List.mem_singleton.mp z]; exact hk3
    · rintro H2 ⟨ks, b2, d2, e2, hl, hk⟩
      have h2 := b2 _ _ n0.1 n0.2 h1
      refine ⟨l0, D, _, _, rfl, rfl, h2, e2, sml _ (by rw [List.length_map, List.length_singleton]; omega), fun p hp => ?_⟩
      have np := Dr.new d2 hp
      exact ⟨p, ks, rfl, (But.new hl0).trans (b1.trans (b2.trans (But.new hp))), d2.same (Same.new hp), upd_same, by omega, hk, np.1, np.2⟩
  rintro σ1 H1 ⟨kl, ks, rfl, b1, d1, hkl, hk7, hks, nkh, nkc⟩
  -- the plain ones
  refine ⟨fun σ' H' => ∃ (pl : Addr) (ps : List Int), σ' = [some (.ref h), some (.int m), some (.ref kl), some (.ref pl), none, none, none, none, none] ∧ Same H1 H' ∧ H' pl = some (.lst (ps.map V.int)) ∧ ps ≠ [] ∧ ps.length ≤ 8 ∧ (∀ z ∈ ps, 0 ≤ z ∧ z < ((ks.length + 1 : Nat) : Int)) ∧ pl ≠ h ∧ pl ≠ c, ?_, ?_⟩
  · refine ⟨_, rfl, kl, _, rfl, .inl (SqL.of hkl), _, rfl, by omega, by rw [List.length_map, List.length_cons]; omega, fun D hD => ?_⟩
    have nD := Dr.new d1 hD
    refine lc_range (lo := 0) (fun i H' => ∃ ps : List Int, Same H1 H' ∧ H' D = some (.lst (ps.map V.int)) ∧ ps.length ≤ i ∧ (∀ z ∈ ps, 0 ≤ z ∧ z < ((ks.length + 1 : Nat) : Int)) ∧ (0 < i → ps ≠ [])) ⟨[], Same.new hD, upd_same, Nat.le_refl _, (fun _ h => nomatch h), fun h => absurd h (Nat.lt_irrefl _)⟩ ?_ ?_
    · rintro i H2 hi ⟨ps, s2, e2, hl, hp, hne⟩
      have hi2 : i < ks.length + 1 := by simp only [List.length_map, List.length_cons] at hi; omega
      refine ⟨rfl, _, rfl, _, rfl, kl, _, _, .str ((("number" :: ks : List Str))[i]'(by rw [List.length_cons]; exact hi2)), rfl, rfl, SqL.of (s2 _ _ hkl), ?_, rfl, _, rfl, ite2 (fun a => ?_) (fun a => ?_)⟩
      · rw [Int.zero_add]
        exact atI_nat (by rw [List.getElem?_map, List.getElem?_eq_getElem (by rw [List.length_cons]; exact hi2)]; rfl)
      · refine ⟨_, rfl, _, e2, sm _ (by rw [List.length_map]; omega), ps ++ [(0 + (i : Int))], Ov.Same.updn s2 hD, ?_, by rw [List.length_append]; exact Nat.succ_le_succ hl, fun z hz => ?_, fun _ z => by simp at z⟩
        · rw [upd_same, List.map_append]; rfl
        · rcases List.mem_append.mp hz with y | y
          · exact hp z y
          · rw [List.mem_singleton.mp y]; omega
      · refine ⟨ps, s2, e2, by omega, hp, fun _ => ?_⟩
        cases i with
        | zero => exact absurd (decide_eq_true rfl) a
        | succ j => exact hne (Nat.succ_pos j)
    · rintro H2 ⟨ps, s2, e2, hl, hp, hne⟩
      exact ⟨D, ps, rfl, s2, e2, hne (by simp only [List.length_map, List.length_cons]; omega), by simp only [List.length_map, List.length_cons] at hl; omega, hp, nD.1, nD.2⟩
  rintro σ2 H2 ⟨pl, ps, rfl, s2, hpl, hp0, hp8, hps, nph, npc⟩
  have d2 := d1.same s2
  have hkl2 := s2 _ _ hkl
  have b2 := b1.trans (But.same s2)
  refine ⟨sml 0, fun fl hfl => ?_⟩
  have nf := Dr.new d2 hfl
  have s3 := Same.new (o := .lst []) hfl
  refine ⟨_, rfl, kl, rfl, ⟨_, SqL.of (s3 _ _ hkl2)⟩, for_list (K := K) (a := kl) (xs := (("number" :: ks : List Str)).map V.str) (fun i σ H' => ∃ (y5 y6 y7 : Option V) (vs : List V) (p : List (Int × W)), σ = [some (.ref h), some (.int m), some (.ref kl), some (.ref pl), some (.ref fl), y5, y6, y7, none] ∧ But h c H2 H' ∧ Dr H' h c ∧ H' fl = some (.lst vs) ∧ Paired (FAt H') vs p ∧ p.length = i ∧ ∀ f ∈ p, FOk (ks.length + 1) f)
    ⟨none, none, none, [], [], rfl, But.same s3, d2.same s3, upd_same, .nil, rfl, (fun _ h => nomatch h)⟩ (fun i σ H' _ ⟨_, _, _, _, _, _, b, _⟩ => SqL.of (b _ _ nkh nkc hkl2)) ?_ ?_⟩
  · rintro i x σ H3 hi ⟨y5, y6, y7, vs, p, rfl, b3, d3, hf, hvs, hlen, hok⟩
    obtain ⟨came, hcm, rfl⟩ : ∃ came, KindS came ∧ x = V.str came := by
      rw [List.getElem?_map] at hi
      cases e : (("number" :: ks : List Str))[i]? with
      | none => rw [e] at hi; cases hi
      | some u =>
        rw [e] at hi
        refine ⟨u, ?_, (Option.some.inj hi).symm⟩
        rcases List.mem_cons.mp (List.mem_of_getElem? e) with z | z
        · rw [z]; exact kindN
        · exact hks u z
    have hi8 : i < ks.length + 1 := by
      have z := (List.getElem?_eq_some_iff.mp hi).1
      rw [List.length_map, List.length_cons] at z
      exact z
    -- what the body is drawn by
    refine fun e he => ⟨_, rfl, _, rfl, _, rfl, upd_same, [(.inr "came", .str came), (.inr "plain", .ref pl), (.inr "kinds", .ref kl)], rfl, (by show 3 ≤ 15; decide), ?_⟩
    have s4 : Same H3 (upd (upd H3 e (.dK [])) e (.dK (mergeK [] [(.inr "came", .str came), (.inr "plain", .ref pl), (.inr "kinds", .ref kl)]))) := by
      rw [upd_upd]
      exact Same.new he
    generalize hH4 : upd (upd H3 e (.dK [])) e (.dK (mergeK [] [(.inr "came", .str came), (.inr "plain", .ref pl), (.inr "kinds", .ref kl)])) = H4 at s4
    have d4 := d3.same s4
    have x4 : preE (ks.length + 1) h c e H4 := ⟨came, pl, kl, ps, "number" :: ks, {
      e := by rw [← hH4]; exact upd_same
      ck := hcm
      p := s4 _ _ (b3 _ _ nph npc hpl)
      p0 := hp0
      p8 := hp8
      pn := hps
      k := s4 _ _ (b3 _ _ nkh nkc hkl2)
      kn := rfl
      n1 := by omega
      n8 := by omega
      kk := fun y hy => by
        rcases List.mem_cons.mp hy with z | z
        · rw [z]; exact kindN
        · exact hks y z
      ph := nph
      pc := npc
      kh := nkh
      kc := nkc }⟩
    have hf4 := s4 _ _ hf
    -- the body
    refine ⟨_, rfl, _, rfl, sml 4, fun l hl => ⟨_, rfl, h, c, 4, rfl, d4.same (Same.new hl), by decide, by decide, fun r5 H5 r50 r51 b5 d5 => ?_⟩⟩
    have nl := Dr.new d4 hl
    obtain ⟨k5, hk5, e5⟩ := four_kinds r5 r50 r51
    have b45 := (But.new (h := h) (c := c) (o := .lst [.str "number", .str "number", .str "number", .str "way"]) hl).trans b5
    refine ⟨l, _, r5, .str k5, rfl, rfl, SqL.of (b5 _ _ nl.1 nl.2 upd_same), e5, ?_⟩
    refine ⟨_, rfl, h, c, 3, rfl, d5, by decide, by decide, fun r6 H6 r60 r61 b6 d6 => ⟨2, r6, rfl, rfl, ?_⟩⟩
    have b46 := b45.trans b6
    refine ⟨(ks.length + 1, ⟨(2 + r6).toNat, by omega⟩), h, c, ⟨e, k5, 2 + r6, rfl, by show 2 + r6 = (((2 + r6).toNat : Nat) : Int); omega, hk5, x4.but d4 b46⟩, d6, fun v7 H7 b7 d7 w7 => ?_⟩
    have b47 := b46.trans b7
    have x7 := x4.but d4 b47
    have w7' : Wd H7 (ks.length + 1) 6 v7 := w7.mono (by show (2 + r6).toNat + 2 ≤ 6; omega)
    have hf7 : H7 fl = some (.lst vs) := b47 _ _ nf.1 nf.2 hf4
    -- if came is a number: an if around it
    refine ⟨fun σ' H' => ∃ v, σ' = [some (.ref h), some (.int m), some (.ref kl), some (.ref pl), some (.ref fl), some (.str came), some (.ref e), some v, none] ∧ But h c H7 H' ∧ Dr H' h c ∧ Wd H' (ks.length + 1) 7 v, ?_, ?_⟩
    · refine ⟨_, rfl, rfl, _, rfl, ite2 (fun _ => ?_) (fun _ => ?_)⟩
      · refine ⟨_, rfl, h, c, 4, rfl, d7, by decide, by decide, fun r8 H8 r80 r81 b8 d8 => ⟨r8, 0, rfl, rfl, _, rfl, ite2 (fun _ => ?_) (fun _ => ?_)⟩⟩
        · refine ⟨sml 1, fun t1 h1 => ⟨_, rfl, _, rfl, _, rfl, ks.length + 1, h, c, ⟨e, _, rfl, kindN, (x7.but d7 b8).but d8 (But.new h1)⟩, d8.same (Same.new h1), fun v9 H9 b9 d9 w9 => ⟨sml 4, fun t ht => ?_⟩⟩⟩
          have n1 := Dr.new d8 h1
          have b89 := (But.new (h := h) (c := c) (o := .tup [.str "argument"]) h1).trans b9
          have k9 := Keep.same (Same.new (o := .tup [.str "if", .ref t1, v7, v9]) ht)
          refine ⟨_, rfl, b8.trans (b89.trans (But.new ht)), d9.same (Same.new ht), wd3 .ife 0 upd_same trivial (Wd.mono (wd0 (d := 0) .arg 0 (k9 _ _ (b9 _ _ n1.1 n1.2 upd_same)) trivial) (by omega)) (w7'.keep ((Keep.but b8 d7).trans ((Keep.but b89 d8).trans k9))) ((w9.mono (by omega)).keep k9)⟩
        · exact ⟨v7, rfl, b8, d8, (w7'.keep (Keep.but b8 d7)).mono (by omega)⟩
      · exact ⟨v7, rfl, But.refl _, d7, w7'.mono (by omega)⟩
    rintro σ8 H8 ⟨v8, rfl, b8, d8, w8⟩
    have b48 := b47.trans b8
    have x8 := x4.but d4 b48
    -- if it is too long: a leaf
    refine ⟨fun σ' H' => ∃ v u, σ' = [some (.ref h), some (.int m), some (.ref kl), some (.ref pl), some (.ref fl), some (.str came), some (.ref e), some v, none] ∧ But h c H8 H' ∧ Dr H' h c ∧ WAt H' v u ∧ WOk (ks.length + 1) 7 u ∧ u.size ≤ 40, ?_, ?_⟩
    · obtain ⟨u8, hu8, ok8⟩ := w8
      refine ⟨_, rfl, v8, _, u8, rfl, hu8, ok8, fun H9 s9 => ⟨_, 40, rfl, rfl, _, rfl, ite2 (fun _ => ?_) (fun a => ?_)⟩⟩
      · refine ⟨_, rfl, _, rfl, ks.length + 1, h, c, ⟨e, _, rfl, kindN, x8.but d8 (But.same s9)⟩, d8.same s9, fun v9 H10 b10 d10 ⟨u9, w9, ok9⟩ => ?_⟩
        exact ⟨v9, u9, rfl, (But.same s9).trans b10, d10, w9, ok9.mono (by omega), by rw [wok1_size ok9]; omega⟩
      · have a2 : ¬ (40 : Int) < (u8.size : Int) := of_decide_eq_false (Bool.eq_false_iff.mpr a)
        exact ⟨v8, u8, rfl, But.same s9, d8.same s9, hu8.keep (Keep.same s9), ok8, by omega⟩
    rintro σ9 H9 ⟨v9, u9, rfl, b9, d9, w9, ok9, z9⟩
    have hf9 : H9 fl = some (.lst vs) := (b8.trans b9) _ _ nf.1 nf.2 hf7
    have b49 := b48.trans b9
    have k39 : Keep H3 H9 := (Keep.same s4).trans (Keep.but b49 d4)
    -- found.append
    refine ⟨_, rfl, .inl ⟨rfl, _, SqL.of hf9⟩, _, rfl, sml 2, fun l2 hl2 => ?_⟩
    have n2 := Dr.new d9 hl2
    refine ⟨_, rfl, h, c, 2, rfl, d9.same (Same.new hl2), by decide, by decide, fun r10 H10 r100 r101 b10 d10 => ?_⟩
    obtain ⟨z10, z1, z8, e10⟩ := two_sizes r10 r100 r101
    refine ⟨l2, _, r10, .int z10, rfl, rfl, SqL.of (b10 _ _ n2.1 n2.2 upd_same), e10, ?_⟩
    refine ⟨h, c, z10, rfl, d10, by omega, by omega, fun r11 H11 r110 r111 b11 d11 => ⟨1, r11, rfl, rfl, _, rfl, sml 2, fun t ht => ?_⟩⟩
    have b9b := (But.new (h := h) (c := c) (o := .lst [.int 2, .int 8]) hl2).trans (b10.trans b11)
    have ntf : fl ≠ t := ne_of_none (b9b _ _ nf.1 nf.2 hf9) ht
    have hf12 : upd H11 t (.tup [.int (1 + r11), v9]) fl = some (.lst vs) := by rw [upd_ne ntf]; exact b9b _ _ nf.1 nf.2 hf9
    have k12 : Keep H9 (upd H11 t (.tup [.int (1 + r11), v9])) := (Keep.but b9b d9).trans (Keep.same (Same.new ht))
    have kL := Keep.updL (ys := vs ++ [V.ref t]) hf12
    have hvlen := hvs.length
    refine ⟨fl, vs, _, rfl, rfl, hf12, sm _ (by omega), _, _, _, vs ++ [V.ref t], p ++ [(1 + r11, u9)], rfl, ?_, ?_, upd_same, ?_, ?_, ?_⟩
    · exact (b3.trans ((But.same s4).trans (b49.trans (b9b.trans (But.new ht))))).updn hfl
    · exact (d11.same (Same.new ht)).upd nf.1 nf.2
    · exact (L2.Paired.mapP hvs fun _ _ z => z.keep (k39.trans (k12.trans kL))).snoc ⟨t, v9, rfl, kL _ _ upd_same, w9.keep (k12.trans kL)⟩
    · rw [List.length_append, hlen]; rfl
    · intro f hf2
      rcases List.mem_append.mp hf2 with z | z
      · exact hok f z
      · rw [List.mem_singleton.mp z]
        exact ⟨by show 1 ≤ 1 + r11; omega, by show 1 + r11 ≤ 8; omega, ok9, z9⟩
  · rintro σ H3 ⟨y5, y6, y7, vs, p, rfl, b3, d3, hf, hvs, hlen, hok⟩
    rw [List.length_map, List.length_cons] at hlen
    refine ⟨_, rfl, fl, vs, rfl, .inl ⟨SqL.of hf, fun t ht => ?_⟩⟩
    have kt := Keep.same (Same.new (o := .tup vs) ht)
    refine q _ _ p (b2.trans (b3.trans (But.new ht))) (d3.same (Same.new ht)) ⟨t, vs, rfl, upd_same, L2.Paired.mapP hvs fun _ _ z => z.keep kt⟩ ⟨by omega, by omega, fun f hf2 => ?_⟩
    rw [hlen]
    exact hok f hf2
end
end K19

namespace K19
open PySem PySem.Spec PyProof.Rows L2 Ov
section
variable {P : Program} {w : World} {K : PySem.W.Frag} {mg : Str → Option Value} {base : Heap}
/-! ### the tables -/
theorem arms_at (T : Txt w K mg) (o : Op) : KDct K w (He.ga K "ARMS") o.name (.int (o.arity : Int)) := by
  obtain ⟨es, n, D⟩ := T.kd_ARMS
  have hm : ((o.name, .int (o.arity : Int)) : Str × He.Dv) ∈ kv_ARMS := by cases o <;> simp [kv_ARMS, Op.name, Op.arity]
  obtain ⟨u, h1, h2⟩ := He.valsB_ok T.v_ARMS hm
  exact ⟨es, n, u, D.at_, D.lit, h1, h2⟩
theorem arms_in (T : Txt w K mg) (o : Op) : ∃ r, PySem.W.nsIn K (He.ga K "ARMS") o.name = some r ∧ r.isSome = true := by
  have hm : ((o.name, .int (o.arity : Int)) : Str × He.Dv) ∈ kv_ARMS := by cases o <;> simp [kv_ARMS, Op.name, Op.arity]
  obtain ⟨u, h1, h2⟩ := He.valsB_ok T.v_ARMS hm
  exact ⟨some u, h1, rfl⟩
def gword (o : Op) : Str := if o = .num then "number" else "function"
theorem given_mem (o : Op) (h : o.gives = true) : ((o.name, .str (gword o)) : Str × He.Dv) ∈ kv_GIVEN := by cases o <;> first | (simp [kv_GIVEN, Op.name, gword]; done) | cases h
theorem given_at (T : Txt w K mg) (o : Op) (h : o.gives = true) : KDct K w (He.ga K "GIVEN") o.name (.str (gword o)) := by
  obtain ⟨es, n, D⟩ := T.kd_GIVEN
  obtain ⟨u, h1, h2⟩ := He.valsB_ok T.v_GIVEN (given_mem o h)
  exact ⟨es, n, u, D.at_, D.lit, h1, h2⟩
theorem given_in (T : Txt w K mg) (o : Op) : ∃ r, PySem.W.nsIn K (He.ga K "GIVEN") o.name = some r ∧ r.isSome = o.gives := by
  cases h : o.gives with
  | true =>
    obtain ⟨u, h1, h2⟩ := He.valsB_ok T.v_GIVEN (given_mem o h)
    exact ⟨some u, h1, rfl⟩
  | false =>
    have hm : o.name ∈ miss_GIVEN := by cases o <;> first | (simp [miss_GIVEN, Op.name]; done) | cases h
    exact ⟨none, He.eqO_ok (List.all_eq_true.mp T.m_GIVEN _ hm), rfl⟩
theorem sc_between : FnScope ["value", "low", "high"] ["value", "low", "high"] (defScope s_between) := ⟨rfl, rfl, rfl, by decide +kernel, rfl, by decide +kernel, by decide +kernel⟩
-- 0 value, 1 low, 2 high
theorem ok_between (T : Txt w K mg) : FnOk P w K mg base CX0 1 (He.ga K "between") (fdOf K d_between) ["value", "low", "high"] spBetween := by
  refine T.F_between.ok sc_between (fun vs H Q E h => ?_) (fun cdv A outer s H vs Q E hr h => ?_)
  · obtain ⟨v, lo, hi, rfl, _⟩ := h
    rfl
  obtain ⟨v, lo, hi, rfl, q⟩ := h
  refine ⟨_, PSs.nox (pss_one (ps_ret (pe_and (pe_callB (r := rIsi K) call_isi (by rfl) T.z_isinstance (by decide +kernel) (pa_cons (pv 0) (pa_cons (pe_bltn (v := .ty "int") (by rfl) T.z_int (by decide +kernel) rfl) pa_nil))) (pe_and (pe_not (pe_callB (r := rIsi K) call_isi (by rfl) T.z_isinstance (by decide +kernel) (pa_cons (pv 0) (pa_cons (pe_bltn (v := .ty "bool") (by rfl) T.z_bool (by decide +kernel) rfl) pa_nil)))) (pe_one (pe_chain op_le op_le (pv 1) (pv 0) (pv 2))))))), ?_⟩
  refine ⟨_, rfl, .int v, .ty "int", .type "int", .type "int", true, rfl, .ty _, .base (.int v), k_int_int, true, rfl, ?_⟩
  refine ⟨_, rfl, .int v, .ty "bool", .type "int", .type "bool", false, rfl, .ty _, .base (.int v), k_int_bool, false, rfl, true, rfl, ?_⟩
  refine ⟨_, rfl, _, rfl, lo, v, rfl, rfl, _, rfl, ?_⟩
  refine ite2 (fun a => ?_) (fun a => ?_)
  · have a1 : lo ≤ v := of_decide_eq_true a
    refine ⟨_, rfl, v, hi, rfl, rfl, ?_⟩
    show Q (.bl (decide (v ≤ hi))) H
    rw [show decide (v ≤ hi) = decide (lo ≤ v ∧ v ≤ hi) by simp [a1]]
    exact q
  · have a1 : ¬ lo ≤ v := of_decide_eq_false (Bool.eq_false_iff.mpr a)
    show Q (.bl false) H
    rw [show false = decide (lo ≤ v ∧ v ≤ hi) by simp [a1]]
    exact q
theorem sc_given_of : FnScope ["word"] ["word"] (defScope s_given_of) := ⟨rfl, rfl, rfl, by decide +kernel, rfl, by decide +kernel, by decide +kernel⟩
-- 0 word
theorem ok_given_of (T : Txt w K mg) : FnOk P w K mg base CX0 1 (He.ga K "given_of") (fdOf K d_given_of) ["word"] spGivenOf := by
  refine T.F_given_of.ok sc_given_of (fun vs H Q E h => ?_) (fun cdv A outer s H vs Q E hr h => ?_)
  · obtain ⟨a, o, g, us, rfl, _⟩ := h
    rfl
  obtain ⟨a, o, g, us, rfl, ⟨ha, hl⟩, q⟩ := h
  obtain ⟨es, n, D_GIVEN⟩ := T.kd_GIVEN
  obtain ⟨r, hr1, hr2⟩ := given_in T o
  refine ⟨_, PSs.nox (pss_one (ps_ret (pe_ifExp (pt_cmpR (r := Ov.rInKd K (He.ga K "GIVEN") false) (op_in_kd D_GIVEN) (pe_ix (r := rIxT K) ix_tup (pv 0) pe_int (fun _ _ => rfl)) (pe_glob (v := .ref (He.ga K "GIVEN")) (by rfl) T.g_GIVEN rfl) (by first | rfl | exact nomark _)) (pe_ix (r := rIxT K) ix_tup (pv 0) pe_int (fun _ _ => rfl)) pe_non))), ?_⟩
  refine ⟨_, rfl, a, _, 0, .str o.name, rfl, rfl, SqT.of ha, atI_nat (j := 0) rfl, o.name, r, rfl, rfl, hr1, _, rfl, ?_⟩
  unfold Op.gV at q
  rw [← hr2] at q
  refine ite2 (fun z => ?_) (fun z => ?_)
  · have z1 : r.isSome = true := z
    rw [z1] at q hr2
    have eg : o.pre g = [.int g] := by unfold Op.pre; rw [← hr2]; rfl
    refine ⟨_, rfl, a, _, 1, .int g, rfl, rfl, SqT.of ha, atI_nat (j := 1) (by rw [eg]; rfl), q⟩
  · have z1 : r.isSome = false := Bool.eq_false_iff.mpr z
    rw [z1] at q
    exact q
theorem sc_arms_of : FnScope ["word"] ["word"] (defScope s_arms_of) := ⟨rfl, rfl, rfl, by decide +kernel, rfl, by decide +kernel, by decide +kernel⟩
-- 0 word
theorem ok_arms_of (T : Txt w K mg) : FnOk P w K mg base CX0 1 (He.ga K "arms_of") (fdOf K d_arms_of) ["word"] spArmsOf := by
  refine T.F_arms_of.ok sc_arms_of (fun vs H Q E h => ?_) (fun cdv A outer s H vs Q E hr h => ?_)
  · obtain ⟨a, o, g, us, rfl, _⟩ := h
    rfl
  obtain ⟨a, o, g, us, rfl, ⟨ha, hl⟩, q⟩ := h
  refine ⟨_, PSs.nox (pss_one (ps_ret (pe_slice (r := rSlA K) sl_tupA (pv 0) (po_some (pe_op op_sub (pe_callB (r := Evl.rLenS K) call_len_seq (by rfl) T.z_len PySem.boot_len (pa_cons (pv 0) pa_nil)) (pe_ix (r := rIxD K w) ix_kdict (pe_glob (v := .ref (He.ga K "ARMS")) (by rfl) T.g_ARMS rfl) (pe_ix (r := rIxT K) ix_tup (pv 0) pe_int (fun _ _ => rfl)) (fun _ _ => rfl)))) po_none))), ?_⟩
  refine ⟨_, rfl, _, rfl, a, _, rfl, .inr (SqT.of ha), _, rfl, a, _, 0, .str o.name, rfl, rfl, SqT.of ha, atI_nat (j := 0) rfl, _, o.name, _, rfl, rfl, arms_at T o, _, _, rfl, rfl, _, rfl, ?_⟩
  have hn : (.str o.name :: (o.pre g ++ us) : List V).length = 1 + (o.pre g).length + us.length := by rw [List.length_cons, List.length_append]; omega
  have ec : (((.str o.name :: (o.pre g ++ us) : List V).length : Nat) : Int) - (o.arity : Int) = (((1 + (o.pre g).length : Nat)) : Int) := by rw [hn, ← hl]; omega
  have es : HT.sIx (.str o.name :: (o.pre g ++ us) : List V).length 0 (some ((((.str o.name :: (o.pre g ++ us) : List V).length : Nat) : Int) - (o.arity : Int))) = 1 + (o.pre g).length := by
    rw [ec, HT.sIx_nat, hn]
    omega
  refine ⟨a, _, rfl, SqT.of ha, fun z => ?_, fun _ p hp => ?_⟩
  · have z1 := z.1
    rw [es] at z1
    omega
  · have ecut : cutV (.str o.name :: (o.pre g ++ us) : List V) (some ((((.str o.name :: (o.pre g ++ us) : List V).length : Nat) : Int) - (o.arity : Int))) none = us := by
      unfold cutV
      rw [es, HT.sIx_none, hn]
      have e1 : (.str o.name :: (o.pre g ++ us) : List V).drop (1 + (o.pre g).length) = us := by
        rw [Nat.add_comm, List.drop_succ_cons, List.drop_left]
      rw [e1, show 1 + (o.pre g).length + us.length - (1 + (o.pre g).length) = us.length by omega, List.take_length]
    rw [ecut]
    exact q p hp
theorem sc_given_fits : FnScope ["kind", "given", "functions"] ["kind", "given", "functions"] (defScope s_given_fits) := ⟨rfl, rfl, rfl, by decide +kernel, rfl, by decide +kernel, by decide +kernel⟩
-- 0 kind, 1 given, 2 functions
theorem ok_given_fits (T : Txt w K mg) : FnOk P w K mg base CX0 2 (He.ga K "given_fits") (fdOf K d_given_fits) ["kind", "given", "functions"] spGivenFits := by
  have G_between := ok_between (P := P) (base := base) T
  refine T.F_given_fits.ok sc_given_fits (fun vs H Q E h => ?_) (fun cdv A outer s H vs Q E hr h => ?_)
  · obtain ⟨o, g, n, rfl, _⟩ := h
    rfl
  obtain ⟨o, g, n, rfl, hg, hf, q⟩ := h
  refine ⟨_, PSs.nox (pss_cons (ps_if (pt_cmpR op_eq (pv 0) pe_str (nomark _)) (pss_one (ps_ret (pe_call G_between (hr.mono (by omega)) (by rfl) T.g_between T.kp_between T.b_between .nil pass0 (pa_cons (pv 1) (pa_cons pe_int (pa_cons (pe_op op_sub (pv 2) pe_int) pa_nil)))))) pss_nil)
      (pss_one (ps_ret (pe_call G_between (hr.mono (by omega)) (by rfl) T.g_between T.kp_between T.b_between .nil pass0 (pa_cons (pv 1) (pa_cons pe_int (pa_cons (pe_glob (v := .int 99) (by rfl) T.i_GREATEST_WRITTEN.choose_spec ⟨_, rfl⟩) pa_nil))))))), ?_⟩
  refine ⟨_, rfl, rfl, _, rfl, ?_⟩
  have no : decide (V.str "number" = V.str "function") = false := by decide +kernel
  have yes : decide (V.str "function" = V.str "function") = true := decide_eq_true rfl
  cases o with
  | num =>
    rw [if_pos rfl, no]
    refine iteF ?_
    refine ⟨_, rfl, g, 0, 99, rfl, ?_⟩
    rw [decide_eq_true (show (0 : Int) ≤ g ∧ g ≤ 99 from hf)]
    exact q
  | way =>
    rw [if_neg (by decide), yes]
    have hf2 : 0 ≤ g ∧ g < n := hf
    refine ⟨_, rfl, _, rfl, _, 1, rfl, rfl, g, 0, _, rfl, ?_⟩
    rw [decide_eq_true (show (0 : Int) ≤ g ∧ g ≤ (n : Int) - 1 from ⟨hf2.1, by omega⟩)]
    exact q
  | call =>
    rw [if_neg (by decide), yes]
    have hf2 : 0 ≤ g ∧ g < n := hf
    refine ⟨_, rfl, _, rfl, _, 1, rfl, rfl, g, 0, _, rfl, ?_⟩
    rw [decide_eq_true (show (0 : Int) ≤ g ∧ g ≤ (n : Int) - 1 from ⟨hf2.1, by omega⟩)]
    exact q
  | _ => cases hg
end
end K19

namespace K19
open PySem PySem.Spec PyProof.Rows L2 Ov
section
variable {P : Program} {w : World} {K : PySem.W.Frag} {mg : Str → Option Value} {base : Heap}
theorem sc_law_alike : FnScope ["_law_found", "_law_due", "_law_k"] ["_law_found", "_law_due"] (defScope s_law_alike) := ⟨rfl, rfl, rfl, by decide +kernel, rfl, by decide +kernel, by decide +kernel⟩
-- 0 _law_found, 1 _law_due, 2 _law_k
theorem ok_law_alikeS (T : Txt w K mg) {d k : Nat} (G_law_alike : FnOk P w K mg base CX0 k (He.ga K "_law_alike") (fdOf K d_law_alike) ["_law_found", "_law_due"] (spAlike d)) :
    FnOk P w K mg base CX0 (k + 1) (He.ga K "_law_alike") (fdOf K d_law_alike) ["_law_found", "_law_due"] (spAlike (d + 1)) := by
  refine T.F_law_alike.ok sc_law_alike (fun vs H Q E h => ?_) (fun cdv A outer s H vs Q E hr h => ?_)
  · obtain ⟨x, y, rfl, _⟩ := h
    rfl
  obtain ⟨x, y, rfl, hal, q⟩ := h
  have cls : Paired ClsV [.ty "tuple", .ty "list"] [.type "tuple", .type "list"] := .cons (.ty _) (.cons (.ty _) .nil)
  rcases hal with ⟨rfl, hfl⟩ | ⟨a, b, xs, ys, rfl, rfl, ha, hb, hl, hxy⟩ | ⟨a, b, xs, ys, rfl, rfl, ha, hb, hl, hxy⟩
  · refine ⟨_, PSs.nox (pss_cons (ps_if (pt_val (pe_callB (r := rIsiT K) call_isiT (by rfl) T.z_isinstance (by decide +kernel) (pa_cons (pv 1) (pa_cons (pe_tup (pa_cons (pe_bltn (v := .ty "tuple") (by rfl) T.z_tuple (by decide +kernel) rfl) (pa_cons (pe_bltn (v := .ty "list") (by rfl) T.z_list (by decide +kernel) rfl) pa_nil))) pa_nil)))) (pss_cons (ps_if (PW.pt (pw_or (pt_not (pt_val (pe_callB (r := rIsiT K) call_isiT (by rfl) T.z_isinstance (by decide +kernel) (pa_cons (pv 0) (pa_cons (pe_tup (pa_cons (pe_bltn (v := .ty "tuple") (by rfl) T.z_tuple (by decide +kernel) rfl) (pa_cons (pe_bltn (v := .ty "list") (by rfl) T.z_list (by decide +kernel) rfl) pa_nil))) pa_nil))))) (pw_or1 (pt_cmpR op_ne (pe_callB (r := rIsi K) call_isi (by rfl) T.z_isinstance (by decide +kernel) (pa_cons (pv 0) (pa_cons (pe_bltn (v := .ty "list") (by rfl) T.z_list (by decide +kernel) rfl) pa_nil))) (pe_callB (r := rIsi K) call_isi (by rfl) T.z_isinstance (by decide +kernel) (pa_cons (pv 1) (pa_cons (pe_bltn (v := .ty "list") (by rfl) T.z_list (by decide +kernel) rfl) pa_nil))) (nomark _))))) (pss_one (ps_ret pe_bl)) pss_nil)
      (pss_cons (ps_if (pt_cmpR op_ne (pe_callB (r := Evl.rLenS K) call_len_seq (by rfl) T.z_len PySem.boot_len (pa_cons (pv 0) pa_nil)) (pe_callB (r := Evl.rLenS K) call_len_seq (by rfl) T.z_len PySem.boot_len (pa_cons (pv 1) pa_nil)) (nomark _)) (pss_one (ps_ret pe_bl)) pss_nil)
      (pss_one (ps_ret (pe_cmpR (r := rEqD K) (op_eqD hr.units) (pe_lc (own := [("_law_k", 2)]) rfl sc_law_alike.nd (pi_range1 (by rfl) T.z_range (pa_cons (pe_callB (r := Evl.rLenS K) call_len_seq (by rfl) T.z_len PySem.boot_len (pa_cons (pv 1) pa_nil)) pa_nil)) (blkOk_by (own := [("_law_k", 2)]) (N := ["_law_found", "_law_due", "_law_k"]) (sc := defScope s_law_alike) (by decide +kernel)) (fun _ _ _ _ _ => (pg_name (i := 2) sc_law_alike.nd rfl (by first | exact Or.inl rfl | exact Or.inr rfl))) (fun _ _ _ _ _ => pts_one (pt_not (pt_val (pe_call G_law_alike (hr.mono (by omega)) (by rfl) T.g_law_alike T.kp_law_alike T.b_law_alike .nil pass0 (pa_cons (pe_ix (r := rIxL K) ix_list (pv 0) (pv 2) (fun _ _ => rfl)) (pa_cons (pe_ix (r := rIxL K) ix_list (pv 1) (pv 2) (fun _ _ => rfl)) pa_nil)))))) (fun _ _ _ _ _ => (pv 2))) (pe_lst pa_nil) (nomark _)))))) pss_nil)
      (pss_cons (ps_if (pt_cmpR op_isN (pv 1) pe_non (nomark _)) (pss_one (ps_ret (pe_cmpR op_isN (pv 0) pe_non (nomark _)))) pss_nil)
      (pss_cons (ps_if (pt_val (pe_callB (r := rIsi K) call_isi (by rfl) T.z_isinstance (by decide +kernel) (pa_cons (pv 1) (pa_cons (pe_bltn (v := .ty "str") (by rfl) T.z_str (by decide +kernel) rfl) pa_nil)))) (pss_one (ps_ret (pe_and (pe_callB (r := rIsi K) call_isi (by rfl) T.z_isinstance (by decide +kernel) (pa_cons (pv 0) (pa_cons (pe_bltn (v := .ty "str") (by rfl) T.z_str (by decide +kernel) rfl) pa_nil))) (pe_one (pe_cmpR op_eq (pv 0) (pv 1) (nomark _)))))) pss_nil)
      (pss_cons (ps_if (PW.pt (pw_or (pt_val (pe_callB (r := rIsi K) call_isi (by rfl) T.z_isinstance (by decide +kernel) (pa_cons (pv 1) (pa_cons (pe_bltn (v := .ty "bool") (by rfl) T.z_bool (by decide +kernel) rfl) pa_nil)))) (pw_or1 (pt_val (pe_callB (r := rIsi K) call_isi (by rfl) T.z_isinstance (by decide +kernel) (pa_cons (pv 0) (pa_cons (pe_bltn (v := .ty "bool") (by rfl) T.z_bool (by decide +kernel) rfl) pa_nil))))))) (pss_one (ps_ret (pe_and (pe_callB (r := rIsi K) call_isi (by rfl) T.z_isinstance (by decide +kernel) (pa_cons (pv 1) (pa_cons (pe_bltn (v := .ty "bool") (by rfl) T.z_bool (by decide +kernel) rfl) pa_nil))) (pe_and (pe_callB (r := rIsi K) call_isi (by rfl) T.z_isinstance (by decide +kernel) (pa_cons (pv 0) (pa_cons (pe_bltn (v := .ty "bool") (by rfl) T.z_bool (by decide +kernel) rfl) pa_nil))) (pe_one (pe_cmpR op_eq (pv 0) (pv 1) (nomark _))))))) pss_nil)
      (pss_one (ps_ret (pe_and (pe_callB (r := rIsi K) call_isi (by rfl) T.z_isinstance (by decide +kernel) (pa_cons (pv 0) (pa_cons (pe_bltn (v := .ty "int") (by rfl) T.z_int (by decide +kernel) rfl) pa_nil))) (pe_one (pe_cmpR op_eq (pv 0) (pv 1) (nomark _)))))))))), ?_⟩
    refine ⟨_, rfl, sml 2, fun tp htp => ?_⟩
    have s1 := Same.new (o := .tup [.ty "tuple", .ty "list"]) htp
    cases x with
    | non =>
      have ka : PySem.W.kitAny K (.type "NoneType") [.type "tuple", .type "list"] = some false := kitAny_cons k_NoneType_tuple (fun _ => kitAny_cons k_NoneType_list (fun _ => kitAny_nil) (fun h => nomatch h)) (fun h => nomatch h)
      refine ⟨.non, tp, _, .type "NoneType", _, false, rfl, upd_same, cls, .base .non, ka, false, rfl, iteF ?_⟩
      exact ⟨_, rfl, rfl, _, rfl, iteT ⟨_, rfl, rfl, q _ s1⟩⟩
    | str z =>
      have ka : PySem.W.kitAny K (.type "str") [.type "tuple", .type "list"] = some false := kitAny_cons k_str_tuple (fun _ => kitAny_cons k_str_list (fun _ => kitAny_nil) (fun h => nomatch h)) (fun h => nomatch h)
      refine ⟨.str z, tp, _, .type "str", _, false, rfl, upd_same, cls, .base (.str z), ka, false, rfl, iteF ?_⟩
      refine ⟨_, rfl, rfl, _, rfl, iteF ?_⟩
      refine ⟨_, rfl, _, .ty "str", .type "str", .type "str", true, rfl, .ty _, .base (.str z), k_str_str, true, rfl, iteT ?_⟩
      refine ⟨_, rfl, _, .ty "str", .type "str", .type "str", true, rfl, .ty _, .base (.str z), k_str_str, true, rfl, iteT ⟨_, rfl, _, rfl, rfl, ?_⟩⟩
      show Q (.bl (decide (V.str z = V.str z))) _
      rw [decide_eq_true rfl]
      exact q _ s1
    | bl z =>
      have ka : PySem.W.kitAny K (.type "bool") [.type "tuple", .type "list"] = some false := kitAny_cons k_bool_tuple (fun _ => kitAny_cons k_bool_list (fun _ => kitAny_nil) (fun h => nomatch h)) (fun h => nomatch h)
      refine ⟨.bl z, tp, _, .type "bool", _, false, rfl, upd_same, cls, .base (.bl z), ka, false, rfl, iteF ?_⟩
      refine ⟨_, rfl, rfl, _, rfl, iteF ?_⟩
      refine ⟨_, rfl, _, .ty "str", .type "bool", .type "str", false, rfl, .ty _, .base (.bl z), k_bool_str, false, rfl, iteF ?_⟩
      refine ⟨_, rfl, _, .ty "bool", .type "bool", .type "bool", true, rfl, .ty _, .base (.bl z), k_bool_bool, true, rfl, iteT (iteT ?_)⟩
      refine ⟨_, rfl, _, .ty "bool", .type "bool", .type "bool", true, rfl, .ty _, .base (.bl z), k_bool_bool, true, rfl, iteT ?_⟩
      refine ⟨_, rfl, _, .ty "bool", .type "bool", .type "bool", true, rfl, .ty _, .base (.bl z), k_bool_bool, true, rfl, iteT ⟨_, rfl, _, rfl, rfl, ?_⟩⟩
      show Q (.bl (decide (V.bl z = V.bl z))) _
      rw [decide_eq_true rfl]
      exact q _ s1
    | int z =>
      have ka : PySem.W.kitAny K (.type "int") [.type "tuple", .type "list"] = some false := kitAny_cons k_int_tuple (fun _ => kitAny_cons k_int_list (fun _ => kitAny_nil) (fun h => nomatch h)) (fun h => nomatch h)
      refine ⟨.int z, tp, _, .type "int", _, false, rfl, upd_same, cls, .base (.int z), ka, false, rfl, iteF ?_⟩
      refine ⟨_, rfl, rfl, _, rfl, iteF ?_⟩
      refine ⟨_, rfl, _, .ty "str", .type "int", .type "str", false, rfl, .ty _, .base (.int z), k_int_str, false, rfl, iteF ?_⟩
      refine ⟨_, rfl, _, .ty "bool", .type "int", .type "bool", false, rfl, .ty _, .base (.int z), k_int_bool, false, rfl, iteF ?_⟩
      refine ⟨_, rfl, _, .ty "bool", .type "int", .type "bool", false, rfl, .ty _, .base (.int z), k_int_bool, false, rfl, iteF ?_⟩
      refine ⟨_, rfl, _, .ty "int", .type "int", .type "int", true, rfl, .ty _, .base (.int z), k_int_int, true, rfl, iteT ⟨_, rfl, _, rfl, rfl, ?_⟩⟩
      show Q (.bl (decide (V.int z = V.int z))) _
      rw [decide_eq_true rfl]
      exact q _ s1
    | _ => cases hfl
  · refine ⟨_, PSs.nox (pss_cons (ps_if (pt_val (pe_callB (r := rIsiT K) call_isiT (by rfl) T.z_isinstance (by decide +kernel) (pa_cons (pv 1) (pa_cons (pe_tup (pa_cons (pe_bltn (v := .ty "tuple") (by rfl) T.z_tuple (by decide +kernel) rfl) (pa_cons (pe_bltn (v := .ty "list") (by rfl) T.z_list (by decide +kernel) rfl) pa_nil))) pa_nil)))) (pss_cons (ps_if (PW.pt (pw_or (pt_not (pt_val (pe_callB (r := rIsiT K) call_isiT (by rfl) T.z_isinstance (by decide +kernel) (pa_cons (pv 0) (pa_cons (pe_tup (pa_cons (pe_bltn (v := .ty "tuple") (by rfl) T.z_tuple (by decide +kernel) rfl) (pa_cons (pe_bltn (v := .ty "list") (by rfl) T.z_list (by decide +kernel) rfl) pa_nil))) pa_nil))))) (pw_or1 (pt_cmpR op_ne (pe_callB (r := rIsi K) call_isi (by rfl) T.z_isinstance (by decide +kernel) (pa_cons (pv 0) (pa_cons (pe_bltn (v := .ty "list") (by rfl) T.z_list (by decide +kernel) rfl) pa_nil))) (pe_callB (r := rIsi K) call_isi (by rfl) T.z_isinstance (by decide +kernel) (pa_cons (pv 1) (pa_cons (pe_bltn (v := .ty "list") (by rfl) T.z_list (by decide +kernel) rfl) pa_nil))) (nomark _))))) (pss_one (ps_ret pe_bl)) pss_nil)
      (pss_cons (ps_if (pt_cmpR op_ne (pe_callB (r := Evl.rLenS K) call_len_seq (by rfl) T.z_len PySem.boot_len (pa_cons (pv 0) pa_nil)) (pe_callB (r := Evl.rLenS K) call_len_seq (by rfl) T.z_len PySem.boot_len (pa_cons (pv 1) pa_nil)) (nomark _)) (pss_one (ps_ret pe_bl)) pss_nil)
      (pss_one (ps_ret (pe_cmpR (r := rEqD K) (op_eqD hr.units) (pe_lc (own := [("_law_k", 2)]) rfl sc_law_alike.nd (pi_range1 (by rfl) T.z_range (pa_cons (pe_callB (r := Evl.rLenS K) call_len_seq (by rfl) T.z_len PySem.boot_len (pa_cons (pv 1) pa_nil)) pa_nil)) (blkOk_by (own := [("_law_k", 2)]) (N := ["_law_found", "_law_due", "_law_k"]) (sc := defScope s_law_alike) (by decide +kernel)) (fun _ _ _ _ _ => (pg_name (i := 2) sc_law_alike.nd rfl (by first | exact Or.inl rfl | exact Or.inr rfl))) (fun _ _ _ _ _ => pts_one (pt_not (pt_val (pe_call G_law_alike (hr.mono (by omega)) (by rfl) T.g_law_alike T.kp_law_alike T.b_law_alike .nil pass0 (pa_cons (pe_ix (r := rIxL K) ix_list (pv 0) (pv 2) (fun _ _ => rfl)) (pa_cons (pe_ix (r := rIxL K) ix_list (pv 1) (pv 2) (fun _ _ => rfl)) pa_nil)))))) (fun _ _ _ _ _ => (pv 2))) (pe_lst pa_nil) (nomark _)))))) pss_nil)
      (pss_cons (ps_if (pt_cmpR op_isN (pv 1) pe_non (nomark _)) (pss_one (ps_ret (pe_cmpR op_isN (pv 0) pe_non (nomark _)))) pss_nil)
      (pss_cons (ps_if (pt_val (pe_callB (r := rIsi K) call_isi (by rfl) T.z_isinstance (by decide +kernel) (pa_cons (pv 1) (pa_cons (pe_bltn (v := .ty "str") (by rfl) T.z_str (by decide +kernel) rfl) pa_nil)))) (pss_one (ps_ret (pe_and (pe_callB (r := rIsi K) call_isi (by rfl) T.z_isinstance (by decide +kernel) (pa_cons (pv 0) (pa_cons (pe_bltn (v := .ty "str") (by rfl) T.z_str (by decide +kernel) rfl) pa_nil))) (pe_one (pe_cmpR op_eq (pv 0) (pv 1) (nomark _)))))) pss_nil)
      (pss_cons (ps_if (PW.pt (pw_or (pt_val (pe_callB (r := rIsi K) call_isi (by rfl) T.z_isinstance (by decide +kernel) (pa_cons (pv 1) (pa_cons (pe_bltn (v := .ty "bool") (by rfl) T.z_bool (by decide +kernel) rfl) pa_nil)))) (pw_or1 (pt_val (pe_callB (r := rIsi K) call_isi (by rfl) T.z_isinstance (by decide +kernel) (pa_cons (pv 0) (pa_cons (pe_bltn (v := .ty "bool") (by rfl) T.z_bool (by decide +kernel) rfl) pa_nil))))))) (pss_one (ps_ret (pe_and (pe_callB (r := rIsi K) call_isi (by rfl) T.z_isinstance (by decide +kernel) (pa_cons (pv 1) (pa_cons (pe_bltn (v := .ty "bool") (by rfl) T.z_bool (by decide +kernel) rfl) pa_nil))) (pe_and (pe_callB (r := rIsi K) call_isi (by rfl) T.z_isinstance (by decide +kernel) (pa_cons (pv 0) (pa_cons (pe_bltn (v := .ty "bool") (by rfl) T.z_bool (by decide +kernel) rfl) pa_nil))) (pe_one (pe_cmpR op_eq (pv 0) (pv 1) (nomark _))))))) pss_nil)
      (pss_one (ps_ret (pe_and (pe_callB (r := rIsi K) call_isi (by rfl) T.z_isinstance (by decide +kernel) (pa_cons (pv 0) (pa_cons (pe_bltn (v := .ty "int") (by rfl) T.z_int (by decide +kernel) rfl) pa_nil))) (pe_one (pe_cmpR op_eq (pv 0) (pv 1) (nomark _)))))))))), ?_⟩
    have ka : PySem.W.kitAny K (.type "list") [.type "tuple", .type "list"] = some true := kitAny_cons k_list_tuple (fun _ => kitAny_cons k_list_list (fun h => nomatch h) (fun _ => rfl)) (fun h => nomatch h)
    have hlxy := Paired.length hxy
    refine ⟨_, rfl, sml 2, fun tp htp => ?_⟩
    have s1 := Same.new (o := .tup [.ty "tuple", .ty "list"]) htp
    refine ⟨.ref b, tp, _, .type "list", _, true, rfl, upd_same, cls, .base (.lst (s1 _ _ hb)), ka, true, rfl, iteT ?_⟩
    refine ⟨_, rfl, sml 2, fun tp2 htp2 => ?_⟩
    have s2 := s1.trans (Same.new (o := .tup [.ty "tuple", .ty "list"]) htp2)
    refine ⟨.ref a, tp2, _, .type "list", _, true, rfl, upd_same, cls, .base (.lst (s2 _ _ ha)), ka, true, rfl, iteF ?_⟩
    refine ⟨_, rfl, _, .ty "list", .type "list", .type "list", true, rfl, .ty _, .base (.lst (s2 _ _ ha)), k_list_list, _, rfl, _, .ty "list", .type "list", .type "list", true, rfl, .ty _, .base (.lst (s2 _ _ hb)), k_list_list, rfl, _, rfl, iteF ?_⟩
    refine ⟨_, rfl, a, _, rfl, .inl (SqL.of (s2 _ _ ha)), _, rfl, b, _, rfl, .inl (SqL.of (s2 _ _ hb)), rfl, _, rfl, ?_⟩
    have enm : (!decide (V.int ((xs.length : Nat) : Int) = V.int ((ys.length : Nat) : Int))) = false := by rw [hlxy, decide_eq_true rfl]; rfl
    rw [enm]
    refine iteF ?_
    refine ⟨_, rfl, b, _, rfl, .inl (SqL.of (s2 _ _ hb)), _, rfl, by omega, by omega, fun D hD => ?_⟩
    generalize hH2 : upd (upd H tp (.tup [.ty "tuple", .ty "list"])) tp2 (.tup [.ty "tuple", .ty "list"]) = H2 at s2 hD ⊢
    refine lc_range (lo := 0) (n := ((ys.length : Nat) : Int).toNat) (fun i H' => Same H2 H' ∧ H' D = some (.lst [])) ⟨Same.new hD, upd_same⟩ ?_ ?_
    · rintro i H3 hi ⟨s3, e3⟩
      rw [Int.toNat_natCast] at hi
      obtain ⟨x, hx⟩ : ∃ x, xs[i]? = some x := ⟨_, List.getElem?_eq_getElem (by omega)⟩
      obtain ⟨y, hy, hxy1⟩ := Paired.get2 hxy hx
      have s23 := s2.trans s3
      refine ⟨rfl, _, rfl, _, rfl, a, _, (i : Int), _, rfl, congrArg V.int (Int.zero_add _), SqL.of (s23 _ _ ha), atI_nat hx, _, rfl, _, rfl, b, _, (i : Int), _, rfl, congrArg V.int (Int.zero_add _), SqL.of (s23 _ _ hb), atI_nat hy, x, y, rfl, hxy1.keep s23, fun H4 s4 => ⟨true, rfl, iteF ⟨s3.trans s4, s4 _ _ e3⟩⟩⟩
    · rintro H3 ⟨s3, e3⟩
      refine ⟨sml 0, fun l hl => ?_⟩
      have nDl : D ≠ l := ne_of_none e3 hl
      refine ⟨.list (([] : List Int).map PyData.int), .list [], .lst (SqL.of (by rw [upd_ne nDl]; exact e3)) (dpInts []), .lst (xs := []) (SqL.of upd_same) (dpInts []), intsShaped [], intsShaped [], ?_⟩
      rw [eqvNil]
      exact q _ (s2.trans (s3.trans (Same.new hl)))
  · 
    refine ⟨_, PSs.nox (pss_cons (ps_if (pt_val (pe_callB (r := rIsiT K) call_isiT (by rfl) T.z_isinstance (by decide +kernel) (pa_cons (pv 1) (pa_cons (pe_tup (pa_cons (pe_bltn (v := .ty "tuple") (by rfl) T.z_tuple (by decide +kernel) rfl) (pa_cons (pe_bltn (v := .ty "list") (by rfl) T.z_list (by decide +kernel) rfl) pa_nil))) pa_nil)))) (pss_cons (ps_if (PW.pt (pw_or (pt_not (pt_val (pe_callB (r := rIsiT K) call_isiT (by rfl) T.z_isinstance (by decide +kernel) (pa_cons (pv 0) (pa_cons (pe_tup (pa_cons (pe_bltn (v := .ty "tuple") (by rfl) T.z_tuple (by decide +kernel) rfl) (pa_cons (pe_bltn (v := .ty "list") (by rfl) T.z_list (by decide +kernel) rfl) pa_nil))) pa_nil))))) (pw_or1 (pt_cmpR op_ne (pe_callB (r := rIsi K) call_isi (by rfl) T.z_isinstance (by decide +kernel) (pa_cons (pv 0) (pa_cons (pe_bltn (v := .ty "list") (by rfl) T.z_list (by decide +kernel) rfl) pa_nil))) (pe_callB (r := rIsi K) call_isi (by rfl) T.z_isinstance (by decide +kernel) (pa_cons (pv 1) (pa_cons (pe_bltn (v := .ty "list") (by rfl) T.z_list (by decide +kernel) rfl) pa_nil))) (nomark _))))) (pss_one (ps_ret pe_bl)) pss_nil)
      (pss_cons (ps_if (pt_cmpR op_ne (pe_callB (r := Evl.rLenS K) call_len_seq (by rfl) T.z_len PySem.boot_len (pa_cons (pv 0) pa_nil)) (pe_callB (r := Evl.rLenS K) call_len_seq (by rfl) T.z_len PySem.boot_len (pa_cons (pv 1) pa_nil)) (nomark _)) (pss_one (ps_ret pe_bl)) pss_nil)
      (pss_one (ps_ret (pe_cmpR (r := rEqD K) (op_eqD hr.units) (pe_lc (own := [("_law_k", 2)]) rfl sc_law_alike.nd (pi_range1 (by rfl) T.z_range (pa_cons (pe_callB (r := Evl.rLenS K) call_len_seq (by rfl) T.z_len PySem.boot_len (pa_cons (pv 1) pa_nil)) pa_nil)) (blkOk_by (own := [("_law_k", 2)]) (N := ["_law_found", "_law_due", "_law_k"]) (sc := defScope s_law_alike) (by decide +kernel)) (fun _ _ _ _ _ => (pg_name (i := 2) sc_law_alike.nd rfl (by first | exact Or.inl rfl | exact Or.inr rfl))) (fun _ _ _ _ _ => pts_one (pt_not (pt_val (pe_call G_law_alike (hr.mono (by omega)) (by rfl) T.g_law_alike T.kp_law_alike T.b_law_alike .nil pass0 (pa_cons (pe_ix (r := rIxT K) ix_tup (pv 0) (pv 2) (fun _ _ => rfl)) (pa_cons (pe_ix (r := rIxT K) ix_tup (pv 1) (pv 2) (fun _ _ => rfl)) pa_nil)))))) (fun _ _ _ _ _ => (pv 2))) (pe_lst pa_nil) (nomark _)))))) pss_nil)
      (pss_cons (ps_if (pt_cmpR op_isN (pv 1) pe_non (nomark _)) (pss_one (ps_ret (pe_cmpR op_isN (pv 0) pe_non (nomark _)))) pss_nil)
      (pss_cons (ps_if (pt_val (pe_callB (r := rIsi K) call_isi (by rfl) T.z_isinstance (by decide +kernel) (pa_cons (pv 1) (pa_cons (pe_bltn (v := .ty "str") (by rfl) T.z_str (by decide +kernel) rfl) pa_nil)))) (pss_one (ps_ret (pe_and (pe_callB (r := rIsi K) call_isi (by rfl) T.z_isinstance (by decide +kernel) (pa_cons (pv 0) (pa_cons (pe_bltn (v := .ty "str") (by rfl) T.z_str (by decide +kernel) rfl) pa_nil))) (pe_one (pe_cmpR op_eq (pv 0) (pv 1) (nomark _)))))) pss_nil)
      (pss_cons (ps_if (PW.pt (pw_or (pt_val (pe_callB (r := rIsi K) call_isi (by rfl) T.z_isinstance (by decide +kernel) (pa_cons (pv 1) (pa_cons (pe_bltn (v := .ty "bool") (by rfl) T.z_bool (by decide +kernel) rfl) pa_nil)))) (pw_or1 (pt_val (pe_callB (r := rIsi K) call_isi (by rfl) T.z_isinstance (by decide +kernel) (pa_cons (pv 0) (pa_cons (pe_bltn (v := .ty "bool") (by rfl) T.z_bool (by decide +kernel) rfl) pa_nil))))))) (pss_one (ps_ret (pe_and (pe_callB (r := rIsi K) call_isi (by rfl) T.z_isinstance (by decide +kernel) (pa_cons (pv 1) (pa_cons (pe_bltn (v := .ty "bool") (by rfl) T.z_bool (by decide +kernel) rfl) pa_nil))) (pe_and (pe_callB (r := rIsi K) call_isi (by rfl) T.z_isinstance (by decide +kernel) (pa_cons (pv 0) (pa_cons (pe_bltn (v := .ty "bool") (by rfl) T.z_bool (by decide +kernel) rfl) pa_nil))) (pe_one (pe_cmpR op_eq (pv 0) (pv 1) (nomark _))))))) pss_nil)
      (pss_one (ps_ret (pe_and (pe_callB (r := rIsi K) call_isi (by rfl) T.z_isinstance (by decide +kernel) (pa_cons (pv 0) (pa_cons (pe_bltn (v := .ty "int") (by rfl) T.z_int (by decide +kernel) rfl) pa_nil))) (pe_one (pe_cmpR op_eq (pv 0) (pv 1) (nomark _)))))))))), ?_⟩
    have ka : PySem.W.kitAny K (.type "tuple") [.type "tuple", .type "list"] = some true := kitAny_cons k_tuple_tuple (fun h => nomatch h) (fun _ => rfl)
    have hlxy := Paired.length hxy
    refine ⟨_, rfl, sml 2, fun tp htp => ?_⟩
    have s1 := Same.new (o := .tup [.ty "tuple", .ty "list"]) htp
    refine ⟨.ref b, tp, _, .type "tuple", _, true, rfl, upd_same, cls, .base (.tup (s1 _ _ hb)), ka, true, rfl, iteT ?_⟩
    refine ⟨_, rfl, sml 2, fun tp2 htp2 => ?_⟩
    have s2 := s1.trans (Same.new (o := .tup [.ty "tuple", .ty "list"]) htp2)
    refine ⟨.ref a, tp2, _, .type "tuple", _, true, rfl, upd_same, cls, .base (.tup (s2 _ _ ha)), ka, true, rfl, iteF ?_⟩
    refine ⟨_, rfl, _, .ty "list", .type "tuple", .type "list", false, rfl, .ty _, .base (.tup (s2 _ _ ha)), k_tuple_list, _, rfl, _, .ty "list", .type "tuple", .type "list", false, rfl, .ty _, .base (.tup (s2 _ _ hb)), k_tuple_list, rfl, _, rfl, iteF ?_⟩
    refine ⟨_, rfl, a, _, rfl, .inr (SqT.of (s2 _ _ ha)), _, rfl, b, _, rfl, .inr (SqT.of (s2 _ _ hb)), rfl, _, rfl, ?_⟩
    have enm : (!decide (V.int ((xs.length : Nat) : Int) = V.int ((ys.length : Nat) : Int))) = false := by rw [hlxy, decide_eq_true rfl]; rfl
    rw [enm]
    refine iteF ?_
    refine ⟨_, rfl, b, _, rfl, .inr (SqT.of (s2 _ _ hb)), _, rfl, by omega, by omega, fun D hD => ?_⟩
    generalize hH2 : upd (upd H tp (.tup [.ty "tuple", .ty "list"])) tp2 (.tup [.ty "tuple", .ty "list"]) = H2 at s2 hD ⊢
    refine lc_range (lo := 0) (n := ((ys.length : Nat) : Int).toNat) (fun i H' => Same H2 H' ∧ H' D = some (.lst [])) ⟨Same.new hD, upd_same⟩ ?_ ?_
    · rintro i H3 hi ⟨s3, e3⟩
      rw [Int.toNat_natCast] at hi
      obtain ⟨x, hx⟩ : ∃ x, xs[i]? = some x := ⟨_, List.getElem?_eq_getElem (by omega)⟩
      obtain ⟨y, hy, hxy1⟩ := Paired.get2 hxy hx
      have s23 := s2.trans s3
      refine ⟨rfl, _, rfl, _, rfl, a, _, (i : Int), _, rfl, congrArg V.int (Int.zero_add _), SqT.of (s23 _ _ ha), atI_nat hx, _, rfl, _, rfl, b, _, (i : Int), _, rfl, congrArg V.int (Int.zero_add _), SqT.of (s23 _ _ hb), atI_nat hy, x, y, rfl, hxy1.keep s23, fun H4 s4 => ⟨true, rfl, iteF ⟨s3.trans s4, s4 _ _ e3⟩⟩⟩
    · rintro H3 ⟨s3, e3⟩
      refine ⟨sml 0, fun l hl => ?_⟩
      have nDl : D ≠ l := ne_of_none e3 hl
      refine ⟨.list (([] : List Int).map PyData.int), .list [], .lst (SqL.of (by rw [upd_ne nDl]; exact e3)) (dpInts []), .lst (xs := []) (SqL.of upd_same) (dpInts []), intsShaped [], intsShaped [], ?_⟩
      rw [eqvNil]
      exact q _ (s2.trans (s3.trans (Same.new hl)))
theorem ok_law_alike (T : Txt w K mg) : ∀ d : Nat, FnOk P w K mg base CX0 d (He.ga K "_law_alike") (fdOf K d_law_alike) ["_law_found", "_law_due"] (spAlike d)
  | 0 => fn0 fun vs H Q E ⟨_, _, _, h, _⟩ => h.elim
  | d + 1 => ok_law_alikeS T (ok_law_alike T d)
end
end K19

namespace K19
open PySem PySem.Spec PyProof.Rows L2 Ov
section
variable {P : Program} {w : World} {K : PySem.W.Frag} {mg : Str → Option Value} {base : Heap}
theorem sc_add_word : FnScope ["rows", "word", "number", "arms", "arm"] ["rows", "word"] (defScope s_add_word) := ⟨rfl, rfl, rfl, by decide +kernel, rfl, by decide +kernel, by decide +kernel⟩
-- 0 rows, 1 word, 2 number, 3 arms, 4 arm
theorem ok_add_wordS (T : Txt w K mg) {d : Nat} (G_add_word : FnOk P w K mg base CX0 (d + 1) (He.ga K "add_word") (fdOf K d_add_word) ["rows", "word"] (spAddWord d)) :
    FnOk P w K mg base CX0 (d + 2) (He.ga K "add_word") (fdOf K d_add_word) ["rows", "word"] (spAddWord (d + 1)) := by
  have G_arms_of := ok_arms_of (P := P) (base := base) T
  have G_given_of := ok_given_of (P := P) (base := base) T
  refine T.F_add_word.ok sc_add_word (fun vs H Q E h => ?_) (fun cdv A outer s H vs Q E hr h => ?_)
  · obtain ⟨l, v, n, u, xs, rfl, _⟩ := h
    rfl
  obtain ⟨l, v, n, u, xs, rfl, hl, hv, ok, hz, q⟩ := h
  cases hv with
  | @mk a o g vs as ha hs =>
  cases ok with
  | mk h1 h2 h3 =>
  have hlen := hs.length
  rw [W.size_mk] at hz
  have has : as.length ≤ 3 := by rw [h1]; cases o <;> decide
  refine ⟨_, PSs.nox (pss_cons (ps_set (i := 2) sc_add_word.nd rfl (by first | exact Or.inl rfl | exact Or.inr rfl) (pe_callB (r := Evl.rLenS K) call_len_seq (by rfl) T.z_len PySem.boot_len (pa_cons (pv 0) pa_nil)))
      (pss_cons (ps_expr (Ov.pe_bmK (K := K) rfl PySem.F.plainAttrs_list PySem.F.slot_list_append PySem.F.type_list_append mt_append (pv 0) (pa_cons pe_non pa_nil)))
      (pss_cons (ps_set (i := 3) sc_add_word.nd rfl (by first | exact Or.inl rfl | exact Or.inr rfl) (pe_lst pa_nil))
      (pss_cons (ps_for PassesOwn.never rfl (Ov.pi_tupK (K := K) rfl (pe_call G_arms_of (hr.mono (by omega)) (by rfl) T.g_arms_of T.kp_arms_of T.b_arms_of .nil pass0 (pa_cons (pv 1) pa_nil))) (pg_name (i := 4) sc_add_word.nd rfl (by first | exact Or.inl rfl | exact Or.inr rfl)) (pss_one (ps_expr (Ov.pe_bmK (K := K) rfl PySem.F.plainAttrs_list PySem.F.slot_list_append PySem.F.type_list_append mt_append (pv 3) (pa_cons (pe_call G_add_word (hr.mono (by omega)) (by rfl) T.g_add_word T.kp_add_word T.b_add_word .nil pass0 (pa_cons (pv 0) (pa_cons (pv 4) pa_nil))) pa_nil)))))
      (pss_cons (ps_asg (pe_tup (pa_cons (pe_ix (r := rIxT K) ix_tup (pv 1) pe_int (fun _ _ => rfl)) (pa_cons (pe_call G_given_of (hr.mono (by omega)) (by rfl) T.g_given_of T.kp_given_of T.b_given_of .nil pass0 (pa_cons (pv 1) pa_nil)) (pa_cons (pe_callTy (r := Ov.rTupS K) call_tuple_of (by rfl) T.z_tuple (by decide +kernel) (pa_cons (pv 3) pa_nil)) pa_nil)))) (pg_sub (pv 0) (pv 2) set_list))
      (pss_one (ps_ret (pv 2)))))))), ?_⟩
  refine ⟨_, rfl, l, xs, rfl, .inl (SqL.of hl), ?_⟩
  refine ⟨_, rfl, .inl ⟨rfl, _, SqL.of hl⟩, l, xs, _, rfl, rfl, hl, sm _ (by omega), sml 0, fun al hal => ?_⟩
  have nal : l ≠ al := ne_of_none upd_same hal
  have hal0 : H al = none := by rw [upd_ne nal.symm] at hal; exact hal
  have b1 : ButL l H (upd (upd H l (.lst (xs ++ [.non]))) al (.lst [])) := ButL.upd.trans (.same (Same.new hal))
  have hl1 : (upd (upd H l (.lst (xs ++ [.non]))) al (.lst [])) l = some (.lst (xs ++ [.non])) := by rw [upd_ne nal, upd_same]
  have nla : a ≠ l := ne_of ha hl (by intro z; cases z)
  have ha1 := b1 a _ nla ha
  refine ⟨_, rfl, a, o, g, vs, rfl, ⟨ha1, hlen.trans h1⟩, fun p hp => ?_⟩
  have npl : l ≠ p := ne_of_none hl1 hp
  have npa : al ≠ p := ne_of_none upd_same hp
  refine ⟨p, rfl, ⟨_, SqT.of upd_same⟩, for_tup (K := K) (a := p) (xs := vs) (fun i σ H' => ∃ (y4 : Option V) (ys : List V), σ = [some (.ref l), some (.ref a), some (.int (xs.length : Int)), some (.ref al), y4] ∧ ButL l H H' ∧ H' l = some (.lst (xs ++ [.non] ++ ys)) ∧ Paired (RowAt H') ys (W.rowss (xs.length + 1) (as.take i)) ∧ H' al = some (.lst (nV (starts (xs.length + 1) (as.take i)))) ∧ H' p = some (.tup vs))
    ⟨none, [], rfl, b1.trans (.same (Same.new hp)), by rw [upd_ne npl, hl1, List.append_nil], by rw [List.take_zero, W.rowss]; exact .nil, by rw [upd_ne npa, upd_same]; rfl, upd_same⟩ (fun i σ H' _ ⟨_, _, _, _, _, _, _, e⟩ => SqT.of e) ?_ ?_⟩
  · rintro i x σ H1 hi ⟨y4, ys, rfl, b2, hl2, hys, hal2, hp2⟩
    obtain ⟨u, hu, hxu⟩ := WsAt.get hs hi
    have hlr := Paired.length hys
    rw [W.rowss_len] at hlr
    have hsz := size_get as i u hu
    have hlx : (xs ++ [.non] ++ ys : List V).length = xs.length + 1 + W.sizes (as.take i) := by rw [List.length_append, List.length_append, hlr]; rfl
    refine ⟨_, rfl, .inl ⟨rfl, _, SqL.of hal2⟩, _, rfl, _, rfl, l, x, n, u, xs ++ [.non] ++ ys, rfl, hl2, hxu.keep (b2.keep hl), h3 u (List.mem_of_getElem? hu), by rw [hlx]; omega, fun H3 zs b3 hl3 hzs => ?_⟩
    have hal3 := b3 _ _ nal.symm hal2
    have k3 := b3.keep hl2
    have kL := Keep.updL (ys := nV (starts (xs.length + 1) (as.take i)) ++ [V.int ((xs ++ [.non] ++ ys : List V).length : Int)]) hal3
    refine ⟨al, _, _, rfl, rfl, hal3, sm _ (by rw [nV_len, starts_len, List.length_take]; omega), _, ys ++ zs, rfl, ?_, ?_, ?_, ?_, ?_⟩
    · exact fun c u' n1 e => by rw [upd_ne (ne_of_none e hal0)]; exact (b2.trans b3) c u' n1 e
    · rw [upd_ne nal, hl3, List.append_assoc _ ys zs]
    · rw [List.take_add_one, hu]
      show Paired _ _ (W.rowss (xs.length + 1) (as.take i ++ [u]))
      rw [rowss_snoc]
      refine paired_app (L2.Paired.mapP hys fun _ _ z => z.keep (k3.trans kL)) ?_
      rw [hlx] at hzs
      exact L2.Paired.mapP hzs fun _ _ z => z.keep kL
    · rw [upd_same, List.take_add_one, hu]
      show some (HO.lst _) = some (HO.lst (nV (starts (xs.length + 1) (as.take i ++ [u]))))
      rw [starts_snoc, nV_app, hlx]
    · rw [upd_ne (ne_of hp2 hal2 (by intro z; cases z)).symm.symm]
      exact b3 _ _ npl.symm hp2
  · rintro σ H1 ⟨y4, ys, rfl, b2, hl2, hys, hal2, hp2⟩
    rw [hlen, List.take_length] at hys hal2
    have ha2 := b2 a _ nla ha
    refine ⟨_, rfl, a, _, 0, .str o.name, rfl, rfl, SqT.of ha2, atI_nat (j := 0) rfl, _, rfl, a, o, g, vs, rfl, ⟨ha2, hlen.trans h1⟩, _, rfl, al, _, rfl, .inl ⟨SqL.of hal2, fun ta hta => ⟨sml 3, fun t ht => ?_⟩⟩⟩
    have s3 := (Same.new (o := .tup (nV (starts (xs.length + 1) as))) hta).trans (Same.new (o := .tup [.str o.name, o.gV g, .ref ta]) ht)
    have hl3 := s3 _ _ hl2
    refine ⟨_, rfl, _, rfl, l, _, _, xs.length, rfl, rfl, hl3, Evl.ixN_nat (by rw [List.length_append, List.length_append, List.length_singleton]; omega), _, rfl, ?_⟩
    have kL := Keep.updL (ys := (xs ++ [V.non] ++ ys).set xs.length (V.ref t)) hl3
    refine q _ (.ref t :: ys) ((b2.trans (.same s3)).trans ButL.upd) (by rw [upd_same, set_mid]) ?_
    rw [W.rows_mk]
    have nta : ta ≠ t := ne_of_none upd_same ht
    exact .cons ⟨t, ta, rfl, kL _ _ upd_same, kL _ _ (by rw [upd_ne nta, upd_same])⟩ (L2.Paired.mapP hys fun _ _ z => z.keep ((Keep.same s3).trans kL))
theorem ok_add_word (T : Txt w K mg) : ∀ d : Nat, FnOk P w K mg base CX0 (d + 1) (He.ga K "add_word") (fdOf K d_add_word) ["rows", "word"] (spAddWord d)
  | 0 => fn0 fun vs H Q E ⟨_, _, _, _, _, _, _, _, h, _⟩ => nomatch h
  | d + 1 => ok_add_wordS T (ok_add_word T d)
theorem sc_words_of : FnScope ["body", "rows"] ["body"] (defScope s_words_of) := ⟨rfl, rfl, rfl, by decide +kernel, rfl, by decide +kernel, by decide +kernel⟩
-- 0 body, 1 rows
theorem ok_words_of (T : Txt w K mg) : FnOk P w K mg base CX0 9 (He.ga K "words_of") (fdOf K d_words_of) ["body"] spWordsOf := by
  have G_add_word := ok_add_word (P := P) (base := base) T 7
  refine T.F_words_of.ok sc_words_of (fun vs H Q E h => ?_) (fun cdv A outer s H vs Q E hr h => ?_)
  · obtain ⟨v, n, u, rfl, _⟩ := h
    rfl
  obtain ⟨v, n, u, rfl, hv, ok, hz, q⟩ := h
  refine ⟨_, PSs.nox (pss_cons (ps_set (i := 1) sc_words_of.nd rfl (by first | exact Or.inl rfl | exact Or.inr rfl) (pe_lst pa_nil))
      (pss_cons (ps_expr (pe_call G_add_word (hr.mono (by omega)) (by rfl) T.g_add_word T.kp_add_word T.b_add_word .nil pass0 (pa_cons (pv 1) (pa_cons (pv 0) pa_nil))))
      (pss_one (ps_ret (pv 1))))), ?_⟩
  refine ⟨sml 0, fun l hl => ⟨_, rfl, _, rfl, l, v, n, u, [], rfl, upd_same, hv.keep (Keep.same (Same.new hl)), ok, by show 0 + u.size ≤ 1000; omega, fun H' ys b e r => ⟨_, rfl, ?_⟩⟩⟩
  exact q H' l ys (fun a o h => b a o (ne_of_none h hl) (Same.new hl a o h)) hl e r
theorem sc_word_fits : FnScope ["word", "functions", "around", "name", "ahead", "arm"] ["word", "functions", "around"] (defScope s_word_fits) := ⟨rfl, rfl, rfl, by decide +kernel, rfl, by decide +kernel, by decide +kernel⟩
-- 0 word, 1 functions, 2 around, 3 name, 4 ahead, 5 arm
theorem ok_word_fitsS (T : Txt w K mg) {d : Nat} (G_word_fits : FnOk P w K mg base CX0 (d + 2) (He.ga K "word_fits") (fdOf K d_word_fits) ["word", "functions", "around"] (spWordFits d)) :
    FnOk P w K mg base CX0 (d + 3) (He.ga K "word_fits") (fdOf K d_word_fits) ["word", "functions", "around"] (spWordFits (d + 1)) := by
  have G_arms_of := ok_arms_of (P := P) (base := base) T
  have G_given_fits := ok_given_fits (P := P) (base := base) T
  obtain ⟨_, _, D_ARMS⟩ := T.kd_ARMS
  obtain ⟨_, _, D_GIVEN⟩ := T.kd_GIVEN
  refine T.F_word_fits.ok sc_word_fits (fun vs H Q E h => ?_) (fun cdv A outer s H vs Q E hr h => ?_)
  · obtain ⟨v, n, u, r, rfl, _⟩ := h
    rfl
  obtain ⟨v, n, u, r, rfl, hv, ok, r0, r7, q⟩ := h
  cases hv with
  | @mk a o g vs as ha hs =>
  cases ok with
  | mk h1 h2 h3 =>
  have hlen := hs.length
  obtain ⟨ra, ra1, ra2⟩ := arms_in T o
  obtain ⟨rg, rg1, rg2⟩ := given_in T o
  refine ⟨_, PSs.nox (pss_cons (ps_if (PW.pt (pw_or (pt_cmpR op_gt (pv 2) (pe_glob (v := .int 6) (by rfl) T.i_MOST_AROUND.choose_spec ⟨_, rfl⟩) (nomark _)) (pw_or (pt_not (pt_val (pe_callB (r := rIsi K) call_isi (by rfl) T.z_isinstance (by decide +kernel) (pa_cons (pv 0) (pa_cons (pe_bltn (v := .ty "tuple") (by rfl) T.z_tuple (by decide +kernel) rfl) pa_nil))))) (pw_or1 (pt_cmpR op_eq (pe_callB (r := Evl.rLenS K) call_len_seq (by rfl) T.z_len PySem.boot_len (pa_cons (pv 0) pa_nil)) pe_int (nomark _)))))) (pss_one (ps_ret pe_bl)) pss_nil)
      (pss_cons (ps_set (i := 3) sc_word_fits.nd rfl (by first | exact Or.inl rfl | exact Or.inr rfl) (pe_ix (r := rIxT K) ix_tup (pv 0) pe_int (fun _ _ => rfl)))
      (pss_cons (ps_if (PW.pt (pw_or (pt_not (pt_val (pe_callB (r := rIsi K) call_isi (by rfl) T.z_isinstance (by decide +kernel) (pa_cons (pv 3) (pa_cons (pe_bltn (v := .ty "str") (by rfl) T.z_str (by decide +kernel) rfl) pa_nil))))) (pw_or1 (pt_cmpR (r := Ov.rInKd K (He.ga K "ARMS") true) (op_notIn_kd D_ARMS) (pv 3) (pe_glob (v := .ref (He.ga K "ARMS")) (by rfl) T.g_ARMS rfl) (by first | rfl | exact nomark _))))) (pss_one (ps_ret pe_bl)) pss_nil)
      (Evl.pss_cut (ps_if (pt_cmpR (r := Ov.rInKd K (He.ga K "GIVEN") true) (op_notIn_kd D_GIVEN) (pv 3) (pe_glob (v := .ref (He.ga K "GIVEN")) (by rfl) T.g_GIVEN rfl) (by first | rfl | exact nomark _)) (pss_one (ps_set (i := 4) sc_word_fits.nd rfl (by first | exact Or.inl rfl | exact Or.inr rfl) pe_int)) (pss_one (ps_if (PW.pt (pw_and (pt_cmpR op_gt (pe_callB (r := Evl.rLenS K) call_len_seq (by rfl) T.z_len PySem.boot_len (pa_cons (pv 0) pa_nil)) pe_int (nomark _)) (pw_and1 (pt_val (pe_call G_given_fits (hr.mono (by omega)) (by rfl) T.g_given_fits T.kp_given_fits T.b_given_fits .nil pass0 (pa_cons (pe_ix (r := rIxD K w) ix_kdict (pe_glob (v := .ref (He.ga K "GIVEN")) (by rfl) T.g_GIVEN rfl) (pv 3) (fun _ _ => rfl)) (pa_cons (pe_ix (r := rIxT K) ix_tup (pv 0) pe_int (fun _ _ => rfl)) (pa_cons (pv 1) pa_nil)))))))) (pss_one (ps_set (i := 4) sc_word_fits.nd rfl (by first | exact Or.inl rfl | exact Or.inr rfl) pe_int)) (pss_one (ps_ret pe_bl)))))
      (pss_cons (ps_if (pt_cmpR op_ne (pe_callB (r := Evl.rLenS K) call_len_seq (by rfl) T.z_len PySem.boot_len (pa_cons (pv 0) pa_nil)) (pe_op op_add (pv 4) (pe_ix (r := rIxD K w) ix_kdict (pe_glob (v := .ref (He.ga K "ARMS")) (by rfl) T.g_ARMS rfl) (pv 3) (fun _ _ => rfl))) (nomark _)) (pss_one (ps_ret pe_bl)) pss_nil)
      (pss_one (ps_ret (pe_callB (r := rAll K) (cr_all rfl) (by rfl) T.z_all (by decide +kernel) (pa_cons (pe_lc (own := [("arm", 5)]) rfl sc_word_fits.nd (Ov.pi_tupK (K := K) rfl (pe_call G_arms_of (hr.mono (by omega)) (by rfl) T.g_arms_of T.kp_arms_of T.b_arms_of .nil pass0 (pa_cons (pv 0) pa_nil))) (blkOk_by (own := [("arm", 5)]) (N := ["word", "functions", "around", "name", "ahead", "arm"]) (sc := defScope s_word_fits) (by decide +kernel)) (fun _ _ _ _ _ => (pg_name (i := 5) sc_word_fits.nd rfl (by first | exact Or.inl rfl | exact Or.inr rfl))) (fun _ _ _ _ _ => pts_nil) (fun _ _ _ _ _ => (pe_call G_word_fits (hr.mono (by omega)) (by rfl) T.g_word_fits T.kp_word_fits T.b_word_fits .nil pass0 (pa_cons (pv 5) (pa_cons (pv 1) (pa_cons (pe_op op_add (pv 2) pe_int) pa_nil)))))) pa_nil))))))))), ?_⟩
  have e6 : decide ((6 : Int) < r) = false := decide_eq_false (by omega)
  have hn : (.str o.name :: (o.pre g ++ vs) : List V).length = 1 + (o.pre g).length + o.arity := by rw [List.length_cons, List.length_append, hlen, h1]; omega
  have l0 : decide (V.int (((.str o.name :: (o.pre g ++ vs) : List V).length : Nat) : Int) = V.int 0) = false := decide_eq_false fun z => by
    have z1 := V.int.inj z
    rw [hn] at z1
    omega
  refine ⟨_, rfl, r, 6, rfl, rfl, _, rfl, ?_⟩
  rw [e6]
  refine iteF ⟨_, rfl, _, .ty "tuple", .type "tuple", .type "tuple", true, rfl, .ty _, .base (.tup ha), k_tuple_tuple, true, rfl, ?_⟩
  refine iteF ⟨_, rfl, a, _, rfl, .inr (SqT.of ha), rfl, _, rfl, ?_⟩
  rw [l0]
  refine iteF ?_
  refine ⟨_, rfl, a, _, 0, .str o.name, rfl, rfl, SqT.of ha, atI_nat (j := 0) rfl, ?_⟩
  refine ⟨_, rfl, .str o.name, .ty "str", .type "str", .type "str", true, rfl, .ty _, .base (.str _), k_str_str, true, rfl, ?_⟩
  refine iteF ⟨_, rfl, o.name, ra, rfl, rfl, ra1, _, rfl, ?_⟩
  rw [ra2]
  refine iteF ?_
  have epre : (o.pre g).length = if o.gives then 1 else 0 := by
    unfold Op.pre
    split <;> rfl
  refine ⟨fun σ' H' => σ' = [some (.ref a), some (.int (n : Int)), some (.int r), some (.str o.name), some (.int ((1 + (o.pre g).length : Nat) : Int)), none] ∧ H' = H, ?_, ?_⟩
  · refine ⟨_, rfl, o.name, rg, rfl, rfl, rg1, _, rfl, ?_⟩
    show if (!rg.isSome) = true then _ else _
    rw [rg2]
    cases hg : o.gives with
    | false =>
      refine ⟨?_, rfl⟩
      rw [epre, hg]
      rfl
    | true =>
      have egp : o.pre g = [.int g] := by unfold Op.pre; rw [hg]; rfl
      have l1 : decide ((1 : Int) < (((.str o.name :: (o.pre g ++ vs) : List V).length : Nat) : Int)) = true := decide_eq_true (by rw [hn, egp, List.length_singleton]; omega)
      refine ⟨_, rfl, a, _, rfl, .inr (SqT.of ha), _, 1, rfl, rfl, _, rfl, ?_⟩
      show if decide ((1 : Int) < (((.str o.name :: (o.pre g ++ vs) : List V).length : Nat) : Int)) = true then _ else _
      rw [l1]
      refine ⟨_, rfl, _, o.name, .str (gword o), rfl, rfl, given_at T o hg, _, rfl, a, _, 1, .int g, rfl, rfl, SqT.of ha, atI_nat (j := 1) (by rw [egp]; rfl), _, rfl, o, g, n, rfl, hg, h2, true, rfl, ?_⟩
      refine ⟨?_, rfl⟩
      rw [epre, hg]
      rfl
  rintro σ1 H1 ⟨rfl, rfl⟩
  have lne : (!decide (V.int (((.str o.name :: (o.pre g ++ vs) : List V).length : Nat) : Int) = V.int (((1 + (o.pre g).length : Nat) : Int) + (o.arity : Int)))) = false := by
    rw [decide_eq_true (congrArg V.int (by rw [hn]; omega))]
    rfl
  refine ⟨_, rfl, a, _, rfl, .inr (SqT.of ha), _, rfl, _, rfl, _, o.name, _, rfl, rfl, arms_at T o, _, _, rfl, rfl, rfl, _, rfl, ?_⟩
  rw [lne]
  refine iteF ?_
  refine ⟨_, rfl, a, o, g, vs, rfl, ⟨ha, hlen.trans h1⟩, fun p hp => ⟨p, rfl, ⟨_, SqT.of upd_same⟩, fun D hD => ?_⟩⟩
  have npD : p ≠ D := ne_of_none upd_same hD
  have sp := Same.new (o := .tup vs) hp
  refine lc_tupY (K := K) (a := p) (xs := vs) (fun i H' => Same H1 H' ∧ H' p = some (.tup vs) ∧ H' D = some (.lst ((List.replicate i true).map V.bl))) ⟨sp.trans (Same.new hD), by rw [upd_ne npD, upd_same], upd_same⟩ (fun i H' _ e => SqT.of e.2.1) ?_ ?_
  · rintro i x H2 hi ⟨s2, p2, e2⟩
    obtain ⟨u, hu, hxu⟩ := WsAt.get hs hi
    have hiv := (List.getElem?_eq_some_iff.mp hi).1
    have hv3 : vs.length ≤ 3 := by rw [hlen, h1]; cases o <;> decide
    have hD1 : H1 D = none := Same.free sp hD
    refine ⟨rfl, _, rfl, _, rfl, _, rfl, r, 1, rfl, rfl, x, n, u, r + 1, rfl, hxu.keep (Keep.same s2), h3 u (List.mem_of_getElem? hu), by omega, by omega, fun H3 s3 => ⟨_, s3 _ _ e2, sm _ (by rw [List.length_map, List.length_replicate]; omega), Ov.Same.updn (s2.trans s3) hD1, by rw [upd_ne npD]; exact s3 _ _ p2, ?_⟩⟩
    rw [upd_same, List.replicate_succ', List.map_append]
    rfl
  · rintro H2 ⟨s2, p2, e2⟩
    refine ⟨D, _, rfl, SqL.of e2, ?_⟩
    have eall : (List.replicate vs.length true).all id = true := by simp
    show Q (.bl ((List.replicate vs.length true).all id)) H2
    rw [eall]
    exact q H2 s2
theorem ok_word_fits (T : Txt w K mg) : ∀ d : Nat, FnOk P w K mg base CX0 (d + 2) (He.ga K "word_fits") (fdOf K d_word_fits) ["word", "functions", "around"] (spWordFits d)
  | 0 => fn0 fun vs H Q E ⟨_, _, _, _, _, _, h, _⟩ => nomatch h
  | d + 1 => ok_word_fitsS T (ok_word_fits T d)
theorem sc_function_fits : FnScope ["function", "functions", "size", "body"] ["function", "functions"] (defScope s_function_fits) := ⟨rfl, rfl, rfl, by decide +kernel, rfl, by decide +kernel, by decide +kernel⟩
-- 0 function, 1 functions, 2 size, 3 body
theorem ok_function_fits (T : Txt w K mg) : FnOk P w K mg base CX0 10 (He.ga K "function_fits") (fdOf K d_function_fits) ["function", "functions"] spFunctionFits := by
  have G_between := ok_between (P := P) (base := base) T
  have G_word_fits := ok_word_fits (P := P) (base := base) T 7
  have G_words_of := ok_words_of (P := P) (base := base) T
  refine T.F_function_fits.ok sc_function_fits (fun vs H Q E h => ?_) (fun cdv A outer s H vs Q E hr h => ?_)
  · obtain ⟨v, n, f, rfl, _⟩ := h
    rfl
  obtain ⟨v, n, f, rfl, ⟨b, bv, rfl, hb, hw⟩, ⟨f1, f8, fk, fz⟩, q⟩ := h
  refine ⟨_, PSs.nox (pss_cons (ps_if (PW.pt (pw_or (pt_not (pt_val (pe_callB (r := rIsi K) call_isi (by rfl) T.z_isinstance (by decide +kernel) (pa_cons (pv 0) (pa_cons (pe_bltn (v := .ty "tuple") (by rfl) T.z_tuple (by decide +kernel) rfl) pa_nil))))) (pw_or1 (pt_cmpR op_ne (pe_callB (r := Evl.rLenS K) call_len_seq (by rfl) T.z_len PySem.boot_len (pa_cons (pv 0) pa_nil)) pe_int (nomark _))))) (pss_one (ps_ret pe_bl)) pss_nil)
      (pss_cons (ps_asg (pv 0) (Ov.pg_tupK (K := K) (n := 2) rfl rfl (pgs_cons (pg_name (i := 2) sc_function_fits.nd rfl (by first | exact Or.inl rfl | exact Or.inr rfl)) (pgs_cons (pg_name (i := 3) sc_function_fits.nd rfl (by first | exact Or.inl rfl | exact Or.inr rfl)) pgs_nil))))
      (pss_cons (ps_if (PW.pt (pw_or (pt_not (pt_val (pe_call G_between (hr.mono (by omega)) (by rfl) T.g_between T.kp_between T.b_between .nil pass0 (pa_cons (pv 2) (pa_cons pe_int (pa_cons (pe_glob (v := .int 8) (by rfl) T.i_MOST_CELLS.choose_spec ⟨_, rfl⟩) pa_nil)))))) (pw_or1 (pt_not (pt_val (pe_call G_word_fits (hr.mono (by omega)) (by rfl) T.g_word_fits T.kp_word_fits T.b_word_fits .nil pass0 (pa_cons (pv 3) (pa_cons (pv 1) (pa_cons pe_int pa_nil))))))))) (pss_one (ps_ret pe_bl)) pss_nil)
      (pss_one (ps_ret (pe_cmpR op_le (pe_callB (r := Evl.rLenS K) call_len_seq (by rfl) T.z_len PySem.boot_len (pa_cons (pe_call G_words_of (hr.mono (by omega)) (by rfl) T.g_words_of T.kp_words_of T.b_words_of .nil pass0 (pa_cons (pv 3) pa_nil)) pa_nil)) (pe_glob (v := .int 40) (by rfl) T.i_MOST_WORDS.choose_spec ⟨_, rfl⟩) (nomark _))))))), ?_⟩
  refine ⟨_, rfl, _, .ty "tuple", .type "tuple", .type "tuple", true, rfl, .ty _, .base (.tup hb), k_tuple_tuple, true, rfl, ?_⟩
  refine iteF ⟨_, rfl, b, _, rfl, .inr (SqT.of hb), rfl, _, rfl, iteNS rfl ?_⟩
  refine ⟨_, rfl, b, _, rfl, SqT.of hb, rfl, _, _, rfl, _, _, rfl, rfl, ?_⟩
  refine ⟨_, rfl, f.1, 1, 8, rfl, _, rfl, ?_⟩
  rw [decide_eq_true (show (1 : Int) ≤ f.1 ∧ f.1 ≤ 8 from ⟨f1, f8⟩)]
  refine iteF ⟨_, rfl, _, rfl, bv, n, f.2, 0, rfl, hw, fk, by omega, by decide, fun H1 s1 => ⟨true, rfl, iteF ?_⟩⟩
  have hw1 := hw.keep (Keep.same s1)
  refine ⟨_, rfl, bv, n, f.2, rfl, hw1, fk, by omega, fun H2 p ys s2 hp he hr2 => ⟨p, ys, rfl, .inl (SqL.of he), _, 40, rfl, rfl, ?_⟩⟩
  have hl := Paired.length hr2
  rw [W.rows_len] at hl
  have e : decide ((ys.length : Int) ≤ 40) = true := decide_eq_true (by omega)
  show Q (.bl (decide ((ys.length : Int) ≤ 40))) H2
  rw [e]
  exact q H2 (s1.trans s2)
theorem sc_check_program : FnScope ["program", "number", "function"] ["program"] (defScope s_check_program) := ⟨rfl, rfl, rfl, by decide +kernel, rfl, by decide +kernel, by decide +kernel⟩
-- 0 program, 1 number, 2 function
theorem ok_check_program (T : Txt w K mg) : FnOk P w K mg base CX0 11 (He.ga K "check_program") (fdOf K d_check_program) ["program"] spCheckProgram := by
  have G_function_fits := ok_function_fits (P := P) (base := base) T
  refine T.F_check_program.ok sc_check_program (fun vs H Q E h => ?_) (fun cdv A outer s H vs Q E hr h => ?_)
  · obtain ⟨v, p, rfl, _⟩ := h
    rfl
  obtain ⟨v, p, rfl, ⟨a, vs, rfl, ha, hf⟩, ok, q⟩ := h
  have hl := Paired.length hf
  have l1 := ok.l1
  have l8 := ok.l8
  refine ⟨_, PSs.nox (pss_cons (ps_if (pt_cmpR op_eq (pe_callB (r := Evl.rLenS K) call_len_seq (by rfl) T.z_len PySem.boot_len (pa_cons (pv 0) pa_nil)) pe_int (nomark _)) (pss_one ps_never) pss_nil)
      (pss_one (ps_for PassesOwn.never rfl (Ov.pi_en (K := K) .t rfl (by rfl) T.z_enumerate (pa_cons (pv 0) pa_nil)) (Ov.pg_tupK (K := K) (n := 2) rfl rfl (pgs_cons (pg_name (i := 1) sc_check_program.nd rfl (by first | exact Or.inl rfl | exact Or.inr rfl)) (pgs_cons (pg_name (i := 2) sc_check_program.nd rfl (by first | exact Or.inl rfl | exact Or.inr rfl)) pgs_nil))) (pss_one (ps_if (PW.pt (pw_or (pt_cmpR op_ge (pv 1) (pe_glob (v := .int 8) (by rfl) T.i_MOST_FUNCTIONS.choose_spec ⟨_, rfl⟩) (nomark _)) (pw_or1 (pt_not (pt_val (pe_call G_function_fits (hr.mono (by omega)) (by rfl) T.g_function_fits T.kp_function_fits T.b_function_fits .nil pass0 (pa_cons (pv 2) (pa_cons (pe_callB (r := Evl.rLenS K) call_len_seq (by rfl) T.z_len PySem.boot_len (pa_cons (pv 0) pa_nil)) pa_nil)))))))) (pss_one ps_never) pss_nil))))), ?_⟩
  have e0 : decide (V.int ((vs.length : Nat) : Int) = V.int 0) = false := decide_eq_false fun z => by
    have z1 := V.int.inj z
    omega
  refine ⟨_, rfl, a, vs, rfl, .inr (SqT.of ha), rfl, _, rfl, ?_⟩
  rw [e0]
  refine iteF ?_
  refine ⟨_, rfl, a, vs, rfl, SqT.of ha, for_it (walk_en (K := K) (k := .t) (a := a) (xs := vs)) (fun i σ H' => ∃ y1 y2 : Option V, σ = [some (.ref a), y1, y2] ∧ Same H H') ⟨none, none, rfl, Same.refl H⟩ (fun i σ H' _ ⟨_, _, _, s⟩ => SqT.of (s _ _ ha)) ?_ ?_⟩
  · rintro i x σ H1 H2 hi ⟨y1, y2, rfl, s1⟩ ⟨t, x1, x2, rfl, ht, rfl, e1, e2⟩
    have e1' := Option.some.inj e1
    subst e1'
    have s2 := s1.trans (Same.new (o := .tup [.int (i : Nat), x2]) ht)
    obtain ⟨f, hf1, hf2⟩ := Paired.get2 hf e2
    refine ⟨t, _, rfl, SqT.of upd_same, rfl, _, _, rfl, _, _, rfl, rfl, ?_⟩
    have e8 : decide ((8 : Int) ≤ (i : Int)) = false := decide_eq_false (by omega)
    refine ⟨_, rfl, _, 8, rfl, rfl, _, rfl, ?_⟩
    rw [e8]
    refine iteF ?_
    refine ⟨_, rfl, _, rfl, a, vs, rfl, .inr (SqT.of (s2 _ _ ha)), x2, vs.length, f, rfl, hf2.keep (Keep.same s2), by rw [hl]; exact ok.f f (List.mem_of_getElem? hf1), fun H3 s3 => ⟨true, rfl, iteF ?_⟩⟩
    exact ⟨_, _, rfl, s2.trans s3⟩
  · rintro σ H1 ⟨y1, y2, rfl, s1⟩
    exact q H1 s1
end
end K19

namespace K19
open PySem PySem.Spec PyProof.Rows L2 Ov
section
variable {P : Program} {w : World} {K : PySem.W.Frag} {mg : Str → Option Value} {base : Heap}
theorem arms_num (T : Txt w K mg) {n : Nat} (h : n < 100) : PySem.W.nsIn K (He.ga K "ARMS") (numS n) = some none := He.eqO_ok (List.all_eq_true.mp T.num_ARMS n (List.mem_range.mpr h))
theorem sc_may_stand : FnScope ["word", "kind"] ["word", "kind"] (defScope s_may_stand) := ⟨rfl, rfl, rfl, by decide +kernel, rfl, by decide +kernel, by decide +kernel⟩
-- 0 word, 1 kind
theorem ok_may_stand (T : Txt w K mg) : FnOk P w K mg base CX0 1 (He.ga K "may_stand") (fdOf K d_may_stand) ["word", "kind"] spMayStand := by
  refine T.F_may_stand.ok sc_may_stand (fun vs H Q E h => ?_) (fun cdv A outer s H vs Q E hr h => ?_)
  · obtain ⟨z, k, rfl, _⟩ := h
    rfl
  obtain ⟨z, k, rfl, h, q⟩ := h
  obtain ⟨_, _, D_ARMS⟩ := T.kd_ARMS
  refine ⟨_, PSs.nox (pss_cons (ps_if (pt_cmpR op_eq (pv 1) (pe_glob (v := .str "body") (by rfl) T.s_BODY.choose_spec ⟨_, rfl⟩) (nomark _)) (pss_one (ps_ret (pe_cmpR (r := Ov.rInKd K (He.ga K "ARMS") false) (op_in_kd D_ARMS) (pv 0) (pe_glob (v := .ref (He.ga K "ARMS")) (by rfl) T.g_ARMS rfl) (by first | rfl | exact nomark _)))) pss_nil)
      (pss_one (ps_ret (pe_and (Ov.pe_bm0K (K := K) rfl PySem.F.plainAttrs_str PySem.F.slot_str_isdigit PySem.F.type_str_isdigit mt_isdigit (pv 0)) (pe_and (pe_cmpR op_le (pe_callB call_len_str (by rfl) T.z_len PySem.boot_len (pa_cons (pv 0) pa_nil)) (pe_glob (v := .int 2) (by rfl) T.i_MOST_FIGURES.choose_spec ⟨_, rfl⟩) (nomark _)) (pe_one (pe_or (pe_cmpR op_eq (pv 0) pe_str (nomark _)) (pe_one (pe_cmpR op_ne (pe_ix (r := rIxS) ix_str (pv 0) pe_int (fun _ _ => rfl)) pe_str (nomark _)))))))))), ?_⟩
  rcases h with ⟨rfl, o, rfl⟩ | ⟨rfl, n, hn, rfl⟩
  · obtain ⟨ra, ra1, ra2⟩ := arms_in T o
    refine ⟨_, rfl, rfl, _, rfl, ?_⟩
    rw [show decide (V.str sBody = V.str "body") = true from decide_eq_true rfl]
    refine iteT ⟨_, rfl, o.name, ra, rfl, rfl, ra1, ?_⟩
    rw [ra2]
    exact q
  · obtain ⟨f1, f2, f3, f4, f5⟩ := num_facts hn
    refine ⟨_, rfl, rfl, _, rfl, ?_⟩
    rw [show decide (V.str sNum = V.str "body") = false by decide +kernel]
    refine iteF ?_
    refine ⟨_, rfl, rfl, _, rfl, rfl, trivial, _, congrArg V.bl f1, iteT ?_⟩
    refine ⟨_, rfl, _, rfl, Nat.le_trans f2 (by decide), _, _, rfl, rfl, true, congrArg V.bl (decide_eq_true (by omega)), iteT ?_⟩
    rcases f3 with f3 | ⟨c, hc, hne⟩
    · exact ⟨_, rfl, rfl, true, congrArg V.bl (decide_eq_true (congrArg V.str f3)), iteT q⟩
    · refine ⟨_, rfl, rfl, _, rfl, ite2 (fun _ => q) (fun _ => ?_)⟩
      refine ⟨_, rfl, _, _, c, rfl, rfl, Nat.le_trans f2 (by decide), hc, rfl, ?_⟩
      have e : (!decide (V.str (⟨#[c]⟩ : Str) = V.str "0")) = true := by
        rw [decide_eq_false (fun z => hne (V.str.inj z))]
        rfl
      rw [e]
      exact q
theorem sc_asked_by : FnScope ["word", "given"] ["word"] (defScope s_asked_by) := ⟨rfl, rfl, rfl, by decide +kernel, rfl, by decide +kernel, by decide +kernel⟩
-- 0 word, 1 given
theorem ok_asked_by (T : Txt w K mg) : FnOk P w K mg base CX0 1 (He.ga K "asked_by") (fdOf K d_asked_by) ["word"] spAskedBy := by
  refine T.F_asked_by.ok sc_asked_by (fun vs H Q E h => ?_) (fun cdv A outer s H vs Q E hr h => ?_)
  · obtain ⟨z, rfl, _⟩ := h
    rfl
  obtain ⟨z, rfl, h, q⟩ := h
  obtain ⟨_, _, D_ARMS⟩ := T.kd_ARMS
  obtain ⟨_, _, D_GIVEN⟩ := T.kd_GIVEN
  refine ⟨_, PSs.nox (pss_cons (ps_if (pt_cmpR (r := Ov.rInKd K (He.ga K "ARMS") true) (op_notIn_kd D_ARMS) (pv 0) (pe_glob (v := .ref (He.ga K "ARMS")) (by rfl) T.g_ARMS rfl) (by first | rfl | exact nomark _)) (pss_one (ps_ret (pe_lst pa_nil))) pss_nil)
      (pss_cons (ps_set (i := 1) sc_asked_by.nd rfl (by first | exact Or.inl rfl | exact Or.inr rfl) (pe_ifExp (pt_cmpR (r := Ov.rInKd K (He.ga K "GIVEN") false) (op_in_kd D_GIVEN) (pv 0) (pe_glob (v := .ref (He.ga K "GIVEN")) (by rfl) T.g_GIVEN rfl) (by first | rfl | exact nomark _)) (pe_lst (pa_cons (pe_glob (v := .str "number") (by rfl) T.s_NUMBER.choose_spec ⟨_, rfl⟩) pa_nil)) (pe_lst pa_nil)))
      (pss_one (ps_ret (pe_op op_cat (pe_op op_rep (pe_lst (pa_cons (pe_glob (v := .str "body") (by rfl) T.s_BODY.choose_spec ⟨_, rfl⟩) pa_nil)) (pe_ix (r := rIxD K w) ix_kdict (pe_glob (v := .ref (He.ga K "ARMS")) (by rfl) T.g_ARMS rfl) (pv 0) (fun _ _ => rfl))) (pv 1)))))), ?_⟩
  rcases h with ⟨o, rfl⟩ | ⟨n, hn, rfl⟩
  · obtain ⟨ra, ra1, ra2⟩ := arms_in T o
    obtain ⟨rg, rg1, rg2⟩ := given_in T o
    refine ⟨_, rfl, o.name, ra, rfl, rfl, ra1, _, rfl, ?_⟩
    rw [ra2]
    refine iteF ⟨_, rfl, o.name, rg, rfl, rfl, rg1, _, rfl, ?_⟩
    rw [rg2]
    rw [asksOf_name] at q
    have eb : (List.replicate ((o.arity : Int)).toNat [V.str "body"]).flatten = (List.replicate o.arity sBody).map V.str := by
      rw [Int.toNat_natCast, List.flatten_replicate_singleton, List.map_replicate]
      rfl
    have ar : o.arity ≤ 3 := by cases o <;> decide
    have tail : ∀ (H1 : Hp) (g : Addr) (gs : List Str), Same H H1 → H1 g = some (.lst (gs.map V.str)) → gs.length ≤ 1 → (∀ H' p, Same H H' → H p = none → H' p = some (.lst ((List.replicate o.arity sBody ++ gs).map V.str)) → Q (.ref p) H') →
        ∀ l1, H1 l1 = none → ∀ l2, (upd H1 l1 (.lst [V.str "body"])) l2 = none → ∀ p, (upd (upd H1 l1 (.lst [V.str "body"])) l2 (.lst (List.replicate ((o.arity : Int)).toNat [V.str "body"]).flatten)) p = none → Q (.ref p) (upd (upd (upd H1 l1 (.lst [V.str "body"])) l2 (.lst (List.replicate ((o.arity : Int)).toNat [V.str "body"]).flatten)) p (.lst ((List.replicate ((o.arity : Int)).toNat [V.str "body"]).flatten ++ gs.map V.str))) := fun H1 g gs s1 eg lg qq l1 h1 l2 h2 p hp => by
      have sA := (Same.new (o := .lst [V.str "body"]) h1).trans (Same.new (o := .lst (List.replicate ((o.arity : Int)).toNat [V.str "body"]).flatten) h2)
      refine qq _ p (s1.trans (sA.trans (Same.new hp))) (Same.free s1 (Same.free sA hp)) ?_
      rw [upd_same, eb, List.map_append]
    cases hg : o.gives with
    | true =>
      refine iteT ⟨sml 1, fun g hgn => ?_⟩
      have s1 := Same.new (o := .lst [V.str "number"]) hgn
      refine ⟨sml 1, fun l1 h1 => ⟨_, rfl, _, o.name, _, rfl, rfl, arms_at T o, l1, (o.arity : Int), _, rfl, rfl, upd_same, by omega, by omega, by show 1 * ((o.arity : Int)).toNat ≤ sizeLine; exact sml _ (by omega), fun l2 h2 => ⟨_, rfl, ?_⟩⟩⟩
      have sA := (Same.new (o := .lst [V.str "body"]) h1).trans (Same.new (o := .lst (List.replicate ((o.arity : Int)).toNat [V.str "body"]).flatten) h2)
      refine ⟨l2, g, _, _, rfl, rfl, upd_same, sA _ _ upd_same, sml _ (by rw [eb, List.length_map, List.length_replicate]; simp; omega), fun p hp => ?_⟩
      refine tail _ g [sNum] s1 upd_same (Nat.le_refl 1) (fun H' p s h e => q H' p s h ?_) l1 h1 l2 h2 p hp
      unfold Op.asks
      rw [hg]
      exact e
    | false =>
      refine iteF ⟨sml 0, fun g hgn => ?_⟩
      have s1 := Same.new (o := .lst []) hgn
      refine ⟨sml 1, fun l1 h1 => ⟨_, rfl, _, o.name, _, rfl, rfl, arms_at T o, l1, (o.arity : Int), _, rfl, rfl, upd_same, by omega, by omega, by show 1 * ((o.arity : Int)).toNat ≤ sizeLine; exact sml _ (by omega), fun l2 h2 => ⟨_, rfl, ?_⟩⟩⟩
      have sA := (Same.new (o := .lst [V.str "body"]) h1).trans (Same.new (o := .lst (List.replicate ((o.arity : Int)).toNat [V.str "body"]).flatten) h2)
      refine ⟨l2, g, _, _, rfl, rfl, upd_same, sA _ _ upd_same, sml _ (by rw [eb, List.length_map, List.length_replicate]; simp; omega), fun p hp => ?_⟩
      refine tail _ g [] s1 upd_same (Nat.zero_le 1) (fun H' p s h e => q H' p s h ?_) l1 h1 l2 h2 p hp
      unfold Op.asks
      rw [hg]
      exact e
  · refine ⟨_, rfl, numS n, none, rfl, rfl, arms_num T hn, _, rfl, iteT ⟨sml 0, fun p hp => ?_⟩⟩
    rw [asksOf_num hn] at q
    exact q _ p (Same.new hp) hp upd_same
theorem sc_check_row : FnScope ["row", "words", "lacking", "place", "word"] ["row", "words"] (defScope s_check_row) := ⟨rfl, rfl, rfl, by decide +kernel, rfl, by decide +kernel, by decide +kernel⟩
-- 0 row, 1 words, 2 lacking, 3 place, 4 word
theorem ok_check_row (T : Txt w K mg) : FnOk P w K mg base CX0 2 (He.ga K "check_row") (fdOf K d_check_row) ["row", "words"] spCheckRow := by
  have G_may_stand := ok_may_stand (P := P) (base := base) T
  have G_asked_by := ok_asked_by (P := P) (base := base) T
  refine T.F_check_row.ok sc_check_row (fun vs H Q E h => ?_) (fun cdv A outer s H vs Q E hr h => ?_)
  · obtain ⟨r, a, ts, rfl, _⟩ := h
    rfl
  obtain ⟨r, a, ts, rfl, ha, hok, hl, q⟩ := h
  refine ⟨_, PSs.nox (pss_cons (ps_set (i := 2) sc_check_row.nd rfl (by first | exact Or.inl rfl | exact Or.inr rfl) (pe_lst (pa_cons (pe_glob (v := .str "body") (by rfl) T.s_BODY.choose_spec ⟨_, rfl⟩) (pa_cons (pe_glob (v := .str "number") (by rfl) T.s_NUMBER.choose_spec ⟨_, rfl⟩) pa_nil))))
      (pss_cons (ps_for PassesOwn.never rfl (Ov.pi_en (K := K) .l rfl (by rfl) T.z_enumerate (pa_cons (pv 1) pa_nil)) (Ov.pg_tupK (K := K) (n := 2) rfl rfl (pgs_cons (pg_name (i := 3) sc_check_row.nd rfl (by first | exact Or.inl rfl | exact Or.inr rfl)) (pgs_cons (pg_name (i := 4) sc_check_row.nd rfl (by first | exact Or.inl rfl | exact Or.inr rfl)) pgs_nil))) (pss_cons (ps_if (PW.pt (pw_or (pt_cmpR op_eq (pe_callB (r := Evl.rLenS K) call_len_seq (by rfl) T.z_len PySem.boot_len (pa_cons (pv 2) pa_nil)) pe_int (nomark _)) (pw_or1 (pt_not (pt_val (pe_call G_may_stand (hr.mono (by omega)) (by rfl) T.g_may_stand T.kp_may_stand T.b_may_stand .nil pass0 (pa_cons (pv 4) (pa_cons (Ov.pe_bm0K (K := K) rfl PySem.F.plainAttrs_list PySem.F.slot_list_pop PySem.F.type_list_pop mt_pop (pv 2)) pa_nil)))))))) pss_never pss_nil)
      (pss_one (ps_expr (Ov.pe_bmK (K := K) rfl PySem.F.plainAttrs_list PySem.F.slot_list_extend PySem.F.type_list_extend mt_extend (pv 2) (pa_cons (pe_call G_asked_by (hr.mono (by omega)) (by rfl) T.g_asked_by T.kp_asked_by T.b_asked_by .nil pass0 (pa_cons (pv 4) pa_nil)) pa_nil))))))
      (pss_one (ps_if (pt_cmpR op_gt (pe_callB (r := Evl.rLenS K) call_len_seq (by rfl) T.z_len PySem.boot_len (pa_cons (pv 2) pa_nil)) pe_int (nomark _)) pss_never pss_nil)))), ?_⟩
  refine ⟨sml 2, fun L hL => ?_⟩
  have s1 := Same.new (o := .lst [V.str "body", V.str "number"]) hL
  refine ⟨_, rfl, a, _, rfl, SqL.of (s1 _ _ ha), for_it (walk_en (K := K) (k := .l) (a := a) (xs := ts.map V.str)) (fun i σ H' => ∃ (y3 y4 : Option V) (need : List Str), σ = [some r, some (.ref a), some (.ref L), y3, y4] ∧ Same H H' ∧ H' L = some (.lst (need.map V.str)) ∧ OkT need (ts.drop i)) ⟨none, none, [sBody, sNum], rfl, s1, upd_same, hok⟩ (fun i σ H' _ ⟨_, _, _, _, z, _⟩ => SqL.of (z _ _ ha)) ?_ ?_⟩
  · rintro i x σ H1 H2 hi ⟨y3, y4, need, rfl, s1, eL, hn⟩ ⟨t, x1, x2, rfl, ht, rfl, e1, e2⟩
    have e1' := Option.some.inj e1
    subst e1'
    obtain ⟨z, hz, rfl⟩ := strs_get e2
    rw [List.length_map] at hi
    have s12 := Same.new (o := .tup [.int (i : Nat), .str z]) ht
    have s2 := s1.trans s12
    have eL2 := s12 _ _ eL
    have hd : ts.drop i = z :: ts.drop (i + 1) := drop_get hz
    rw [hd] at hn
    obtain ⟨b, k, rfl, hk, hn2⟩ := hn.inv
    have hnl := mem_need hn2
    rw [List.length_drop] at hnl
    have hml : ((b ++ [k]).map V.str).length = b.length + 1 := by rw [List.length_map, List.length_append]; rfl
    refine ⟨t, _, rfl, SqT.of upd_same, rfl, _, _, rfl, _, _, rfl, rfl, ?_⟩
    refine ⟨_, rfl, L, _, rfl, .inl (SqL.of eL2), rfl, _, rfl, ?_⟩
    rw [hml, show decide (V.int ((b.length + 1 : Nat) : Int) = V.int 0) = false from decide_eq_false fun z => by have := V.int.inj z; omega]
    refine iteF ?_
    refine ⟨_, rfl, _, rfl, .inl ⟨rfl, _, SqL.of eL2⟩, L, _, .str k, rfl, rfl, eL2, ?_, z, k, rfl, hk, ?_⟩
    · rw [hml, Nat.add_sub_cancel, List.getElem?_map, List.getElem?_append_right (Nat.le_refl _), Nat.sub_self]
      rfl
    refine ⟨_, rfl, iteF ?_⟩
    have edl : ((b ++ [k]).map V.str).dropLast = b.map V.str := by rw [List.map_append]; exact List.dropLast_concat
    rw [edl]
    have nLa : a ≠ L := ne_of_none ha hL
    have s3 : Same H (upd (upd H1 t (.tup [.int (i : Nat), .str z])) L (.lst (b.map V.str))) := Ov.Same.updn s2 hL
    have eL3 : (upd (upd H1 t (.tup [.int (i : Nat), .str z])) L (.lst (b.map V.str))) L = some (.lst (b.map V.str)) := upd_same
    generalize upd (upd H1 t (.tup [.int (i : Nat), .str z])) L (.lst (b.map V.str)) = H3 at s3 eL3 ⊢
    have itz : IsTok z := by
      rcases hk with ⟨_, o, e⟩ | ⟨_, n, h1, e⟩
      · exact .inl ⟨o, e⟩
      · exact .inr ⟨n, h1, e⟩
    refine ⟨_, rfl, .inl ⟨rfl, _, SqL.of eL3⟩, _, rfl, z, rfl, itz, fun H4 p s4 hp ep => ?_⟩
    have hal : (asksOf z).length ≤ 4 := by
      rcases itz with ⟨o, e⟩ | ⟨n, hn', e⟩
      · rw [e, asksOf_name, asks_len]; cases o <;> decide
      · rw [e, asksOf_num hn']; decide
    rw [List.length_append] at hnl
    refine ⟨L, p, _, _, rfl, rfl, s4 _ _ eL3, ep, sml _ (by rw [List.length_map, List.length_map]; omega), ?_⟩
    refine ⟨_, _, b ++ asksOf z, rfl, Ov.Same.updn (s3.trans s4) hL, by rw [upd_same, List.map_append], hn2⟩
  · rintro σ H1 ⟨y3, y4, need, rfl, s1, eL, hn⟩
    rw [List.length_map, List.drop_length] at hn
    have := hn.end_
    subst this
    refine ⟨_, rfl, L, _, rfl, .inl (SqL.of eL), _, _, rfl, rfl, _, rfl, ?_⟩
    rw [show decide ((0 : Int) < ((([] : List Str).map V.str).length : Nat)) = false from by decide]
    exact iteF (q H1 s1)
theorem sc_read_row : FnScope ["words", "done", "word", "begin", "within", "body", "size"] ["words"] (defScope s_read_row) := ⟨rfl, rfl, rfl, by decide +kernel, rfl, by decide +kernel, by decide +kernel⟩
-- 0 words, 1 done, 2 word, 3 begin, 4 within, 5 body, 6 size
theorem ok_read_row (T : Txt w K mg) : FnOk P w K mg base CX0 2 (He.ga K "read_row") (fdOf K d_read_row) ["words"] spReadRow := by
  have G_asked_by := ok_asked_by (P := P) (base := base) T
  obtain ⟨_, _, D_ARMS⟩ := T.kd_ARMS
  refine T.F_read_row.ok sc_read_row (fun vs H Q E h => ?_) (fun cdv A outer s H vs Q E hr h => ?_)
  · obtain ⟨a, n, f, rfl, _⟩ := h
    rfl
  obtain ⟨a, n, f, rfl, ha, hf, hn8, q⟩ := h
  refine ⟨_, PSs.nox (pss_cons (ps_set (i := 1) sc_read_row.nd rfl (by first | exact Or.inl rfl | exact Or.inr rfl) (pe_lst pa_nil))
      (pss_cons (ps_for PassesOwn.never rfl (Ov.pi_listK (K := K) rfl (Ov.pe_revLK (K := K) rfl (pv 0))) (pg_name (i := 2) sc_read_row.nd rfl (by first | exact Or.inl rfl | exact Or.inr rfl)) (pss_one (ps_if (pt_cmpR (r := Ov.rInKd K (He.ga K "ARMS") false) (op_in_kd D_ARMS) (pv 2) (pe_glob (v := .ref (He.ga K "ARMS")) (by rfl) T.g_ARMS rfl) (by first | rfl | exact nomark _)) (pss_cons (ps_set (i := 3) sc_read_row.nd rfl (by first | exact Or.inl rfl | exact Or.inr rfl) (pe_op op_sub (pe_callB (r := Evl.rLenS K) call_len_seq (by rfl) T.z_len PySem.boot_len (pa_cons (pv 1) pa_nil)) (pe_callB (r := Evl.rLenS K) call_len_seq (by rfl) T.z_len PySem.boot_len (pa_cons (pe_call G_asked_by (hr.mono (by omega)) (by rfl) T.g_asked_by T.kp_asked_by T.b_asked_by .nil pass0 (pa_cons (pv 2) pa_nil)) pa_nil))))
      (pss_cons (ps_set (i := 4) sc_read_row.nd rfl (by first | exact Or.inl rfl | exact Or.inr rfl) (pe_slice (r := rSlL K) sl_list (pv 1) (po_some (pv 3)) po_none))
      (pss_cons (Ov.ps_delFrom (pv 1) (pv 3))
      (pss_one (ps_expr (Ov.pe_bmK (K := K) rfl PySem.F.plainAttrs_list PySem.F.slot_list_append PySem.F.type_list_append mt_append (pv 1) (pa_cons (pe_tup (pa_cons (pv 2) (StX.pa_star (Ov.pe_revLK (K := K) rfl (pv 4)) pa_nil))) pa_nil))))))) (pss_one (ps_expr (Ov.pe_bmK (K := K) rfl PySem.F.plainAttrs_list PySem.F.slot_list_append PySem.F.type_list_append mt_append (pv 1) (pa_cons (pe_callTy call_int_str (by rfl) T.z_int (by decide +kernel) (pa_cons (pv 2) pa_nil)) pa_nil)))))))
      (pss_cons (ps_asg (pv 1) (Ov.pg_lstK (K := K) (n := 2) rfl rfl (pgs_cons (pg_name (i := 5) sc_read_row.nd rfl (by first | exact Or.inl rfl | exact Or.inr rfl)) (pgs_cons (pg_name (i := 6) sc_read_row.nd rfl (by first | exact Or.inl rfl | exact Or.inr rfl)) pgs_nil))))
      (pss_one (ps_ret (pe_tup (pa_cons (pv 6) (pa_cons (pv 5) pa_nil)))))))), ?_⟩
  obtain ⟨hfine, hparse⟩ := rowT_fine hn8 hf
  have hlen := rowT_len hf
  have htok := (rowT_ok hn8 hf).isTok
  generalize rowT f = ts at ha hfine hparse hlen htok
  refine ⟨sml 0, fun D hD => ?_⟩
  have s0 := Same.new (o := .lst []) hD
  refine ⟨_, rfl, a, _, rfl, SqL.of (s0 _ _ ha), fun R hR => ⟨R, rfl, ⟨_, SqL.of upd_same⟩, ?_⟩⟩
  have sR := Same.new (o := .lst (ts.map V.str).reverse) hR
  have eD := sR _ _ (show upd H D (.lst []) D = some (.lst []) from upd_same)
  have eR : upd (upd H D (.lst [])) R (.lst (ts.map V.str).reverse) R = some (.lst (ts.map V.str).reverse) := upd_same
  have s1 := s0.trans sR
  have nRD : R ≠ D := (ne_of_none (show upd H D (.lst []) D = some (.lst []) from upd_same) hR).symm
  generalize upd (upd H D (.lst [])) R (.lst (ts.map V.str).reverse) = H1 at s1 eD eR ⊢
  have hrl : (ts.map V.str).reverse.length = ts.length := by rw [List.length_reverse, List.length_map]
  refine for_list (K := K) (a := R) (xs := (ts.map V.str).reverse) (fun i σ' H' => ∃ (y2 y3 y4 : Option V) (vs : List V), σ' = [some (.ref a), some (.ref D), y2, y3, y4, none, none] ∧ Same H H' ∧ H' R = some (.lst (ts.map V.str).reverse) ∧ H' D = some (.lst vs) ∧ ItsAt H' vs (parse (ts.drop (ts.length - i)))) ⟨none, none, none, [], rfl, s1, eR, eD, by rw [Nat.sub_zero, List.drop_length]; exact .nil⟩ (fun i σ' H' _ ⟨_, _, _, _, _, _, z, _⟩ => SqL.of z) ?_ ?_
  · rintro i x σ' H2 hi ⟨y2, y3, y4, vs, rfl, s2, eR2, eD2, hvs⟩
    have hil := (List.getElem?_eq_some_iff.mp hi).1
    rw [hrl] at hil
    rw [List.getElem?_reverse (by rw [List.length_map]; exact hil), List.length_map] at hi
    obtain ⟨t, ht, rfl⟩ := strs_get hi
    have hd : ts.drop (ts.length - (i + 1)) = t :: ts.drop (ts.length - i) := by
      have e1 : ts.length - (i + 1) = ts.length - 1 - i := by omega
      rw [e1, drop_get ht, show ts.length - 1 - i + 1 = ts.length - i by omega]
    have hfd := hfine.drop (ts.length - (i + 1))
    rw [hd] at hfd
    have hvl := hvs.length
    have hpl := parse_le (ts.drop (ts.length - i))
    rw [List.length_drop] at hpl
    rcases htok t (List.mem_of_getElem? ht) with ⟨o, rfl⟩ | ⟨m, hm, rfl⟩
    · have hcnt : o.cnt ≤ (parse (ts.drop (ts.length - i))).length := by
        generalize e : o.name :: ts.drop (ts.length - i) = l at hfd
        cases hfd with
        | nil => cases e
        | @word o' ts' h1 h2 =>
          injection e with e1 e2
          have : o' = o := by
            have z := opOf_name o'
            rw [← e1, opOf_name] at z
            exact (Option.some.inj z).symm
          rw [this] at h1
          rw [e2]
          exact h1
        | @num n' ts' h1 h2 =>
          injection e with e1 e2
          exact absurd e1 ((num_facts h1).2.2.2.2 o)
      have c4 : o.cnt ≤ 4 := by cases o <;> decide
      obtain ⟨ra, ra1, ra2⟩ := arms_in T o
      refine ⟨_, rfl, o.name, ra, rfl, rfl, ra1, _, rfl, ?_⟩
      rw [ra2]
      refine iteT ?_
      refine ⟨_, rfl, D, _, rfl, .inl (SqL.of eD2), _, rfl, o.name, rfl, .inl ⟨o, rfl⟩, fun H3 p s3 hp ep => ?_⟩
      rw [asksOf_name] at ep
      have epl : (o.asks.map V.str).length = o.cnt := by rw [List.length_map, asks_len]
      have eD3 := s3 _ _ eD2
      have hvs3 := hvs.keep (Keep.same s3)
      generalize hit : parse (ts.drop (ts.length - i)) = items at hvs3 hvl hcnt hpl hvs
      refine ⟨p, _, rfl, .inl (SqL.of ep), _, _, rfl, rfl, ?_⟩
      have eb : ((vs.length : Nat) : Int) - (((o.asks.map V.str).length : Nat) : Int) = ((vs.length - o.cnt : Nat) : Int) := by rw [epl]; omega
      refine ⟨_, rfl, _, rfl, ((vs.length - o.cnt : Nat) : Int), congrArg V.int eb, D, _, rfl, SqL.of eD3, fun Wn hW => ?_⟩
      rw [cut_from _ _ (Nat.sub_le _ _)]
      have sW := Same.new (o := .lst (vs.drop (vs.length - o.cnt))) hW
      have nWD : D ≠ Wn := ne_of_none eD3 hW
      refine ⟨_, rfl, _, rfl, D, _, vs.length - o.cnt, rfl, congrArg V.int eb, sW _ _ eD3, Nat.sub_le _ _, ?_⟩
      have kD := Keep.updL (ys := vs.take (vs.length - o.cnt)) (sW _ _ eD3)
      have s4 := Ov.Same.updn (o := .lst (vs.take (vs.length - o.cnt))) ((s2.trans s3).trans sW) hD
      have eW4 : upd (upd H3 Wn (.lst (vs.drop (vs.length - o.cnt)))) D (.lst (vs.take (vs.length - o.cnt))) Wn = some (.lst (vs.drop (vs.length - o.cnt))) := by rw [upd_ne nWD.symm]; exact upd_same
      have eD4 : upd (upd H3 Wn (.lst (vs.drop (vs.length - o.cnt)))) D (.lst (vs.take (vs.length - o.cnt))) D = some (.lst (vs.take (vs.length - o.cnt))) := upd_same
      have eR4 : upd (upd H3 Wn (.lst (vs.drop (vs.length - o.cnt)))) D (.lst (vs.take (vs.length - o.cnt))) R = some (.lst (ts.map V.str).reverse) := by rw [upd_ne nRD]; exact sW _ _ (s3 _ _ eR2)
      have hvs4 := hvs3.keep ((Keep.same sW).trans kD)
      generalize upd (upd H3 Wn (.lst (vs.drop (vs.length - o.cnt)))) D (.lst (vs.take (vs.length - o.cnt))) = H4 at s4 eW4 eD4 eR4 hvs4 ⊢
      refine ⟨_, rfl, .inl ⟨rfl, _, SqL.of eD4⟩, _, rfl, _, rfl, Wn, _, rfl, SqL.of eW4, fun V1 hV1 => ?_⟩
      have sV := Same.new (o := .lst (vs.drop (vs.length - o.cnt)).reverse) hV1
      have hdl : (vs.drop (vs.length - o.cnt)).reverse.length = o.cnt := by rw [List.length_reverse, List.length_drop]; omega
      refine ⟨V1, _, rfl, .inr (SqL.of upd_same), sml _ (by simp only [List.length_cons, List.length_append, List.length_nil]; omega), fun tp htp => ?_⟩
      have sT := Same.new (o := .tup (.str o.name :: ((vs.drop (vs.length - o.cnt)).reverse ++ []))) htp
      have sVT := sV.trans sT
      refine ⟨D, _, _, rfl, rfl, sVT _ _ eD4, sm _ (by rw [List.length_take]; omega), ?_⟩
      have kD2 := Keep.updL (ys := vs.take (vs.length - o.cnt) ++ [V.ref tp]) (sVT _ _ eD4)
      refine ⟨_, _, _, _, rfl, Ov.Same.updn (s4.trans sVT) hD, by rw [upd_ne nRD]; exact sVT _ _ eR4, upd_same, ?_⟩
      rw [hd, parse_word, hit, ← hvl]
      have hvs5 := hvs4.keep ((Keep.same sVT).trans kD2)
      refine (hvs5.take _).app (.cons (.node (kD2 _ _ ?_) (hvs5.drop _).reverse) .nil)
      rw [upd_same, List.append_nil]
    · refine ⟨_, rfl, numS m, none, rfl, rfl, arms_num T hm, _, rfl, iteF ?_⟩
      obtain ⟨f1, f2, f3, f4, f5⟩ := num_facts hm
      refine ⟨_, rfl, .inl ⟨rfl, _, SqL.of eD2⟩, _, rfl, numS m, _, rfl, f4, Nat.le_trans f2 (by decide), D, _, _, rfl, rfl, eD2, sm _ (by omega), ?_⟩
      have kD := Keep.updL (ys := vs ++ [V.int (m : Int)]) eD2
      refine ⟨_, _, _, _, rfl, Ov.Same.updn s2 hD, by rw [upd_ne nRD]; exact eR2, upd_same, ?_⟩
      rw [hd, parse_num hm]
      exact (hvs.keep kD).app (.cons .num .nil)
  · rintro σ' H2 ⟨y2, y3, y4, vs, rfl, s2, eR2, eD2, hvs⟩
    rw [hrl, Nat.sub_self, List.drop_zero, hparse] at hvs
    cases hvs with
    | cons h1 h2 =>
    cases h2 with
    | cons h3 h4 =>
    cases h4
    rename_i vb vs1
    cases h3
    refine ⟨_, rfl, D, _, rfl, SqL.of eD2, rfl, _, _, rfl, _, _, rfl, rfl, _, rfl, _, rfl, sml 2, fun tp htp => ?_⟩
    have sT := Same.new (o := .tup [.int ((f.1.toNat : Nat) : Int), vb]) htp
    have f1 := hf.1
    refine q _ _ (s2.trans sT) ⟨tp, vb, rfl, ?_, (ItAt.toW (by omega) hf.2.2.1 h1).keep (Keep.same sT)⟩
    rw [upd_same, show ((f.1.toNat : Nat) : Int) = f.1 by omega]
theorem sc_written_row : FnScope ["size", "body", "words", "name", "given", "_"] ["size", "body"] (defScope s_written_row) := ⟨rfl, rfl, rfl, by decide +kernel, rfl, by decide +kernel, by decide +kernel⟩
-- 0 size, 1 body, 2 words, 3 name, 4 given, 5 _
theorem ok_written_row (T : Txt w K mg) : FnOk P w K mg base CX0 12 (He.ga K "written_row") (fdOf K d_written_row) ["size", "body"] spWrittenRow := by
  have G_words_of := ok_words_of (P := P) (base := base) T
  refine T.F_written_row.ok sc_written_row (fun vs H Q E h => ?_) (fun cdv A outer s H vs Q E hr h => ?_)
  · obtain ⟨z, v, n, u, rfl, _⟩ := h
    rfl
  obtain ⟨z, v, n, u, rfl, hv, hf, hn8, q⟩ := h
  refine ⟨_, PSs.nox (pss_cons (ps_set (i := 2) sc_written_row.nd rfl (by first | exact Or.inl rfl | exact Or.inr rfl) (pe_lst (pa_cons (pe_callTy call_str_int (by rfl) T.z_str (by decide +kernel) (pa_cons (pv 0) pa_nil)) pa_nil)))
      (pss_cons (ps_for PassesOwn.never rfl (Ov.pi_listK (K := K) rfl (pe_call G_words_of (hr.mono (by omega)) (by rfl) T.g_words_of T.kp_words_of T.b_words_of .nil pass0 (pa_cons (pv 1) pa_nil))) (Ov.pg_tupK (K := K) (n := 3) rfl rfl (pgs_cons (pg_name (i := 3) sc_written_row.nd rfl (by first | exact Or.inl rfl | exact Or.inr rfl)) (pgs_cons (pg_name (i := 4) sc_written_row.nd rfl (by first | exact Or.inl rfl | exact Or.inr rfl)) (pgs_cons (pg_name (i := 5) sc_written_row.nd rfl (by first | exact Or.inl rfl | exact Or.inr rfl)) pgs_nil)))) (pss_cons (ps_expr (Ov.pe_bmK (K := K) rfl PySem.F.plainAttrs_list PySem.F.slot_list_append PySem.F.type_list_append mt_append (pv 2) (pa_cons (pv 3) pa_nil)))
      (pss_one (ps_if (pt_cmpR op_notN (pv 4) pe_non (nomark _)) (pss_one (ps_expr (Ov.pe_bmK (K := K) rfl PySem.F.plainAttrs_list PySem.F.slot_list_append PySem.F.type_list_append mt_append (pv 2) (pa_cons (pe_callTy call_str_int (by rfl) T.z_str (by decide +kernel) (pa_cons (pv 4) pa_nil)) pa_nil)))) pss_nil))))
      (pss_one (ps_ret (Ov.pe_bmK (K := K) rfl PySem.F.plainAttrs_str PySem.F.slot_str_join PySem.F.type_str_join mt_join pe_str (pa_cons (pv 2) pa_nil)))))), ?_⟩
  obtain ⟨f1, f2, f3, f4⟩ := id hf
  have f1 : (1 : Int) ≤ z := f1
  have f2 : z ≤ 8 := f2
  have f3 : WOk n 7 u := f3
  have f4 : u.size ≤ 40 := f4
  obtain ⟨m, rfl⟩ : ∃ m : Nat, z = (m : Int) := ⟨z.toNat, by omega⟩
  have lg : ((m : Int)).natAbs.log2 < 1920 := Small9.log (by unfold Small9; omega)
  refine ⟨_, rfl, (m : Int), rfl, lg, sml 1, fun D hD => ?_⟩
  have s0 := Same.new (o := .lst [V.str (toString (m : Int))]) hD
  refine ⟨_, rfl, v, n, u, rfl, hv.keep (Keep.same s0), f3, by omega, fun H1 p ys s1 hp ep hys => ⟨p, rfl, ⟨_, SqL.of ep⟩, ?_⟩⟩
  have hyl := Paired.length hys
  rw [W.rows_len] at hyl
  have nDp : p ≠ D := (ne_of_none upd_same hp).symm
  have s01 := s0.trans s1
  refine for_list (K := K) (a := p) (xs := ys) (fun i σ' H' => ∃ (y3 y4 y5 : Option V), σ' = [some (.int (m : Int)), some v, some (.ref D), y3, y4, y5] ∧ Same H H' ∧ H' p = some (.lst ys) ∧ Keep H1 H' ∧ H' D = some (.lst ((numS m :: ((u.rows 0).take i).flatMap fun r => r.1.toks r.2.1).map V.str))) ⟨none, none, none, rfl, s01, ep, Keep.refl _, by rw [List.take_zero]; exact s1 _ _ upd_same⟩ (fun i σ' H' _ ⟨_, _, _, _, _, z, _⟩ => SqL.of z) ?_ ?_
  · rintro i y σ' H2 hi ⟨y3, y4, y5, rfl, s2, ep2, k2, eD⟩
    obtain ⟨r, hr', t, ar, rfl, ht, har⟩ := Paired.get2 hys hi
    have hil := (List.getElem?_eq_some_iff.mp hi).1
    have hlen : (((u.rows 0).take i).flatMap fun r => r.1.toks r.2.1).length ≤ 2 * i := by
      have h1 : ∀ l : List (Op × Int × List Nat), (l.flatMap fun r => r.1.toks r.2.1).length ≤ 2 * l.length := fun l => by
        induction l with
        | nil => exact Nat.le_refl _
        | cons x l ih =>
          rw [List.flatMap_cons, List.length_append, List.length_cons]
          have e : (x.1.toks x.2.1).length ≤ 2 := by unfold Op.toks; split <;> simp
          omega
      have h2 := h1 ((u.rows 0).take i)
      rw [List.length_take] at h2
      omega
    have etk : ((u.rows 0).take (i + 1)).flatMap (fun r => r.1.toks r.2.1) = ((u.rows 0).take i).flatMap (fun r => r.1.toks r.2.1) ++ r.1.toks r.2.1 := by
      rw [List.take_add_one, hr', List.flatMap_append]
      show _ ++ (r.1.toks r.2.1 ++ []) = _
      rw [List.append_nil]
    have hg := row_fits f3 hr'
    obtain ⟨o, g, ns⟩ := r
    refine ⟨t, _, rfl, SqT.of (k2 _ _ ht), rfl, _, _, rfl, _, _, rfl, _, _, rfl, rfl, ?_⟩
    refine ⟨_, rfl, .inl ⟨rfl, _, SqL.of eD⟩, _, rfl, D, _, _, rfl, rfl, eD, sm _ (by rw [List.length_map, List.length_cons]; omega), ?_⟩
    have kD := Keep.updL (ys := (numS m :: ((u.rows 0).take i).flatMap fun r => r.1.toks r.2.1).map V.str ++ [V.str o.name]) eD
    have s3 := Ov.Same.updn (o := .lst ((numS m :: ((u.rows 0).take i).flatMap fun r => r.1.toks r.2.1).map V.str ++ [V.str o.name])) s2 hD
    have eD3 : upd H2 D (.lst ((numS m :: ((u.rows 0).take i).flatMap fun r => r.1.toks r.2.1).map V.str ++ [V.str o.name])) D = some (.lst ((numS m :: ((u.rows 0).take i).flatMap fun r => r.1.toks r.2.1).map V.str ++ [V.str o.name])) := upd_same
    have ep3 := (upd_ne (H := H2) (o := .lst ((numS m :: ((u.rows 0).take i).flatMap fun r => r.1.toks r.2.1).map V.str ++ [V.str o.name])) nDp).trans ep2
    have k3 := k2.trans kD
    generalize upd H2 D (.lst ((numS m :: ((u.rows 0).take i).flatMap fun r => r.1.toks r.2.1).map V.str ++ [V.str o.name])) = H3 at s3 eD3 ep3 k3 ⊢
    have hg : o.gives = true → 0 ≤ g ∧ g < 100 := fun h => gives_lt (n := n) (by omega) hg h
    by_cases h : o.gives = true
    · have hgv : o.gV g = .int g := by unfold Op.gV; rw [h]; rfl
      have hgg := hg h
      obtain ⟨j, rfl⟩ : ∃ j : Nat, g = (j : Int) := ⟨g.toNat, by omega⟩
      have lgj : ((j : Int)).natAbs.log2 < 1920 := Small9.log (by unfold Small9; omega)
      refine ⟨_, rfl, rfl, _, rfl, ?_⟩
      show if (!decide (o.gV (j : Int) = V.non)) = true then _ else _
      rw [hgv, show (!decide (V.int (j : Int) = V.non)) = true by rw [decide_eq_false (fun z => by cases z)]; rfl]
      refine iteT ⟨_, rfl, .inl ⟨rfl, _, SqL.of eD3⟩, _, rfl, (j : Int), rfl, lgj, D, _, _, rfl, rfl, eD3, sm _ (by rw [List.length_append, List.length_map, List.length_cons]; simp only [List.length_cons, List.length_nil]; omega), ?_⟩
      have kD4 := Keep.updL (ys := (numS m :: ((u.rows 0).take i).flatMap fun r => r.1.toks r.2.1).map V.str ++ [V.str o.name] ++ [V.str (toString (j : Int))]) eD3
      refine ⟨_, _, _, rfl, Ov.Same.updn s3 hD, by rw [upd_ne nDp]; exact ep3, k3.trans kD4, ?_⟩
      rw [etk, upd_same]
      show _ = some (HO.lst ((numS m :: (((u.rows 0).take i).flatMap (fun r => r.1.toks r.2.1) ++ o.toks (j : Int))).map V.str))
      have et : o.toks (j : Int) = [o.name, numS j] := by
        unfold Op.toks
        rw [if_pos h, Int.toNat_natCast]
      rw [et, List.append_assoc]
      simp only [List.map_cons, List.map_append, List.cons_append, List.nil_append, List.map_nil]
      rfl
    · have hgv : o.gV g = .non := by
        unfold Op.gV
        rw [if_neg h]
      refine ⟨_, rfl, rfl, _, rfl, ?_⟩
      show if (!decide (o.gV g = V.non)) = true then _ else _
      rw [hgv, show (!decide (V.non = V.non)) = false by rw [decide_eq_true rfl]; rfl]
      refine iteF ⟨_, _, _, rfl, s3, ep3, k3, ?_⟩
      rw [etk, eD3]
      have et : o.toks g = [o.name] := by
        unfold Op.toks
        rw [if_neg h]
      show _ = some (HO.lst ((numS m :: (((u.rows 0).take i).flatMap (fun r => r.1.toks r.2.1) ++ o.toks g)).map V.str))
      rw [et]
      simp only [List.map_cons, List.map_append, List.cons_append, List.map_nil]
  · rintro σ' H2 ⟨y3, y4, y5, rfl, s2, ep2, k2, eD⟩
    rw [hyl, show u.size = (u.rows 0).length from (W.rows_len 0 u).symm, List.take_length, W.toks_rows] at eD
    have hsum := rowT_sum hn8 hf
    refine ⟨rfl, _, rfl, spcS, D, numS m :: u.toks, rfl, rfl, .inl (SqL.of eD), Nat.le_trans hsum (by decide), q H2 s2⟩
theorem sc_written : FnScope ["program", "size", "body"] ["program"] (defScope s_written) := ⟨rfl, rfl, rfl, by decide +kernel, rfl, by decide +kernel, by decide +kernel⟩
-- 0 program, 1 size, 2 body
theorem ok_written (T : Txt w K mg) : FnOk P w K mg base CX0 13 (He.ga K "written") (fdOf K d_written) ["program"] spWritten := by
  have G_check_program := ok_check_program (P := P) (base := base) T
  have G_written_row := ok_written_row (P := P) (base := base) T
  refine T.F_written.ok sc_written (fun vs H Q E h => ?_) (fun cdv A outer s H vs Q E hr h => ?_)
  · obtain ⟨v, pr, rfl, _⟩ := h
    rfl
  obtain ⟨v, pr, rfl, hpr, hok, q⟩ := h
  refine ⟨_, PSs.nox (pss_cons (ps_expr (pe_call G_check_program (hr.mono (by omega)) (by rfl) T.g_check_program T.kp_check_program T.b_check_program .nil pass0 (pa_cons (pv 0) pa_nil)))
      (pss_one (ps_ret (Ov.pe_bmK (K := K) rfl PySem.F.plainAttrs_str PySem.F.slot_str_join PySem.F.type_str_join mt_join pe_str (pa_cons (pe_lc (own := [("size", 1), ("body", 2)]) rfl sc_written.nd (Ov.pi_tupK (K := K) rfl (pv 0)) (blkOk_by (own := [("size", 1), ("body", 2)]) (N := ["program", "size", "body"]) (sc := defScope s_written) (by decide +kernel)) (fun _ _ _ _ _ => (Ov.pg_tupK (K := K) (n := 2) rfl rfl (pgs_cons (pg_name (i := 1) sc_written.nd rfl (by first | exact Or.inl rfl | exact Or.inr rfl)) (pgs_cons (pg_name (i := 2) sc_written.nd rfl (by first | exact Or.inl rfl | exact Or.inr rfl)) pgs_nil)))) (fun _ _ _ _ _ => pts_nil) (fun _ _ _ _ _ => (pe_call G_written_row (hr.mono (by omega)) (by rfl) T.g_written_row T.kp_written_row T.b_written_row .nil pass0 (pa_cons (pv 1) (pa_cons (pv 2) pa_nil))))) pa_nil))))), ?_⟩
  have hpr0 := hpr
  obtain ⟨pa, vp, rfl, hpa, hpf⟩ := hpr
  have hpl : vp.length = pr.length := Paired.length hpf
  have l8 := hok.l8
  refine ⟨_, rfl, .ref pa, pr, rfl, hpr0, hok, fun H1 s1 => ?_⟩
  refine ⟨rfl, _, rfl, pa, rfl, ⟨_, SqT.of (s1 _ _ hpa)⟩, fun D hD => ?_⟩
  refine lc_tupY (K := K) (a := pa) (xs := vp) (fun i H' => Same H1 H' ∧ H' D = some (.lst (((pr.take i).map rowS).map V.str))) ⟨Same.new hD, upd_same⟩ (fun i H' _ e => SqT.of (e.1 _ _ (s1 _ _ hpa))) ?_ ?_
  · rintro i y H2 hi ⟨s2, eD⟩
    obtain ⟨f, hf, b, bv, rfl, hb, hw⟩ := Paired.get2 hpf hi
    have hil := (List.getElem?_eq_some_iff.mp hf).1
    have s12 := s1.trans s2
    refine ⟨b, _, rfl, SqT.of (s12 _ _ hb), rfl, _, _, rfl, _, _, rfl, rfl, rfl, _, rfl, _, rfl, f.1, bv, pr.length, f.2, rfl, hw.keep (Keep.same s12), hok.f f (List.mem_of_getElem? hf), l8, fun H3 s3 => ?_⟩
    refine ⟨_, s3 _ _ eD, sm _ (by rw [List.length_map, List.length_map, List.length_take]; omega), Ov.Same.updn (s2.trans s3) hD, ?_⟩
    rw [upd_same, List.take_add_one, hf, List.map_append, List.map_append]
    rfl
  rintro H2 ⟨s2, eD⟩
  rw [hpl, List.take_length] at eD
  exact ⟨nlS, D, pr.map rowS, rfl, rfl, .inl (SqL.of eD), Nat.le_trans (progS_sum hok) (by decide), q H2 (s1.trans s2)⟩
theorem sc_read : FnScope ["text", "rows", "number", "words", "program", "row"] ["text"] (defScope s_read) := ⟨rfl, rfl, rfl, by decide +kernel, rfl, by decide +kernel, by decide +kernel⟩
-- 0 text, 1 rows, 2 number, 3 words, 4 program, 5 row
theorem ok_read (T : Txt w K mg) : FnOk P w K mg base CX0 13 (He.ga K "read") (fdOf K d_read) ["text"] spRead := by
  have G_check_program := ok_check_program (P := P) (base := base) T
  have G_check_row := ok_check_row (P := P) (base := base) T
  have G_read_row := ok_read_row (P := P) (base := base) T
  refine T.F_read.ok sc_read (fun vs H Q E h => ?_) (fun cdv A outer s H vs Q E hr h => ?_)
  · obtain ⟨pr, rfl, _⟩ := h
    rfl
  obtain ⟨pr, rfl, hok, q⟩ := h
  refine ⟨_, PSs.nox (pss_cons (ps_setLc (i := 1) (own := [("row", 5)]) rfl sc_read.nd rfl rfl (sw_true rfl rfl rfl (by decide +kernel)) (Ov.pi_listK (K := K) rfl (Ov.pe_bmK (K := K) rfl PySem.F.plainAttrs_str PySem.F.slot_str_split PySem.F.type_str_split mt_split (pv 0) (pa_cons pe_str pa_nil))) (blkOk_by (own := [("row", 5)]) (N := ["text", "rows", "number", "words", "program", "row"]) (sc := defScope s_read) (by decide +kernel)) (fun _ _ _ _ _ => (pg_name (i := 5) sc_read.nd rfl (by first | exact Or.inl rfl | exact Or.inr rfl))) (fun _ _ _ _ _ => pts_nil) (fun _ _ _ _ _ => (Ov.pe_bmK (K := K) rfl PySem.F.plainAttrs_str PySem.F.slot_str_split PySem.F.type_str_split mt_split (pv 5) (pa_cons pe_str pa_nil))))
      (pss_cons (ps_for PassesOwn.never rfl (Ov.pi_en (K := K) .l rfl (by rfl) T.z_enumerate (pa_cons (pv 1) pa_nil)) (Ov.pg_tupK (K := K) (n := 2) rfl rfl (pgs_cons (pg_name (i := 2) sc_read.nd rfl (by first | exact Or.inl rfl | exact Or.inr rfl)) (pgs_cons (pg_name (i := 3) sc_read.nd rfl (by first | exact Or.inl rfl | exact Or.inr rfl)) pgs_nil))) (pss_one (ps_expr (pe_call G_check_row (hr.mono (by omega)) (by rfl) T.g_check_row T.kp_check_row T.b_check_row .nil pass0 (pa_cons (pv 2) (pa_cons (pv 3) pa_nil))))))
      (pss_cons (ps_set (i := 4) sc_read.nd rfl (by first | exact Or.inl rfl | exact Or.inr rfl) (pe_callTy (r := Ov.rTupS K) call_tuple_of (by rfl) T.z_tuple (by decide +kernel) (pa_cons (pe_lc (own := [("words", 3)]) rfl sc_read.nd (Ov.pi_listK (K := K) rfl (pv 1)) (blkOk_by (own := [("words", 3)]) (N := ["text", "rows", "number", "words", "program", "row"]) (sc := defScope s_read) (by decide +kernel)) (fun _ _ _ _ _ => (pg_name (i := 3) sc_read.nd rfl (by first | exact Or.inl rfl | exact Or.inr rfl))) (fun _ _ _ _ _ => pts_nil) (fun _ _ _ _ _ => (pe_call G_read_row (hr.mono (by omega)) (by rfl) T.g_read_row T.kp_read_row T.b_read_row .nil pass0 (pa_cons (pv 3) pa_nil)))) pa_nil)))
      (pss_cons (ps_expr (pe_call G_check_program (hr.mono (by omega)) (by rfl) T.g_check_program T.kp_check_program T.b_check_program .nil pass0 (pa_cons (pv 4) pa_nil)))
      (pss_one (ps_ret (pv 4))))))), ?_⟩
  have l8 := hok.l8
  have hlen := progS_len hok
  refine ⟨_, rfl, rfl, progS pr, nlS, rfl, rfl, by decide +kernel, Nat.le_trans (Nat.add_le_add_right hlen 2) (by decide), fun p hp => ?_⟩
  rw [prog_split hok]
  have s0 := Same.new (o := .lst ((pr.map rowS).map V.str)) hp
  have ep : upd H p (.lst ((pr.map rowS).map V.str)) p = some (.lst ((pr.map rowS).map V.str)) := upd_same
  generalize upd H p (.lst ((pr.map rowS).map V.str)) = H1 at s0 ep ⊢
  refine ⟨p, rfl, ⟨_, SqL.of ep⟩, fun D hD => ?_⟩
  refine lc_listY (K := K) (a := p) (xs := (pr.map rowS).map V.str) (fun i H' => Same H1 H' ∧ ∃ ls : List Addr, H' D = some (.lst (ls.map V.ref)) ∧ Paired (fun b f => H' b = some (.lst ((rowT f).map V.str)) ∧ b ≠ D) ls (pr.take i)) ⟨Same.new hD, [], upd_same, .nil⟩ (fun i H' _ e => SqL.of (e.1 _ _ ep)) ?_ ?_
  · rintro i y H2 hi ⟨s2, ls, eD, hls⟩
    obtain ⟨t, ht, rfl⟩ := strs_get hi
    rw [List.getElem?_map] at ht
    obtain ⟨f, hf, rfl⟩ : ∃ f, pr[i]? = some f ∧ rowS f = t := by
      cases e : pr[i]? with
      | none => rw [e] at ht; cases ht
      | some f => rw [e] at ht; exact ⟨f, rfl, Option.some.inj ht⟩
    have hil := (List.getElem?_eq_some_iff.mp hf).1
    have hfk := hok.f f (List.mem_of_getElem? hf)
    have hll := Paired.length hls
    rw [List.length_take] at hll
    have hrl := rowS_len l8 hfk
    refine ⟨rfl, _, rfl, rfl, rowS f, spcS, rfl, rfl, by decide +kernel, Nat.le_trans (Nat.add_le_add_right hrl 2) (by decide), fun b hb => ?_⟩
    rw [row_split l8 hfk]
    have s3 := Same.new (o := .lst ((rowT f).map V.str)) hb
    have nb : b ≠ D := (ne_of_none eD hb).symm
    refine ⟨_, s3 _ _ eD, sm _ (by rw [List.length_map]; omega), Ov.Same.updn (s2.trans s3) hD, ls ++ [b], by rw [upd_same, List.map_append]; rfl, ?_⟩
    rw [List.take_add_one, hf]
    exact PySem.Paired.snoc (L2.Paired.mapP hls fun c g z => ⟨by rw [upd_ne z.2]; exact s3 _ _ z.1, z.2⟩) ⟨by rw [upd_ne nb]; exact upd_same, nb⟩
  rintro H2 ⟨s2, ls, eD, hls⟩
  rw [List.length_map, List.length_map, List.take_length] at hls
  have hll := Paired.length hls
  have s02 := s0.trans s2
  have hls := L2.Paired.mapP hls fun _ _ z => z.1
  refine ⟨_, rfl, D, _, rfl, SqL.of eD, for_it (walk_en (K := K) (k := .l) (a := D) (xs := ls.map V.ref)) (fun i σ H' => ∃ (y2 y3 : Option V), σ = [some (.str (progS pr)), some (.ref D), y2, y3, none, none] ∧ Same H2 H') ⟨none, none, rfl, Same.refl _⟩ (fun i σ H' _ ⟨_, _, _, z⟩ => SqL.of (z _ _ eD)) ?_ ?_⟩
  · rintro i x σ H3 H4 hi ⟨y2, y3, rfl, s3⟩ ⟨t, x1, x2, rfl, ht, rfl, e1, e2⟩
    have e1' := Option.some.inj e1
    subst e1'
    have e2 : (ls.map V.ref)[i]? = some x2 := e2
    rw [List.getElem?_map] at e2
    obtain ⟨b, hb, rfl⟩ : ∃ b, ls[i]? = some b ∧ V.ref b = x2 := by
      cases e : ls[i]? with
      | none => rw [e] at e2; cases e2
      | some b => rw [e] at e2; exact ⟨b, rfl, Option.some.inj e2⟩
    obtain ⟨f, hf, eb⟩ := Paired.get2 hls hb
    have hfk := hok.f f (List.mem_of_getElem? hf)
    have s4 := s3.trans (Same.new (o := .tup [.int (i : Nat), .ref b]) ht)
    refine ⟨t, _, rfl, SqT.of upd_same, rfl, _, _, rfl, _, _, rfl, rfl, _, rfl, _, rfl, _, b, rowT f, rfl, s4 _ _ eb, rowT_ok l8 hfk, by have := rowT_len hfk; omega, fun H5 s5 => ⟨_, _, rfl, s4.trans s5⟩⟩
  · rintro σ H3 ⟨y2, y3, rfl, s3⟩
    refine ⟨_, rfl, D, rfl, ⟨_, SqL.of (s3 _ _ eD)⟩, fun E1 hE1 => ?_⟩
    refine lc_listY (K := K) (a := D) (xs := ls.map V.ref) (fun i H' => Same H3 H' ∧ ∃ vs : List V, H' E1 = some (.lst vs) ∧ Paired (FAt H') vs (pr.take i)) ⟨Same.new hE1, [], upd_same, .nil⟩ (fun i H' _ e => SqL.of (e.1 _ _ (s3 _ _ eD))) ?_ ?_
    · rintro i y H4 hi ⟨s4, vs, eE, hvs⟩
      rw [List.getElem?_map] at hi
      obtain ⟨b, hb, rfl⟩ : ∃ b, ls[i]? = some b ∧ V.ref b = y := by
        cases e : ls[i]? with
        | none => rw [e] at hi; cases hi
        | some b => rw [e] at hi; exact ⟨b, rfl, Option.some.inj hi⟩
      obtain ⟨f, hf, eb⟩ := Paired.get2 hls hb
      have hfk := hok.f f (List.mem_of_getElem? hf)
      have hil := (List.getElem?_eq_some_iff.mp hf).1
      have hvl := Paired.length hvs
      rw [List.length_take] at hvl
      refine ⟨rfl, _, rfl, b, pr.length, f, rfl, (s3.trans s4) _ _ eb, hfk, l8, fun H5 v s5 hv => ?_⟩
      have kE := Keep.updL (ys := vs ++ [v]) (s5 _ _ eE)
      refine ⟨_, s5 _ _ eE, sm _ (by omega), Ov.Same.updn (s4.trans s5) hE1, vs ++ [v], upd_same, ?_⟩
      rw [List.take_add_one, hf]
      exact PySem.Paired.snoc (L2.Paired.mapP hvs fun _ _ z => (FAt.keep (Keep.same s5) z).keep kE) (hv.keep kE)
    rintro H4 ⟨s4, vs, eE, hvs⟩
    rw [List.length_map, hll, List.take_length] at hvs
    refine ⟨E1, vs, rfl, .inl ⟨SqL.of eE, fun l hl => ?_⟩⟩
    have s5 := Same.new (o := .tup vs) hl
    have hp5 : PrAt (upd H4 l (.tup vs)) (.ref l) pr := ⟨l, vs, rfl, upd_same, L2.Paired.mapP hvs fun _ _ z => FAt.keep (Keep.same s5) z⟩
    refine ⟨_, rfl, .ref l, pr, rfl, hp5, hok, fun H6 s6 => ⟨_, rfl, q H6 (.ref l) ?_ (hp5.keep (Keep.same s6))⟩⟩
    exact s02.trans (s3.trans (s4.trans (s5.trans s6)))
end
end K19

namespace K19
open PySem PySem.Spec PyProof.Rows L2 Ov
section
variable {P : Program} {w : World} {K : PySem.W.Frag} {mg : Str → Option Value} {base : Heap}
theorem sc_law_text : FnScope ["_law_body_here", "_law_arm"] ["_law_body_here"] (defScope s_law_text) := ⟨rfl, rfl, rfl, by decide +kernel, rfl, by decide +kernel, by decide +kernel⟩
-- 0 _law_body_here, 1 _law_arm
theorem ok_law_textS (T : Txt w K mg) {d : Nat} (G_law_text : FnOk P w K mg base CX0 d (He.ga K "_law_text") (fdOf K d_law_text) ["_law_body_here"] (spText d)) :
    FnOk P w K mg base CX0 (d + 1) (He.ga K "_law_text") (fdOf K d_law_text) ["_law_body_here"] (spText (d + 1)) := by
  refine T.F_law_text.ok sc_law_text (fun vs H Q E h => ?_) (fun cdv A outer s H vs Q E hr h => ?_)
  · obtain ⟨v, n, u, rfl, _⟩ := h
    rfl
  obtain ⟨v, n, u, rfl, hv, ok, hn, hsz, q⟩ := h
  have ok0 := ok
  cases hv with
  | @mk a o g vs as ha hs =>
  cases ok with
  | mk h1 h2 h3 =>
  refine ⟨_, PSs.nox (pss_one (ps_ret (Ov.pe_bmK (K := K) rfl PySem.F.plainAttrs_str PySem.F.slot_str_join PySem.F.type_str_join mt_join pe_str (pa_cons (pe_lc (own := [("_law_arm", 1)]) rfl sc_law_text.nd (Ov.pi_tupK (K := K) rfl (pv 0)) (blkOk_by (own := [("_law_arm", 1)]) (N := ["_law_body_here", "_law_arm"]) (sc := defScope s_law_text) (by decide +kernel)) (fun _ _ _ _ _ => (pg_name (i := 1) sc_law_text.nd rfl (by first | exact Or.inl rfl | exact Or.inr rfl))) (fun _ _ _ _ _ => pts_nil) (fun _ _ _ _ _ => (pe_ifExp (pt_val (pe_callB (r := rIsi K) call_isi (by rfl) T.z_isinstance (by decide +kernel) (pa_cons (pv 1) (pa_cons (pe_bltn (v := .ty "tuple") (by rfl) T.z_tuple (by decide +kernel) rfl) pa_nil)))) (pe_call G_law_text (hr.mono (by omega)) (by rfl) T.g_law_text T.kp_law_text T.b_law_text .nil pass0 (pa_cons (pv 1) pa_nil)) (pe_callTy Ov.call_str_any (by rfl) T.z_str (by decide +kernel) (pa_cons (pv 1) pa_nil))))) pa_nil)))), ?_⟩
  have hlen := hs.length
  have hal : as.length ≤ 3 := by rw [h1]; cases o <;> decide
  have ssz : 1 + W.sizes as = (W.mk o g as).size := (W.size_mk o g as).symm
  have htl : (o.toks g).length = 1 + (o.pre g).length := by
    unfold Op.toks Op.pre
    split <;> rfl
  have hpl : (o.pre g).length ≤ 1 := by
    unfold Op.pre
    split
    · exact Nat.le_refl 1
    · exact Nat.zero_le 1
  have hsum : ((o.toks g ++ as.map bodyS).map (·.length)).sum + (o.toks g ++ as.map bodyS).length * spcS.length ≤ 16777216 := by
    have z := sum_le (fun t : Str => t.length) 720 (o.toks g ++ as.map bodyS) fun t ht => by
      rcases List.mem_append.mp ht with ht | ht
      · have : t ∈ (W.mk o g as).toks := by rw [W.toks_mk]; exact List.mem_append_left _ ht
        have := (W.toks_ok hn ok0 t this).ok.2.2.1
        omega
      · obtain ⟨b, hb, rfl⟩ := List.mem_map.mp ht
        have z := bodyS_len hn (h3 b hb)
        obtain ⟨i, hi⟩ := List.mem_iff_getElem?.mp hb
        have := size_get as i b hi
        omega
    have e : spcS.length = 1 := by decide +kernel
    rw [e]
    have l : (o.toks g ++ as.map bodyS).length ≤ 5 := by rw [List.length_append, List.length_map, htl]; omega
    have : (o.toks g ++ as.map bodyS).length * 720 ≤ 5 * 720 := Nat.mul_le_mul_right 720 l
    omega
  refine ⟨rfl, _, rfl, a, rfl, ⟨_, SqT.of ha⟩, fun D hD => ?_⟩
  have hnl : (.str o.name :: (o.pre g ++ vs) : List V).length = (o.toks g ++ as.map bodyS).length := by
    rw [List.length_cons, List.length_append, List.length_append, List.length_map, htl, hlen]
    omega
  refine lc_tupY (K := K) (a := a) (xs := .str o.name :: (o.pre g ++ vs)) (fun i H' => Same H H' ∧ H' D = some (.lst (((o.toks g ++ as.map bodyS).take i).map V.str))) ⟨Same.new hD, upd_same⟩ (fun i H' _ p => SqT.of (p.1 _ _ ha)) ?_ ?_
  · rintro i x H2 hi ⟨s2, e2⟩
    have hil := (List.getElem?_eq_some_iff.mp hi).1
    rw [hnl] at hil
    have fin : ∀ (t : Str) (H3 : Hp), (o.toks g ++ as.map bodyS)[i]? = some t → Same H2 H3 → ∃ acc, H3 D = some (.lst acc) ∧ acc.length < sizeLine ∧ Same H (upd H3 D (.lst (acc ++ [V.str t]))) ∧ (upd H3 D (.lst (acc ++ [V.str t]))) D = some (.lst (((o.toks g ++ as.map bodyS).take (i + 1)).map V.str)) := fun t H3 et s3 => by
      refine ⟨_, s3 _ _ e2, sm _ (by rw [List.length_map, List.length_take, List.length_append, List.length_map, htl]; omega), Ov.Same.updn (s2.trans s3) hD, ?_⟩
      rw [upd_same, List.take_add_one, et, List.map_append]
      rfl
    refine ⟨rfl, ?_⟩
    cases i with
    | zero =>
      obtain rfl : x = .str o.name := (Option.some.inj hi).symm
      refine ⟨_, rfl, _, .ty "tuple", .type "str", .type "tuple", false, rfl, .ty _, .base (.str _), k_str_tuple, false, rfl, iteF ⟨_, rfl, .inr ⟨o.name, rfl, fin o.name H2 rfl (Same.refl _)⟩⟩⟩
    | succ j =>
      have hj : (o.pre g ++ vs)[j]? = some x := hi
      by_cases hj0 : j < (o.pre g).length
      · have hg : o.gives = true := by
          cases h : o.gives with
          | true => rfl
          | false =>
            unfold Op.pre at hj0
            rw [h] at hj0
            exact absurd hj0 (Nat.not_lt_zero _)
        have lt := gives_lt hn h2 hg
        obtain rfl : j = 0 := by omega
        have ep : o.pre g = [.int g] := by unfold Op.pre; rw [if_pos hg]
        rw [ep] at hj
        obtain rfl : x = .int g := (Option.some.inj hj).symm
        have et : (o.toks g ++ as.map bodyS)[0 + 1]? = some (numS g.toNat) := by
          unfold Op.toks
          rw [if_pos hg]
          rfl
        have eg : ((g.toNat : Nat) : Int) = g := by omega
        have enum : numS g.toNat = Str.ofString (toString g) := by unfold numS; rw [eg]
        rw [enum] at et
        refine ⟨_, rfl, _, .ty "tuple", .type "int", .type "tuple", false, rfl, .ty _, .base (.int _), k_int_tuple, false, rfl, iteF ⟨_, rfl, .inl ⟨g, rfl, Small9.log (by unfold Small9; omega), fin _ H2 et (Same.refl _)⟩⟩⟩
      · rw [List.getElem?_append_right (by omega)] at hj
        obtain ⟨b, hb, hxb⟩ := WsAt.get hs hj
        have hk := h3 b (List.mem_of_getElem? hb)
        have hxb2 := hxb.keep (Keep.same s2)
        obtain ⟨c, xs, rfl, hc⟩ := hxb2.ref
        have sz := size_get as _ b hb
        have et : (o.toks g ++ as.map bodyS)[j + 1]? = some (bodyS b) := by
          rw [List.getElem?_append_right (by rw [htl]; omega), htl, show j + 1 - (1 + (o.pre g).length) = j - (o.pre g).length by omega, List.getElem?_map, hb]
          rfl
        refine ⟨_, rfl, _, .ty "tuple", .type "tuple", .type "tuple", true, rfl, .ty _, .base (.tup hc), k_tuple_tuple, true, rfl, ?_⟩
        refine ⟨_, rfl, _, n, b, rfl, hxb2, hk, hn, by omega, fun H3 s3 => fin _ H3 et s3⟩
  · rintro H2 ⟨s2, e2⟩
    rw [hnl, List.take_length] at e2
    refine ⟨spcS, D, _, rfl, rfl, .inl (SqL.of e2), hsum, ?_⟩
    rw [bodyS_mk]
    exact q H2 s2
theorem ok_law_text (T : Txt w K mg) : ∀ d : Nat, FnOk P w K mg base CX0 d (He.ga K "_law_text") (fdOf K d_law_text) ["_law_body_here"] (spText d)
  | 0 => fn0 fun vs H Q E ⟨_, _, _, _, _, h, _⟩ => nomatch h
  | d + 1 => ok_law_textS T (ok_law_text T d)
theorem sc_law : FnScope ["_law_script", "_law_h", "_law_turn", "_law_program_here", "_law_text_here", "_law_size", "_law_body_here"] ["_law_script"] (defScope s_law) := ⟨rfl, rfl, rfl, by decide +kernel, rfl, by decide +kernel, by decide +kernel⟩
-- 0 _law_script, 1 _law_h, 2 _law_turn, 3 _law_program_here, 4 _law_text_here, 5 _law_size, 6 _law_body_here
theorem ok_law (T : Txt w K mg) : FnOk P w K mg base CX0 17 (He.ga K "law") (fdOf K d_law) ["_law_script"] (spLaw K) := by
  have G_law_mix := ok_law_mix (P := P) (base := base) T
  have G_law_program := ok_law_program (P := P) (base := base) T
  have G_law_text := ok_law_text (P := P) (base := base) T 7
  have G_law_alike := ok_law_alike (P := P) (base := base) T 10
  have G_written := ok_written (P := P) (base := base) T
  have G_read := ok_read (P := P) (base := base) T
  refine T.F_law.ok sc_law (fun vs H Q E h => ?_) (fun cdv A outer s H vs Q E hr h => ?_)
  · obtain ⟨a, ns, rfl, _⟩ := h
    rfl
  obtain ⟨a, ns, rfl, ha, hl, q⟩ := h
  refine ⟨_, PSs.nox (pss_cons (ps_set (i := 1) sc_law.nd rfl (by first | exact Or.inl rfl | exact Or.inr rfl) (pe_call G_law_mix (hr.mono (by omega)) (by rfl) T.g_law_mix T.kp_law_mix T.b_law_mix .nil pass0 (pa_cons (pv 0) (pa_cons pe_int pa_nil))))
      (pss_cons (ps_for PassesOwn.never rfl (pi_range1 (by rfl) T.z_range (pa_cons pe_int pa_nil)) (pg_name (i := 2) sc_law.nd rfl (by first | exact Or.inl rfl | exact Or.inr rfl)) (pss_cons (ps_set (i := 3) sc_law.nd rfl (by first | exact Or.inl rfl | exact Or.inr rfl) (pe_call G_law_program (hr.mono (by omega)) (by rfl) T.g_law_program T.kp_law_program T.b_law_program .nil pass0 (pa_cons (pv 1) (pa_cons pe_int pa_nil))))
      (pss_cons (ps_set (i := 4) sc_law.nd rfl (by first | exact Or.inl rfl | exact Or.inr rfl) (Ov.pe_bmK (K := K) rfl PySem.F.plainAttrs_str PySem.F.slot_str_join PySem.F.type_str_join mt_join pe_str (pa_cons (pe_lc (own := [("_law_size", 5), ("_law_body_here", 6)]) rfl sc_law.nd (Ov.pi_tupK (K := K) rfl (pv 3)) (blkOk_by (own := [("_law_size", 5), ("_law_body_here", 6)]) (N := ["_law_script", "_law_h", "_law_turn", "_law_program_here", "_law_text_here", "_law_size", "_law_body_here"]) (sc := defScope s_law) (by decide +kernel)) (fun _ _ _ _ _ => (Ov.pg_tupK (K := K) (n := 2) rfl rfl (pgs_cons (pg_name (i := 5) sc_law.nd rfl (by first | exact Or.inl rfl | exact Or.inr rfl)) (pgs_cons (pg_name (i := 6) sc_law.nd rfl (by first | exact Or.inl rfl | exact Or.inr rfl)) pgs_nil)))) (fun _ _ _ _ _ => pts_nil) (fun _ _ _ _ _ => (pe_op op_add_str (pe_op op_add_str (pe_callTy call_str_int (by rfl) T.z_str (by decide +kernel) (pa_cons (pv 5) pa_nil)) pe_str) (pe_call G_law_text (hr.mono (by omega)) (by rfl) T.g_law_text T.kp_law_text T.b_law_text .nil pass0 (pa_cons (pv 6) pa_nil))))) pa_nil)))
      (pss_cons (ps_if (PW.pt (pw_or (pt_not (pt_val (pe_call G_law_alike (hr.mono (by omega)) (by rfl) T.g_law_alike T.kp_law_alike T.b_law_alike .nil pass0 (pa_cons (pe_call G_written (hr.mono (by omega)) (by rfl) T.g_written T.kp_written T.b_written .nil pass0 (pa_cons (pv 3) pa_nil)) (pa_cons (pv 4) pa_nil))))) (pw_or1 (pt_not (pt_val (pe_call G_law_alike (hr.mono (by omega)) (by rfl) T.g_law_alike T.kp_law_alike T.b_law_alike .nil pass0 (pa_cons (pe_call G_read (hr.mono (by omega)) (by rfl) T.g_read T.kp_read T.b_read .nil pass0 (pa_cons (pv 4) pa_nil)) (pa_cons (pv 3) pa_nil)))))))) (pss_one (ps_ret pe_bl)) pss_nil)
      (pss_one (ps_if (pt_cmpR op_ne (pe_call G_written (hr.mono (by omega)) (by rfl) T.g_written T.kp_written T.b_written .nil pass0 (pa_cons (pe_call G_read (hr.mono (by omega)) (by rfl) T.g_read T.kp_read T.b_read .nil pass0 (pa_cons (pv 4) pa_nil)) pa_nil)) (pv 4) (nomark _)) (pss_one (ps_ret pe_bl)) pss_nil))))))
      (pss_one (ps_ret pe_bl)))), ?_⟩
  refine ⟨_, rfl, a, ns, 71, rfl, ha, hl, by decide, by decide, fun h c H1 hh hc s1 d1 => ?_⟩
  refine ⟨6, rfl, by decide, by decide, ?_⟩
  refine for_range (lo := 0) (n := (6 : Int).toNat) (fun i σ' H' => ∃ (y2 y3 y4 : Option V), σ' = [some (.ref a), some (.ref h), y2, y3, y4, none, none] ∧ Dr H' h c) ⟨none, none, none, rfl, d1⟩ ?_ ?_
  · rintro i0 σ' H1 hi ⟨y2, y3, y4, rfl, d1⟩
    refine ⟨_, rfl, h, c, 8, rfl, d1, by decide, by decide, fun v H2 pr b2 d2 hpr hok => ?_⟩
    have hpr0 := hpr
    obtain ⟨pa, vp, rfl, hpa, hpf⟩ := hpr
    have hpl : vp.length = pr.length := Paired.length hpf
    have l8 := hok.l8
    refine ⟨rfl, _, rfl, pa, rfl, ⟨_, SqT.of hpa⟩, fun D hD => ?_⟩
    refine lc_tupY (K := K) (a := pa) (xs := vp) (fun i H' => Same H2 H' ∧ H' D = some (.lst (((pr.take i).map rowS).map V.str))) ⟨Same.new hD, upd_same⟩ (fun i H' _ e => SqT.of (e.1 _ _ hpa)) ?_ ?_
    · rintro i y H3 hi ⟨s3, eD⟩
      obtain ⟨f, hf, b, bv, rfl, hb, hw⟩ := Paired.get2 hpf hi
      have hil := (List.getElem?_eq_some_iff.mp hf).1
      have hfk := hok.f f (List.mem_of_getElem? hf)
      obtain ⟨f1, f2, f3, f4⟩ := id hfk
      have ls := rowS_len l8 hfk
      have re := rowS_eq f
      have eg : ((f.1.toNat : Nat) : Int) = f.1 := by omega
      have en : numS f.1.toNat = Str.ofString (toString f.1) := by unfold numS; rw [eg]
      rw [en] at re
      have la : ∀ a b : Str, (a ++ b).length = a.length + b.length := fun a b => PySem.Str.length_append a b
      have ll := congrArg (·.length) re
      have ll : (Str.ofString (toString f.1) ++ spcS ++ bodyS f.2).length = (rowS f).length := ll
      rw [la] at ll
      refine ⟨b, _, rfl, SqT.of (s3 _ _ hb), rfl, _, _, rfl, _, _, rfl, rfl, rfl, _, rfl, f.1, rfl, Small9.log (by unfold Small9; omega), _, _, rfl, rfl, ?_, ?_⟩
      · have : (Str.ofString " ").length = 1 := by decide +kernel
        have e1 : spcS.length = 1 := by decide +kernel
        rw [la] at ll
        exact sml _ (by omega)
      refine ⟨_, rfl, bv, pr.length, f.2, rfl, hw.keep (Keep.same s3), f3, by omega, f4, fun H4 s4 => ⟨_, _, rfl, rfl, ?_, ?_⟩⟩
      · show (Str.ofString (toString f.1) ++ spcS).length + (bodyS f.2).length ≤ sizeLine
        rw [ll]
        exact sml _ ls
      refine ⟨_, s4 _ _ eD, sm _ (by rw [List.length_map, List.length_map, List.length_take]; omega), Ov.Same.updn (s3.trans s4) hD, ?_⟩
      rw [upd_same, List.take_add_one, hf, List.map_append, List.map_append]
      show some (HO.lst (_ ++ [V.str (Str.ofString (toString f.1) ++ spcS ++ bodyS f.2)])) = _
      rw [re]
      rfl
    rintro H3 ⟨s3, eD⟩
    rw [hpl, List.take_length] at eD
    refine ⟨nlS, D, pr.map rowS, rfl, rfl, .inl (SqL.of eD), Nat.le_trans (progS_sum hok) (by decide), ?_⟩
    have hpr3 := hpr0.keep (Keep.same s3)
    have d3 := d2.same s3
    refine ⟨_, rfl, .ref pa, pr, rfl, hpr3, hok, fun H4 s4 => ⟨_, rfl, .str (progS pr), .str (progS pr), rfl, .inl ⟨rfl, rfl⟩, fun H5 s5 => ⟨_, rfl, iteF ?_⟩⟩⟩
    have s35 := s4.trans s5
    refine ⟨_, rfl, pr, rfl, hok, fun H6 v6 s6 hv6 => ⟨_, rfl, v6, .ref pa, rfl, prog_al hok hv6 (hpr3.keep (Keep.same (s35.trans s6))), fun H7 s7 => ⟨_, rfl, iteF ?_⟩⟩⟩
    have s37 := s35.trans (s6.trans s7)
    refine ⟨_, rfl, pr, rfl, hok, fun H8 v8 s8 hv8 => ⟨v8, pr, rfl, hv8, hok, fun H9 s9 => ⟨_, rfl, rfl, _, rfl, ?_⟩⟩⟩
    show if (!decide (V.str (progS pr) = V.str (progS pr))) = true then _ else _
    rw [decide_eq_true rfl]
    exact iteF ⟨_, _, _, rfl, d3.same (s37.trans (s8.trans s9))⟩
  · rintro σ' H1 ⟨y2, y3, y4, rfl, d1⟩
    exact q _
end
end K19

open PySem PySem.W PySem.Calls PyProof.Rows
theorem PySem.Challenge.cw_overlayhall_k19_whole_written_and_read_holds : PySem.Challenge.rw_overlayhall_k19_whole_written_and_read.Holds := by
  w_on; o_law
  refine HandSHeadRun.head_any (r := OpenLaw.row PySem.Challenge.rw_overlayhall_k19_whole_written_and_read) (q := view (OpenLaw.row PySem.Challenge.rw_overlayhall_k19_whole_written_and_read).prog [45]) (H := K19.hk) (ob := K19.ob) (M := 6000) (loose := K19.names) (d := HandSHeadRun.topDef (OpenLaw.row PySem.Challenge.rw_overlayhall_k19_whole_written_and_read).prog 45) (kwd := []) K19.ob_eq
    (by kernel_rfl) (fun s => by kernel_rfl) K19.run (by kernel_rfl) (by kernel_rfl) (by kernel_rfl) (by rfl) (by first | assumption | decide +kernel) (by decide +kernel) ⟨rfl, rfl, rfl, rfl, rfl, by decide +kernel⟩ ?hw ?hc
  case hw => w_witness2
  case hc =>
    refine L2.walk_ofE (l := PySem.Challenge.rw_overlayhall_k19_whole_written_and_read) (n := 63) (k := 17) (x := "_law_script") (CX := L2.CX0) rfl (by decide) (by kernel_rfl) ⟨rfl, by decide, by decide⟩ ?F (fun _ _ _ _ z => z)
    intro w mg fa h Y G hmg0
    obtain ⟨K, KX, c⟩ := Y
    have T := K19.Txt.of (w := w) KX G c
    have hmg : mg ("law" : PySem.Str) = some (.ref fa) := by
      have e : (HandSHeadRun.topDef (OpenLaw.row PySem.Challenge.rw_overlayhall_k19_whole_written_and_read).prog 45).name = ("law" : PySem.Str) := by kernel_rfl
      rw [← e]
      exact hmg0
    cases hmg.symm.trans T.g_law
    have b := L2.FunD.bindsA (ps := ["_law_script"]) T.F_law fun _ _ _ _ _ _ us hl => match us, hl with | [_], _ => rfl
    exact ⟨K, K19.fdOf K K19.d_law, Ov.spLaw K, KX, fun s v => b s [v] rfl, fun H a ns hl _ hS => ⟨a, ns, rfl, hS, hl, fun _ => rfl⟩, fun base _ _ => K19.ok_law T⟩

