import PyProof.Rows.All
import Wide.All
import OpenK.AllK
import Wide.FinOn
import KE.KStateDown
import HandS.ForMost
import HandS.Evl
import HandS.WordsExc
import HandS.Defaults
import HandS.More
import HandS.Wide
import HandS.IsInst
import HandS.Zip
import HandS.SortInts
import HandS.TupMul
import HandS.TupLe
import HandS.TupAny
import HandS.Conv
import HandS.Style
import HandS.Walk
import KE.GoesMore
import KE.GoesZip
import KE.GoesEnum
import HandS.Head0
import HandS.Head1
import HandS.Head2
import HandS.HeadEnd
import HandS.HeadHook1
import HandS.HeadHook2
import HandS.HeadHook3
import HandS.HeadHook4
import HandS.HeadWalk
import HandS.Deep
import HandS.TryOnly
import HandS.Exc
import HandS.ExcOwn
import HandS.ExcSuper
import HandS.ForSpec
import Open.SpecLaws
import KE.OsGo
import HandS.Small
import HandS.FStr
import HandS.ExcIs
import HandS.Lambda
import HandS.NestedK
import HandS.Nested
import HandS.ClsMeth
import KE.KSuper
import HandS.NoneIn
import HandS.DictComp
import HandS.SortKw
import HandS.SortRule
import KE.KSortTup
import HandS.Iter
import HandS.SetFor
import HandS.Strs
import HandS.TupSets
import KE.KDictZip
import HandS.Flow
import KE.DatumOrd
import KE.DataMinMax
import HandS.RevRange
import PySem.Challenge.RW_overlayhall_k16_the_cheapest_tree
set_option Elab.async false
set_option linter.all false
set_option maxRecDepth 100000
set_option maxHeartbeats 0
/-! ### what all laws share: the drawer, data -/
namespace Ov
open PySem PySem.Spec PyProof.Rows L2
/-- the drawer: its list at h, its cells at c -/
def Dr (H : Hp) (h c : Addr) : Prop := ∃ (m k : Int) (xs : List Int), H h = some (.lst [.int m, .ref c, .int k]) ∧ H c = some (.lst (xs.map V.int)) ∧ xs.length ≤ 63
/-- all but the drawer stays -/
def But (h c : Addr) (H H' : Hp) : Prop := ∀ a o, a ≠ h → a ≠ c → H a = some o → H' a = some o
theorem But.refl {h c : Addr} (H : Hp) : But h c H H := fun _ _ _ _ e => e
theorem But.trans {h c : Addr} {H H1 H2 : Hp} (a : But h c H H1) (b : But h c H1 H2) : But h c H H2 := fun x o n1 n2 e => b x o n1 n2 (a x o n1 n2 e)
theorem But.same {h c : Addr} {H H' : Hp} (a : Same H H') : But h c H H' := fun x o _ _ e => a x o e
theorem Same.new {H : Hp} {p : Addr} {o : HO} (h : H p = none) : Same H (upd H p o) := fun b u q => by rw [upd_ne (ne_of_none q h)]; exact q
theorem But.new {h c : Addr} {H : Hp} {p : Addr} {o : HO} (e : H p = none) : But h c H (upd H p o) := .same (Same.new e)
theorem But.updh {h c : Addr} {H : Hp} {o : HO} : But h c H (upd H h o) := fun x u n1 _ e => by rw [upd_ne n1]; exact e
theorem But.updc {h c : Addr} {H : Hp} {o : HO} : But h c H (upd H c o) := fun x u _ n2 e => by rw [upd_ne n2]; exact e
theorem But.tup {h c a : Addr} {H H' : Hp} {xs : List V} (b : But h c H H') (d : Dr H h c) (e : H a = some (.tup xs)) : H' a = some (.tup xs) := by
  obtain ⟨m, k, ns, h1, h2, _⟩ := d
  exact b a _ (ne_of e h1 (by intro z; cases z)) (ne_of e h2 (by intro z; cases z)) e
theorem Dr.same {h c : Addr} {H H' : Hp} (d : Dr H h c) (e : Same H H') : Dr H' h c := by
  obtain ⟨m, k, ns, h1, h2, h3⟩ := d
  exact ⟨m, k, ns, e _ _ h1, e _ _ h2, h3⟩
theorem But.updn {h c D : Addr} {H H' : Hp} {o : HO} (b : But h c H H') (hD : H D = none) : But h c H (upd H' D o) := fun a u n1 n2 e => by rw [upd_ne (ne_of_none e hD)]; exact b a u n1 n2 e
theorem Same.updn {D : Addr} {H H' : Hp} {o : HO} (b : Same H H') (hD : H D = none) : Same H (upd H' D o) := fun a u e => by rw [upd_ne (ne_of_none e hD)]; exact b a u e
theorem Dr.upd {h c D : Addr} {H : Hp} {o : HO} (d : Dr H h c) (n1 : D ≠ h) (n2 : D ≠ c) : Dr (upd H D o) h c := by
  obtain ⟨m, k, ns, h1, h2, h3⟩ := d
  exact ⟨m, k, ns, by rw [upd_ne n1.symm]; exact h1, by rw [upd_ne n2.symm]; exact h2, h3⟩
theorem Dr.ne {h c : Addr} {H : Hp} (d : Dr H h c) : h ≠ c := by
  obtain ⟨m, k, ns, h1, h2, _⟩ := d
  refine ne_of h1 h2 (fun z => ?_)
  have z1 : [V.int m, .ref c, .int k] = ns.map V.int := by injection z
  have z2 := congrArg (fun l : List V => l[1]?) z1
  have z3 : some (V.ref c) = (ns.map V.int)[1]? := z2
  rw [List.getElem?_map] at z3
  cases q : ns[1]? with
  | none => rw [q] at z3; cases z3
  | some u => rw [q] at z3; cases z3
/-- a draw: one of n -/
def spNext : Sp := fun vs H Q _ => ∃ (h c : Addr) (n : Int), vs = [.ref h, .int n] ∧ Dr H h c ∧ 0 < n ∧ n ≤ 1000000 ∧ ∀ (r : Int) (H' : Hp), 0 ≤ r → r < n → But h c H H' → Dr H' h c → Q (.int r) H'
/-- the drawer is made of the script -/
def spMix (K : PySem.W.Frag) : Sp := fun vs H Q _ => ∃ (a : Addr) (ns : List Int) (z : Int), vs = [.ref a, .int z] ∧ SqL K H a (ns.map V.int) ∧ ns.length ≤ 63 ∧ -(2 ^ 31) < z ∧ z < 2 ^ 31 ∧ ∀ (h c : Addr) (H' : Hp), H h = none → H c = none → Same H H' → Dr H' h c → Q (.ref h) H'
/-! ### rules with the written part told (within a comprehension) -/
section
variable {X : Cx} {K : PySem.W.Frag}
theorem pi_listK {tg l : Expr} {tl : TE} (hK : X.K = K) (hl : PE X l tl) : PI X tg l (iList K tl) := by subst hK; exact pi_list hl
theorem pi_tupK {tg l : Expr} {tl : TE} (hK : X.K = K) (hl : PE X l tl) : PI X tg l (iTup K tl) := by subst hK; exact pi_tup hl
theorem pg_tupK {es : List Expr} {k : Nat} {pos : Pos} {t : TGs} {n : Nat} (hK : X.K = K) (hc : X.calm = true) (h : PGs X es t)
    (hn : (assignEach es X.env).length = n := by rfl) (hst : (assignEach es X.env).findIdx? (·.1) = none := by rfl) : PG X (.Tuple es k pos) (gTup K n t) := by subst hK; exact pg_tup hc h hn hst
theorem pe_bmK {o e : Expr} {es : List Expr} {to : TE} {t : TA} {name : Str} {apos cpos : Pos} {T id : String} {r : V → List V → Hp → VK → Prop} (hK : X.K = K) (pa : PlainAttrs T) (slot : Slot T name id) (hty : typeOf (.builtin id) = pure (.type "method_descriptor")) (hm : MtR X id r) (ho : PE X o to) (ha : PA X (e :: es) t)
    (hbase : attributeBase o name X.env (eval o X.env) = eval o X.env := by rfl)
    (hfew : ((backTo cpos (starEach (e :: es) X.env)).all (fun x => !x.1) && (backToKw cpos (keywordEach [] X.env)).all (fun x => x.1.isSome)
      && decide ((e :: es).length + ([] : List Keyword).length + (if ([] : List Keyword).isEmpty then 0 else 1) < 30)) = true := by rfl)
    (hline : (apos.endLine == cpos.line) = true := by rfl) (hs : starEach (e :: es) X.env = (false, eval e X.env) :: starEach es X.env := by rfl) (hplain : (backTo cpos (starEach es X.env)).any (·.1) = false := by rfl) : PE X (.Call (.Attribute o name apos) (e :: es) [] cpos) (tBM K T r to t) := by subst hK; exact pe_bm pa slot hty hm ho ha hbase hfew hline hs hplain
theorem pe_revLK {e : Expr} {te : TE} {k : Nat} {p1 p2 p3 pos : Pos} (hK : X.K = K) (he : PE X e te) : PE X (.Subscript e (.Slice none none (some (.UnaryOp .USub (.Constant (.int 1) k p1) p2)) p3) pos) (tRevL K te) := by subst hK; exact pe_revL he
end
/-- what can't be asked -/
theorem fn0 {P : Program} {w : World} {K : PySem.W.Frag} {mg : Str → Option Value} {base : Heap} {k : Nat} {f : Addr} {fd : FuncData} {ps : List Str} {sp : Sp} (no : ∀ vs H Q E, ¬ sp vs H Q E) : FnOk P w K mg base CX0 k f fd ps sp :=
  ⟨fun vs H Q E h => absurd h (no vs H Q E), fun A outer s H args us vs Q E _ _ _ _ h => absurd h (no vs H Q E)⟩
/-- a promise for each i is a promise of some i -/
theorem fn_ex {ι : Type} {P : Program} {w : World} {K : PySem.W.Frag} {mg : Str → Option Value} {base : Heap} {CX : CXT} {k : ι → Nat} {m : Nat} {f : Addr} {fd : FuncData} {ps : List Str} {sp : ι → Sp} (h : ∀ i, FnOk P w K mg base CX (k i) f fd ps (sp i)) (le : ∀ i, k i ≤ m) :
    FnOk P w K mg base CX m f fd ps (fun vs H Q E => ∃ i, sp i vs H Q E) :=
  ⟨fun vs H Q E ⟨i, x⟩ => (h i).len vs H Q E x, fun A outer s H args us vs Q E hr h1 h2 h3 ⟨i, x⟩ => (h i).run A outer s H args us vs Q E (hr.mono (le i)) h1 h2 h3 x⟩
/-! ### comprehensions without a test -/
theorem lc_rangeY {lo : Int} {n : Nat} {g : TG} {te : TE} {vs : List Nat} {σ : L2.St} {H1 : Hp} {D : Addr} {Qd : Hp → Prop} (Pv : Nat → Hp → Prop) (h0 : Pv 0 (upd H1 D (.lst [])))
    (hs : ∀ i H, i < n → Pv i H → g (.int (lo + i)) (wipe σ vs) H fun σ2 H2 => wipe σ2 vs = wipe σ vs ∧ te σ2 H2 fun y H4 => ∃ acc, H4 D = some (.lst acc) ∧ acc.length < sizeLine ∧ Pv (i + 1) (upd H4 D (.lst (acc ++ [y])))) (hd : ∀ H, Pv n H → Qd H) :
    ∃ W : Nat → Nat → Hp → Prop, (∃ m, W 0 m (upd H1 D (.lst []))) ∧ ∀ i m H, W i m H →
      ((Itr lo n).stop i H ∧ Qd H) ∨ ((Itr lo n).go i H ∧ ∃ Nx : Hp → Prop, (∀ H', Nx H' → ∃ m', m' < m ∧ W (i + 1) m' H') ∧ ∀ x H', (Itr lo n).yld i H x H' → g x (wipe σ vs) H' fun σ2 H2 => wipe σ2 vs = wipe σ vs ∧ tYes σ2 H2 fun b H3 =>
        if b = true then te σ2 H3 fun y H4 => ∃ acc, H4 D = some (.lst acc) ∧ acc.length < sizeLine ∧ Nx (upd H4 D (.lst (acc ++ [y]))) else Nx H3) := lc_range (tt := tYes) Pv h0 hs hd
theorem lc_listY {K : PySem.W.Frag} {a : Addr} {xs : List V} {g : TG} {te : TE} {vs : List Nat} {σ : L2.St} {H1 : Hp} {D : Addr} {Qd : Hp → Prop} (Pv : Nat → Hp → Prop) (h0 : Pv 0 (upd H1 D (.lst []))) (hl : ∀ i H, i ≤ xs.length → Pv i H → SqL K H a xs)
    (hs : ∀ i x H, xs[i]? = some x → Pv i H → g x (wipe σ vs) H fun σ2 H2 => wipe σ2 vs = wipe σ vs ∧ te σ2 H2 fun y H4 => ∃ acc, H4 D = some (.lst acc) ∧ acc.length < sizeLine ∧ Pv (i + 1) (upd H4 D (.lst (acc ++ [y])))) (hd : ∀ H, Pv xs.length H → Qd H) :
    ∃ W : Nat → Nat → Hp → Prop, (∃ m, W 0 m (upd H1 D (.lst []))) ∧ ∀ i m H, W i m H →
      ((Itl K a).stop i H ∧ Qd H) ∨ ((Itl K a).go i H ∧ ∃ Nx : Hp → Prop, (∀ H', Nx H' → ∃ m', m' < m ∧ W (i + 1) m' H') ∧ ∀ x H', (Itl K a).yld i H x H' → g x (wipe σ vs) H' fun σ2 H2 => wipe σ2 vs = wipe σ vs ∧ tYes σ2 H2 fun b H3 =>
        if b = true then te σ2 H3 fun y H4 => ∃ acc, H4 D = some (.lst acc) ∧ acc.length < sizeLine ∧ Nx (upd H4 D (.lst (acc ++ [y]))) else Nx H3) := lc_list (tt := tYes) Pv h0 hl hs hd
theorem lc_tupY {K : PySem.W.Frag} {a : Addr} {xs : List V} {g : TG} {te : TE} {vs : List Nat} {σ : L2.St} {H1 : Hp} {D : Addr} {Qd : Hp → Prop} (Pv : Nat → Hp → Prop) (h0 : Pv 0 (upd H1 D (.lst []))) (hl : ∀ i H, i ≤ xs.length → Pv i H → SqT K H a xs)
    (hs : ∀ i x H, xs[i]? = some x → Pv i H → g x (wipe σ vs) H fun σ2 H2 => wipe σ2 vs = wipe σ vs ∧ te σ2 H2 fun y H4 => ∃ acc, H4 D = some (.lst acc) ∧ acc.length < sizeLine ∧ Pv (i + 1) (upd H4 D (.lst (acc ++ [y])))) (hd : ∀ H, Pv xs.length H → Qd H) :
    ∃ W : Nat → Nat → Hp → Prop, (∃ m, W 0 m (upd H1 D (.lst []))) ∧ ∀ i m H, W i m H →
      ((Itt K a).stop i H ∧ Qd H) ∨ ((Itt K a).go i H ∧ ∃ Nx : Hp → Prop, (∀ H', Nx H' → ∃ m', m' < m ∧ W (i + 1) m' H') ∧ ∀ x H', (Itt K a).yld i H x H' → g x (wipe σ vs) H' fun σ2 H2 => wipe σ2 vs = wipe σ vs ∧ tYes σ2 H2 fun b H3 =>
        if b = true then te σ2 H3 fun y H4 => ∃ acc, H4 D = some (.lst acc) ∧ acc.length < sizeLine ∧ Nx (upd H4 D (.lst (acc ++ [y]))) else Nx H3) := lc_tup (tt := tYes) Pv h0 hl hs hd
def rTupS (K : PySem.W.Frag) : List V → Hp → VK → Prop := fun xs H Q => ∃ p ys, xs = [.ref p] ∧ ((SqL K H p ys ∧ ∀ l, H l = none → Q (.ref l) (upd H l (.tup ys))) ∨ (SqT K H p ys ∧ Q (.ref p) H))
def rInKd (K : PySem.W.Frag) (d : Addr) (neg : Bool) : V → V → Hp → VK → Prop := fun x y H Q => ∃ (z : Str) (r : Option Value), x = .str z ∧ y = .ref d ∧ PySem.W.nsIn K d z = some r ∧ Q (.bl (if neg then !r.isSome else r.isSome)) H
theorem sm (n : Nat) (h : n ≤ 1000 := by omega) : n < sizeLine := Nat.lt_of_le_of_lt h (by decide)
theorem sml (n : Nat) (h : n ≤ 1000 := by omega) : n ≤ sizeLine := Nat.le_of_lt (sm n h)
theorem dpInts {K : PySem.W.Frag} {H : Hp} : ∀ ns : List Int, DpAll K H (ns.map V.int) (ns.map PyData.int)
  | [] => .nil
  | n :: ns => .cons (.int n) (dpInts ns)
theorem intsDepth : ∀ ns : List Int, PyData.depthAll (ns.map PyData.int) = 0
  | [] => by simp [PyData.depthAll]
  | n :: ns => by simp [PyData.depthAll, PyData.depth, intsDepth ns]
theorem intsLay : ∀ ns : List Int, PyData.canLayAll0 (ns.map PyData.int) = true
  | [] => by simp [PyData.canLayAll0]
  | n :: ns => by simp [PyData.canLayAll0, PyData.canLay0, intsLay ns]
theorem intsShaped (ns : List Int) : SeqAt.shaped (.list (ns.map PyData.int)) = true := by
  show (PyData.canLay0 (.list (ns.map PyData.int)) && decide (PyData.depth (.list (ns.map PyData.int)) ≤ 64)) = true
  rw [Bool.and_eq_true]
  refine ⟨by simp only [PyData.canLay0]; exact intsLay ns, decide_eq_true ?_⟩
  simp only [PyData.depth]
  rw [intsDepth]
  omega
theorem eqvNil (ns : List Int) : PyData.eqv (.list (ns.map PyData.int)) (.list []) = ns.isEmpty := by
  cases ns with
  | nil => simp [PyData.eqv, PyData.eqvAll]
  | cons n ns => simp [PyData.eqv, PyData.eqvAll]
theorem k_tuple_tuple {K : PySem.W.Frag} : PySem.W.kitOne K (.type "tuple") (.type "tuple") = some true := kit_ty (by decide +kernel)
theorem k_tuple_list {K : PySem.W.Frag} : PySem.W.kitOne K (.type "tuple") (.type "list") = some false := kit_ty (by decide +kernel)
theorem k_int_tuple {K : PySem.W.Frag} : PySem.W.kitOne K (.type "int") (.type "tuple") = some false := kit_ty (by decide +kernel)
theorem k_int_int {K : PySem.W.Frag} : PySem.W.kitOne K (.type "int") (.type "int") = some true := kit_ty (by decide +kernel)
theorem k_int_str {K : PySem.W.Frag} : PySem.W.kitOne K (.type "int") (.type "str") = some false := kit_ty (by decide +kernel)
theorem k_int_bool {K : PySem.W.Frag} : PySem.W.kitOne K (.type "int") (.type "bool") = some false := kit_ty (by decide +kernel)
theorem k_int_list {K : PySem.W.Frag} : PySem.W.kitOne K (.type "int") (.type "list") = some false := kit_ty (by decide +kernel)
theorem k_str_tuple {K : PySem.W.Frag} : PySem.W.kitOne K (.type "str") (.type "tuple") = some false := kit_ty (by decide +kernel)
theorem k_str_str {K : PySem.W.Frag} : PySem.W.kitOne K (.type "str") (.type "str") = some true := kit_ty (by decide +kernel)
theorem k_str_list {K : PySem.W.Frag} : PySem.W.kitOne K (.type "str") (.type "list") = some false := kit_ty (by decide +kernel)
theorem k_bool_tuple {K : PySem.W.Frag} : PySem.W.kitOne K (.type "bool") (.type "tuple") = some false := kit_ty (by decide +kernel)
theorem k_bool_str {K : PySem.W.Frag} : PySem.W.kitOne K (.type "bool") (.type "str") = some false := kit_ty (by decide +kernel)
theorem k_bool_bool {K : PySem.W.Frag} : PySem.W.kitOne K (.type "bool") (.type "bool") = some true := kit_ty (by decide +kernel)
theorem k_bool_list {K : PySem.W.Frag} : PySem.W.kitOne K (.type "bool") (.type "list") = some false := kit_ty (by decide +kernel)
theorem k_list_tuple {K : PySem.W.Frag} : PySem.W.kitOne K (.type "list") (.type "tuple") = some false := kit_ty (by decide +kernel)
theorem k_list_list {K : PySem.W.Frag} : PySem.W.kitOne K (.type "list") (.type "list") = some true := kit_ty (by decide +kernel)
theorem k_NoneType_tuple {K : PySem.W.Frag} : PySem.W.kitOne K (.type "NoneType") (.type "tuple") = some false := kit_ty (by decide +kernel)
theorem k_NoneType_list {K : PySem.W.Frag} : PySem.W.kitOne K (.type "NoneType") (.type "list") = some false := kit_ty (by decide +kernel)
end Ov

/-! ### bodies as data -/
namespace Ov
open PySem PySem.Spec PyProof.Rows L2
inductive Op where
  | num | arg | way | plus | less | times | ife | thn | say | call | through
  deriving DecidableEq
def Op.name : Op → Str
  | .num => "num" | .arg => "argument" | .way => "way" | .plus => "plus" | .less => "less" | .times => "times" | .ife => "if" | .thn => "then" | .say => "say" | .call => "call" | .through => "through"
def Op.arity : Op → Nat
  | .num => 0 | .arg => 0 | .way => 0 | .plus => 2 | .less => 2 | .times => 2 | .ife => 3 | .thn => 2 | .say => 1 | .call => 1 | .through => 2
def Op.gives : Op → Bool
  | .num => true | .way => true | .call => true | _ => false
def Op.pre (o : Op) (g : Int) : List V := if o.gives then [.int g] else []
def Op.fits (n : Nat) : Op → Int → Prop
  | .num, g => 0 ≤ g ∧ g ≤ 99
  | .way, g => 0 ≤ g ∧ g < n
  | .call, g => 0 ≤ g ∧ g < n
  | _, _ => True
/-- a word and what is within it -/
inductive W where
  | mk (o : Op) (g : Int) (as : List W)
def W.g : W → Int
  | .mk _ g _ => g
def W.as : W → List W
  | .mk _ _ as => as
mutual
def W.size : W → Nat
  | .mk _ _ as => 1 + W.sizes as
def W.sizes : List W → Nat
  | [] => 0
  | w :: ws => w.size + W.sizes ws
end
/-- words of n functions, at most d within one another -/
inductive WOk (n : Nat) : Nat → W → Prop
  | mk {d : Nat} {o : Op} {g : Int} {as : List W} : as.length = o.arity → o.fits n g → (∀ a ∈ as, WOk n d a) → WOk n (d + 1) (.mk o g as)
theorem WOk.mono {n d e : Nat} {w : W} (h : WOk n d w) : d ≤ e → WOk n e w := by
  induction h generalizing e with
  | @mk d o g as h1 h2 _ ih =>
    intro le
    obtain ⟨f, rfl⟩ : ∃ f, e = f + 1 := ⟨e - 1, by omega⟩
    exact .mk h1 h2 fun a ha => ih a ha (by omega)
mutual
/-- the word w stands at v -/
inductive WAt (H : Hp) : V → W → Prop
  | mk {a : Addr} {o : Op} {g : Int} {vs : List V} {as : List W} : H a = some (.tup (.str o.name :: (o.pre g ++ vs))) → WsAt H vs as → WAt H (.ref a) (.mk o g as)
inductive WsAt (H : Hp) : List V → List W → Prop
  | nil : WsAt H [] []
  | cons {v : V} {vs : List V} {w : W} {ws : List W} : WAt H v w → WsAt H vs ws → WsAt H (v :: vs) (w :: ws)
end
/-- tuples stay -/
def Keep (H H' : Hp) : Prop := ∀ a xs, H a = some (.tup xs) → H' a = some (.tup xs)
theorem Keep.refl (H : Hp) : Keep H H := fun _ _ e => e
theorem Keep.trans {H H1 H2 : Hp} (a : Keep H H1) (b : Keep H1 H2) : Keep H H2 := fun x o e => b x o (a x o e)
theorem Keep.same {H H' : Hp} (e : Same H H') : Keep H H' := fun a xs h => e a _ h
theorem Keep.but {h c : Addr} {H H' : Hp} (b : But h c H H') (d : Dr H h c) : Keep H H' := fun _ _ e => b.tup d e
theorem Keep.updL {H : Hp} {a : Addr} {xs ys : List V} (e : H a = some (.lst xs)) : Keep H (upd H a (.lst ys)) := fun b zs h => by
  rw [upd_ne (ne_of h e (by intro z; cases z))]
  exact h
mutual
theorem WAt.keep {H H' : Hp} (k : Keep H H') : ∀ {v : V} {w : W}, WAt H v w → WAt H' v w
  | _, _, .mk h r => .mk (k _ _ h) (WsAt.keep k r)
theorem WsAt.keep {H H' : Hp} (k : Keep H H') : ∀ {vs : List V} {ws : List W}, WsAt H vs ws → WsAt H' vs ws
  | _, _, .nil => .nil
  | _, _, .cons h r => .cons (h.keep k) (WsAt.keep k r)
end
theorem WsAt.length {H : Hp} : ∀ {vs : List V} {ws : List W}, WsAt H vs ws → vs.length = ws.length
  | _, _, .nil => rfl
  | _, _, .cons _ r => congrArg Nat.succ (WsAt.length r)
theorem WsAt.get {H : Hp} : ∀ {vs : List V} {ws : List W} {i : Nat} {v : V}, WsAt H vs ws → vs[i]? = some v → ∃ w, ws[i]? = some w ∧ WAt H v w
  | _, _, _, _, .nil, e => by simp at e
  | _, _, 0, _, .cons h r, e => by
    have e2 := Option.some.inj e
    subst e2
    exact ⟨_, rfl, h⟩
  | _, _, i + 1, v, .cons _ r, e => WsAt.get (i := i) (v := v) r e
theorem WAt.ref {H : Hp} {v : V} {w : W} (h : WAt H v w) : ∃ b xs, v = .ref b ∧ H b = some (.tup xs) := by
  cases h with
  | mk h _ => exact ⟨_, _, rfl, h⟩
theorem W.size_mk (o : Op) (g : Int) (as : List W) : (W.mk o g as).size = 1 + W.sizes as := by rw [W.size]
theorem W.sizes_sum : ∀ ws : List W, ((W.sizes ws : Nat) : Int) = (ws.map fun z => (z.size : Int)).sum
  | [] => by unfold W.sizes; rfl
  | w :: ws => by
    have ih := W.sizes_sum ws
    unfold W.sizes
    rw [List.map_cons, List.sum_cons]
    omega
/-- a word of n functions, d deep, at v -/
def Wd (H : Hp) (n d : Nat) (v : V) : Prop := ∃ w, WAt H v w ∧ WOk n d w
theorem Wd.keep {H H' : Hp} {n d : Nat} {v : V} (k : Keep H H') (h : Wd H n d v) : Wd H' n d v := by
  obtain ⟨w, h1, h2⟩ := h
  exact ⟨w, h1.keep k, h2⟩
theorem Wd.mono {H : Hp} {n d e : Nat} {v : V} (h : Wd H n d v) (le : d ≤ e) : Wd H n e v := by
  obtain ⟨w, h1, h2⟩ := h
  exact ⟨w, h1, h2.mono le⟩
theorem wd0 {H : Hp} {n d : Nat} {a : Addr} (o : Op) (g : Int) (e : H a = some (.tup (.str o.name :: (o.pre g ++ [])))) (f : o.fits n g) (ha : o.arity = 0 := by rfl) : Wd H n (d + 1) (.ref a) :=
  ⟨.mk o g [], .mk e .nil, .mk ha.symm f (fun _ h => by cases h)⟩
theorem wd1 {H : Hp} {n d : Nat} {a : Addr} {x : V} (o : Op) (g : Int) (e : H a = some (.tup (.str o.name :: (o.pre g ++ [x])))) (f : o.fits n g) (hx : Wd H n d x) (ha : o.arity = 1 := by rfl) : Wd H n (d + 1) (.ref a) := by
  obtain ⟨w, h1, h2⟩ := hx
  exact ⟨.mk o g [w], .mk e (.cons h1 .nil), .mk ha.symm f (fun z h => by
    rcases List.mem_singleton.mp h with rfl
    exact h2)⟩
theorem wd2 {H : Hp} {n d : Nat} {a : Addr} {x y : V} (o : Op) (g : Int) (e : H a = some (.tup (.str o.name :: (o.pre g ++ [x, y])))) (f : o.fits n g) (hx : Wd H n d x) (hy : Wd H n d y) (ha : o.arity = 2 := by rfl) : Wd H n (d + 1) (.ref a) := by
  obtain ⟨w, h1, h2⟩ := hx
  obtain ⟨u, h3, h4⟩ := hy
  exact ⟨.mk o g [w, u], .mk e (.cons h1 (.cons h3 .nil)), .mk ha.symm f (fun z h => by
    simp only [List.mem_cons, List.mem_nil_iff, or_false] at h
    rcases h with rfl | rfl
    · exact h2
    · exact h4)⟩
theorem wd3 {H : Hp} {n d : Nat} {a : Addr} {x y z : V} (o : Op) (g : Int) (e : H a = some (.tup (.str o.name :: (o.pre g ++ [x, y, z])))) (f : o.fits n g) (hx : Wd H n d x) (hy : Wd H n d y) (hz : Wd H n d z) (ha : o.arity = 3 := by rfl) : Wd H n (d + 1) (.ref a) := by
  obtain ⟨w, h1, h2⟩ := hx
  obtain ⟨u, h3, h4⟩ := hy
  obtain ⟨q, h5, h6⟩ := hz
  exact ⟨.mk o g [w, u, q], .mk e (.cons h1 (.cons h3 (.cons h5 .nil))), .mk ha.symm f (fun r h => by
    simp only [List.mem_cons, List.mem_nil_iff, or_false] at h
    rcases h with rfl | rfl | rfl
    · exact h2
    · exact h4
    · exact h6)⟩
/-! ### what a body is drawn by -/
def KindS (k : Str) : Prop := k = "number" ∨ k = "way"
structure EnvAt (H : Hp) (h c e : Addr) (n : Nat) (came : Str) (pl kl : Addr) (ps : List Int) (ks : List Str) : Prop where
  e : H e = some (.dK [(.inr "came", .str came), (.inr "plain", .ref pl), (.inr "kinds", .ref kl)])
  ck : KindS came
  p : H pl = some (.lst (ps.map V.int))
  p0 : ps ≠ []
  p8 : ps.length ≤ 8
  pn : ∀ x ∈ ps, 0 ≤ x ∧ x < n
  k : H kl = some (.lst (ks.map V.str))
  kn : ks.length = n
  n1 : 1 ≤ n
  n8 : n ≤ 8
  kk : ∀ x ∈ ks, KindS x
  ph : pl ≠ h
  pc : pl ≠ c
  kh : kl ≠ h
  kc : kl ≠ c
theorem EnvAt.but {H H' : Hp} {h c e : Addr} {n : Nat} {came : Str} {pl kl : Addr} {ps : List Int} {ks : List Str} (x : EnvAt H h c e n came pl kl ps ks) (d : Dr H h c) (b : But h c H H') : EnvAt H' h c e n came pl kl ps ks := by
  obtain ⟨m, k, ns, h1, h2, _⟩ := d
  exact { x with
    e := b _ _ (ne_of x.e h1 (by intro z; cases z)) (ne_of x.e h2 (by intro z; cases z)) x.e
    p := b _ _ x.ph x.pc x.p
    k := b _ _ x.kh x.kc x.k }
theorem EnvAt.same {H H' : Hp} {h c e : Addr} {n : Nat} {came : Str} {pl kl : Addr} {ps : List Int} {ks : List Str} (x : EnvAt H h c e n came pl kl ps ks) (b : Same H H') : EnvAt H' h c e n came pl kl ps ks :=
  { x with
    e := b _ _ x.e
    p := b _ _ x.p
    k := b _ _ x.k }
theorem kind_at {ks : List Str} (hk : ∀ x ∈ ks, KindS x) {r : Int} (h0 : 0 ≤ r) (h1 : r < ks.length) : ∃ k, KindS k ∧ atI (ks.map V.str) r = some (.str k) := by
  obtain ⟨j, rfl⟩ : ∃ j : Nat, r = (j : Int) := ⟨r.toNat, by omega⟩
  have hl : j < ks.length := by omega
  refine ⟨ks[j], hk _ (List.getElem_mem hl), ?_⟩
  exact atI_nat (by rw [List.getElem?_map, List.getElem?_eq_getElem hl]; rfl)
theorem int_at {ps : List Int} {P : Int → Prop} (hk : ∀ x ∈ ps, P x) {r : Int} (h0 : 0 ≤ r) (h1 : r < ps.length) : ∃ k, P k ∧ atI (ps.map V.int) r = some (.int k) := by
  obtain ⟨j, rfl⟩ : ∃ j : Nat, r = (j : Int) := ⟨r.toNat, by omega⟩
  have hl : j < ps.length := by omega
  refine ⟨ps[j], hk _ (List.getElem_mem hl), ?_⟩
  exact atI_nat (by rw [List.getElem?_map, List.getElem?_eq_getElem hl]; rfl)
theorem val_at {vs : List V} {P : V → Prop} (hk : ∀ x ∈ vs, P x) {r : Int} (h0 : 0 ≤ r) (h1 : r < vs.length) : ∃ k, P k ∧ atI vs r = some k := by
  obtain ⟨j, rfl⟩ : ∃ j : Nat, r = (j : Int) := ⟨r.toNat, by omega⟩
  have hl : j < vs.length := by omega
  refine ⟨vs[j], hk _ (List.getElem_mem hl), ?_⟩
  exact atI_nat (List.getElem?_eq_getElem hl)
theorem two_at (x y : V) {r : Int} (h0 : 0 ≤ r) (h1 : r < 2) : atI [x, y] r = some (if r = 0 then x else y) := by
  rcases (by omega : r = 0 ∨ r = 1) with rfl | rfl <;> rfl
/-- the shape of a body's promise: a word of n functions comes, d deep -/
def spWord (n : Nat) (d : Nat) (pre : List V → Hp → Addr → Addr → Prop) : Sp := fun vs H Q _ => ∃ h c, pre vs H h c ∧ Dr H h c ∧
  ∀ v H', But h c H H' → Dr H' h c → Wd H' n d v → Q v H'
def preE (n : Nat) (h c e : Addr) (H : Hp) : Prop := ∃ came pl kl ps ks, EnvAt H h c e n came pl kl ps ks
theorem preE.but {H H' : Hp} {h c e : Addr} {n : Nat} (x : preE n h c e H) (d : Dr H h c) (b : But h c H H') : preE n h c e H' := by
  obtain ⟨came, pl, kl, ps, ks, x⟩ := x
  exact ⟨came, pl, kl, ps, ks, x.but d b⟩
def preLeaf (n : Nat) : List V → Hp → Addr → Addr → Prop := fun vs H h c => ∃ e k, vs = [.ref h, .ref e, .str k] ∧ KindS k ∧ preE n h c e H
def preBody (n m : Nat) : List V → Hp → Addr → Addr → Prop := fun vs H h c => ∃ e k z, vs = [.ref h, .ref e, .str k, .int z] ∧ z = (m : Int) ∧ KindS k ∧ preE n h c e H
def preDeep (n m : Nat) : List V → Hp → Addr → Addr → Prop := fun vs H h c => ∃ e z, vs = [.ref h, .ref e, .int z] ∧ z = (m : Int) ∧ preE n h c e H
theorem kindN : KindS "number" := .inl rfl
theorem kindW : KindS "way" := .inr rfl
theorem two_kinds (r : Int) (h0 : 0 ≤ r) (h1 : r < 2) : ∃ k, KindS k ∧ atI [V.str "number", .str "way"] r = some (.str k) := by
  rcases (by omega : r = 0 ∨ r = 1) with rfl | rfl
  · exact ⟨_, kindN, rfl⟩
  · exact ⟨_, kindW, rfl⟩
theorem three_words (r : Int) (h0 : 0 ≤ r) (h1 : r < 3) : ∃ o : Op, o.arity = 2 ∧ o.gives = false ∧ (∀ n g, o.fits n g) ∧ atI [V.str "plus", .str "less", .str "times"] r = some (.str o.name) := by
  rcases (by omega : r = 0 ∨ r = 1 ∨ r = 2) with rfl | rfl | rfl
  · exact ⟨.plus, rfl, rfl, fun _ _ => trivial, rfl⟩
  · exact ⟨.less, rfl, rfl, fun _ _ => trivial, rfl⟩
  · exact ⟨.times, rfl, rfl, fun _ _ => trivial, rfl⟩
theorem Dr.new {H : Hp} {h c l : Addr} (d : Dr H h c) (hl : H l = none) : l ≠ h ∧ l ≠ c := by
  obtain ⟨m, k, ns, h1, h2, _⟩ := d
  exact ⟨(ne_of_none h1 hl).symm, (ne_of_none h2 hl).symm⟩
theorem wds_keep {H H' : Hp} {n d : Nat} {vs : List V} (k : Keep H H') (h : ∀ v ∈ vs, Wd H n d v) : ∀ v ∈ vs, Wd H' n d v := fun v hv => (h v hv).keep k
theorem wds_app {H : Hp} {n d : Nat} {vs us : List V} (h : ∀ v ∈ vs, Wd H n d v) (h' : ∀ v ∈ us, Wd H n d v) : ∀ v ∈ vs ++ us, Wd H n d v := fun v hv => by
  rcases List.mem_append.mp hv with q | q
  · exact h v q
  · exact h' v q
theorem wds_one {H : Hp} {n d : Nat} {v : V} (h : Wd H n d v) : ∀ u ∈ [v], Wd H n d u := fun u hu => by
  rcases List.mem_singleton.mp hu with rfl
  exact h
end Ov
namespace Ov
open PySem PySem.Spec PyProof.Rows L2
def spWords (d : Nat) : Sp := fun vs H Q _ => ∃ v n u, vs = [v] ∧ WAt H v u ∧ WOk n d u ∧ ∀ H', Same H H' → Q (.int (u.size : Int)) H'
end Ov
/-! ### programs -/
namespace Ov
open PySem PySem.Spec PyProof.Rows L2
/-- the function f stands at v -/
def FAt (H : Hp) (v : V) (f : Int × W) : Prop := ∃ b bv, v = .ref b ∧ H b = some (.tup [.int f.1, bv]) ∧ WAt H bv f.2
def PrAt (H : Hp) (v : V) (p : List (Int × W)) : Prop := ∃ a vs, v = .ref a ∧ H a = some (.tup vs) ∧ Paired (FAt H) vs p
def FOk (n : Nat) (f : Int × W) : Prop := 1 ≤ f.1 ∧ f.1 ≤ 8 ∧ WOk n 7 f.2 ∧ f.2.size ≤ 40
structure PrOk (p : List (Int × W)) : Prop where
  l1 : 1 ≤ p.length
  l8 : p.length ≤ 8
  f : ∀ f ∈ p, FOk p.length f
theorem FAt.keep {H H' : Hp} {v : V} {f : Int × W} (k : Keep H H') (h : FAt H v f) : FAt H' v f := by
  obtain ⟨b, bv, e, h1, h2⟩ := h
  exact ⟨b, bv, e, k _ _ h1, h2.keep k⟩
theorem PrAt.keep {H H' : Hp} {v : V} {p : List (Int × W)} (k : Keep H H') (h : PrAt H v p) : PrAt H' v p := by
  obtain ⟨a, vs, e, h1, h2⟩ := h
  exact ⟨a, vs, e, k _ _ h1, L2.Paired.mapP h2 fun _ _ z => z.keep k⟩
theorem wok0 {n : Nat} {w : W} : ¬ WOk n 0 w := fun h => nomatch h
theorem wok1_size {n : Nat} {w : W} (h : WOk n 1 w) : w.size = 1 := by
  cases h with
  | @mk d o g as h1 h2 h3 =>
    cases as with
    | nil => rw [W.size_mk]; rfl
    | cons a r => exact absurd (h3 a List.mem_cons_self) wok0
theorem three_kinds (r : Int) (h0 : 0 ≤ r) (h1 : r < 3) : ∃ k, KindS k ∧ atI [V.str "number", .str "number", .str "way"] r = some (.str k) := by
  rcases (by omega : r = 0 ∨ r = 1 ∨ r = 2) with rfl | rfl | rfl
  · exact ⟨_, kindN, rfl⟩
  · exact ⟨_, kindN, rfl⟩
  · exact ⟨_, kindW, rfl⟩
theorem four_kinds (r : Int) (h0 : 0 ≤ r) (h1 : r < 4) : ∃ k, KindS k ∧ atI [V.str "number", .str "number", .str "number", .str "way"] r = some (.str k) := by
  rcases (by omega : r = 0 ∨ r = 1 ∨ r = 2 ∨ r = 3) with rfl | rfl | rfl | rfl
  · exact ⟨_, kindN, rfl⟩
  · exact ⟨_, kindN, rfl⟩
  · exact ⟨_, kindN, rfl⟩
  · exact ⟨_, kindW, rfl⟩
theorem two_sizes (r : Int) (h0 : 0 ≤ r) (h1 : r < 2) : ∃ z : Int, 1 ≤ z ∧ z ≤ 8 ∧ atI [V.int 2, .int 8] r = some (.int z) := by
  rcases (by omega : r = 0 ∨ r = 1) with rfl | rfl
  · exact ⟨2, by decide, by decide, rfl⟩
  · exact ⟨8, by decide, by decide, rfl⟩
/-- the bodies' promises, for any number of functions and any depth up to 4 -/
def spBodies : Sp := fun vs H Q E => ∃ i : Nat × _root_.Fin 5, spWord i.1 (i.2.val + 2) (preBody i.1 i.2.val) vs H Q E
def spLeaves : Sp := fun vs H Q E => ∃ n : Nat, spWord n 1 (preLeaf n) vs H Q E
end Ov

/-! ### trees as data -/
namespace Ov
open PySem PySem.Spec PyProof.Rows L2
theorem flat_set {α : Type} (x : α) : ∀ (ps : List (List α)) (k : Nat) (p : List α), ps[k]? = some p → (ps.set k (p ++ [x])).flatten.Perm (ps.flatten ++ [x])
  | [], k, p, h => by simp at h
  | q :: r, 0, p, h => by
    have e : q = p := Option.some.inj h
    subst e
    show ((q ++ [x]) ++ r.flatten).Perm ((q ++ r.flatten) ++ [x])
    rw [List.append_assoc, List.append_assoc]
    exact List.Perm.append_left q List.perm_append_comm
  | q :: r, k + 1, p, h => by
    show (q ++ (r.set k (p ++ [x])).flatten).Perm ((q ++ r.flatten) ++ [x])
    rw [List.append_assoc]
    exact List.Perm.append_left q (flat_set x r k p h)
theorem erase_perm {α : Type} : ∀ (l : List α) (k : Nat) (x : α), l[k]? = some x → (x :: l.eraseIdx k).Perm l
  | [], k, x, h => by simp at h
  | a :: r, 0, x, h => by
    have e : a = x := Option.some.inj h
    subst e
    exact List.Perm.refl _
  | a :: r, k + 1, x, h => by
    have ih := erase_perm r k x h
    show (x :: a :: r.eraseIdx k).Perm (a :: r)
    exact (List.Perm.swap a x _).trans (ih.cons a)
def nV (p : List Nat) : List V := p.map fun (x : Nat) => V.int (x : Int)
theorem nV_len (p : List Nat) : (nV p).length = p.length := List.length_map _
theorem nV_get {p : List Nat} {k x : Nat} (h : p[k]? = some x) : (nV p)[k]? = some (.int (x : Int)) := by unfold nV; rw [List.getElem?_map, h]; rfl
theorem nV_app (p : List Nat) (x : Nat) : nV (p ++ [x]) = nV p ++ [.int (x : Int)] := List.map_append
theorem nV_erase : ∀ (p : List Nat) (k : Nat), (nV p).eraseIdx k = nV (p.eraseIdx k)
  | [], _ => rfl
  | _ :: _, 0 => rfl
  | a :: r, k + 1 => congrArg (V.int (a : Int) :: ·) (nV_erase r k)
theorem rgV_nV (n : Nat) : rgV 0 (n : Int) = nV (List.range n) := by
  unfold rgV nV
  rw [show ((n : Int) - 0).toNat = n by omega]
  refine List.map_congr_left fun i _ => ?_
  rw [Int.zero_add]
/-- what parts of i functions are -/
structure PInv (i : Nat) (ps : List (List Nat)) : Prop where
  ne : ∀ p ∈ ps, p ≠ []
  rise : ∀ p ∈ ps, p.Pairwise (· < ·)
  firsts : (ps.map (·.headD 0)).Pairwise (· < ·)
  perm : ps.flatten.Perm (List.range i)
theorem PInv.lt {i : Nat} {ps : List (List Nat)} (h : PInv i ps) {p : List Nat} (hp : p ∈ ps) {x : Nat} (hx : x ∈ p) : x < i :=
  List.mem_range.mp (h.perm.mem_iff.mp (List.mem_flatten.mpr ⟨p, hp, hx⟩))
theorem PInv.head {i : Nat} {ps : List (List Nat)} (h : PInv i ps) {p : List Nat} (hp : p ∈ ps) : p.headD 0 < i := by
  have ne := h.ne p hp
  cases p with
  | nil => exact absurd rfl ne
  | cons a r => exact h.lt hp List.mem_cons_self
theorem PInv.app {i : Nat} {ps : List (List Nat)} (h : PInv i ps) : PInv (i + 1) (ps ++ [[i]]) where
  ne := fun p hp => by
    rcases List.mem_append.mp hp with z | z
    · exact h.ne p z
    · rw [List.mem_singleton.mp z]; exact List.cons_ne_nil _ _
  rise := fun p hp => by
    rcases List.mem_append.mp hp with z | z
    · exact h.rise p z
    · rw [List.mem_singleton.mp z]; exact List.pairwise_singleton _ _
  firsts := by
    rw [List.map_append, List.pairwise_append]
    refine ⟨h.firsts, List.pairwise_singleton _ _, fun a ha b hb => ?_⟩
    obtain ⟨p, hp, rfl⟩ := List.mem_map.mp ha
    have e : b = i := by simpa using hb
    rw [e]
    exact h.head hp
  perm := by
    rw [List.flatten_append, List.range_succ]
    exact List.Perm.append_right _ h.perm
theorem mem_set_cases {α : Type} {l : List α} {k : Nat} {x y : α} (h : y ∈ l.set k x) : y ∈ l ∨ y = x := List.mem_or_eq_of_mem_set h
theorem PInv.set {i k : Nat} {ps : List (List Nat)} {p : List Nat} (h : PInv i ps) (hk : ps[k]? = some p) : PInv (i + 1) (ps.set k (p ++ [i])) where
  ne := fun q hq => by
    rcases mem_set_cases hq with z | z
    · exact h.ne q z
    · rw [z]; simp
  rise := fun q hq => by
    rcases mem_set_cases hq with z | z
    · exact h.rise q z
    · rw [z, List.pairwise_append]
      refine ⟨h.rise p (List.mem_of_getElem? hk), List.pairwise_singleton _ _, fun a ha b hb => ?_⟩
      rw [List.mem_singleton.mp hb]
      exact h.lt (List.mem_of_getElem? hk) ha
  firsts := by
    have e : (ps.set k (p ++ [i])).map (·.headD 0) = ps.map (·.headD 0) := by
      rw [List.map_set]
      have ne := h.ne p (List.mem_of_getElem? hk)
      have e2 : (p ++ [i]).headD 0 = p.headD 0 := by
        cases p with
        | nil => exact absurd rfl ne
        | cons a r => rfl
      rw [e2]
      refine List.ext_getElem? fun j => ?_
      rw [List.getElem?_set]
      split
      · rename_i z
        subst z
        rw [List.getElem?_map, hk]
        split
        · rfl
        · rename_i y
          have := (List.getElem?_eq_some_iff.mp hk).1
          rw [List.length_map] at y
          exact absurd this y
      · rfl
    rw [e]
    exact h.firsts
  perm := by
    rw [List.range_succ]
    exact (flat_set i ps k p hk).trans (List.Perm.append_right _ h.perm)
/-- on what parts stand, by their order -/
def SInv (od : List Nat) (st : List Int) : Prop := ∀ (t x : Nat), od[t]? = some x → st[x]? = some (-1) ∨ ∃ (j y : Nat), j < t ∧ od[j]? = some y ∧ st[x]? = some ((y : Nat) : Int)
theorem SInv.set {od : List Nat} {st : List Int} {k x : Nat} {z : Int} (h : SInv od st) (nd : od.Nodup) (hk : od[k]? = some x) (hx : x < st.length) (hz : z = -1 ∨ ∃ (j y : Nat), j < k ∧ od[j]? = some y ∧ z = ((y : Nat) : Int)) : SInv od (st.set x z) := fun t y hy => by
  by_cases e : x = y
  · subst e
    have et : t = k := by
      obtain ⟨h1, e1⟩ := List.getElem?_eq_some_iff.mp hy
      obtain ⟨h2, e2⟩ := List.getElem?_eq_some_iff.mp hk
      exact (List.getElem_inj nd).mp (e1.trans e2.symm)
    subst et
    rw [List.getElem?_set_self hx]
    rcases hz with rfl | ⟨j, y, h1, h2, rfl⟩
    · exact .inl rfl
    · exact .inr ⟨j, y, h1, h2, rfl⟩
  · rw [List.getElem?_set_ne e]
    exact h t y hy
/-- a tree of n functions: parts, on what they stand -/
structure TrOk (n : Nat) (ps : List (List Nat)) (st : List Int) : Prop where
  p : PInv n ps
  len : st.length = ps.length
  ord : ∃ od : List Nat, od.Perm (List.range ps.length) ∧ SInv od st
def PartAt (H : Hp) (v : V) (p : List Nat) : Prop := ∃ b, v = .ref b ∧ H b = some (.tup (nV p))
def TrAt (H : Hp) (v : V) (ps : List (List Nat)) (st : List Int) : Prop := ∃ a pa sa vs, v = .ref a ∧ H a = some (.tup [.ref pa, .ref sa]) ∧ H pa = some (.tup vs) ∧ Paired (PartAt H) vs ps ∧ H sa = some (.tup (st.map V.int))
theorem PartAt.keep {H H' : Hp} {v : V} {p : List Nat} (k : Keep H H') (h : PartAt H v p) : PartAt H' v p := by
  obtain ⟨b, e, h⟩ := h
  exact ⟨b, e, k _ _ h⟩
theorem TrAt.keep {H H' : Hp} {v : V} {ps : List (List Nat)} {st : List Int} (k : Keep H H') (h : TrAt H v ps st) : TrAt H' v ps st := by
  obtain ⟨a, pa, sa, vs, e, h1, h2, h3, h4⟩ := h
  exact ⟨a, pa, sa, vs, e, k _ _ h1, k _ _ h2, L2.Paired.mapP h3 fun _ _ z => z.keep k, k _ _ h4⟩
/-- lists that grow: each its own -/
def LsAt (H : Hp) (bs : List Addr) (qs : List (List Nat)) : Prop := Paired (fun b q => H b = some (.lst (nV q))) bs qs
theorem LsAt.keep {H H' : Hp} : ∀ {bs : List Addr} {qs : List (List Nat)}, (∀ b ∈ bs, ∀ o, H b = some o → H' b = some o) → LsAt H bs qs → LsAt H' bs qs
  | _, _, _, .nil => .nil
  | _, _, k, .cons h r => .cons (k _ List.mem_cons_self _ h) (LsAt.keep (fun b hb => k b (List.mem_cons_of_mem _ hb)) r)
theorem LsAt.get {H : Hp} : ∀ {bs : List Addr} {qs : List (List Nat)} {k : Nat} {q : List Nat}, LsAt H bs qs → qs[k]? = some q → ∃ b, bs[k]? = some b ∧ H b = some (.lst (nV q))
  | _, _, _, _, .nil, e => by simp at e
  | _, _, 0, q, .cons h r, e => by
    have e2 := Option.some.inj e
    subst e2
    exact ⟨_, rfl, h⟩
  | _, _, k + 1, q, .cons _ r, e => LsAt.get (k := k) (q := q) r e
theorem LsAt.set {H : Hp} : ∀ {bs : List Addr} {qs : List (List Nat)} {k : Nat} {b : Addr} {q' : List Nat}, LsAt H bs qs → bs.Nodup → bs[k]? = some b → LsAt (upd H b (.lst (nV q'))) bs (qs.set k q')
  | _, _, _, _, _, .nil, _, e => by simp at e
  | a :: bs, _ :: qs, 0, b, q', .cons h r, nd, e => by
    have e2 : a = b := Option.some.inj e
    subst e2
    refine .cons upd_same (LsAt.keep (fun c hc o ho => ?_) r)
    have ne : c ≠ a := fun z => by rw [z] at hc; exact (List.nodup_cons.mp nd).1 hc
    rw [upd_ne ne]
    exact ho
  | a :: bs, _ :: qs, k + 1, b, q', .cons h r, nd, e => by
    have hb : b ∈ bs := List.mem_of_getElem? (show bs[k]? = some b from e)
    have ne : a ≠ b := fun z => by rw [z] at nd; exact (List.nodup_cons.mp nd).1 hb
    exact .cons (by rw [upd_ne ne]; exact h) (LsAt.set r (List.nodup_cons.mp nd).2 e)
theorem LsAt.mem {H : Hp} : ∀ {bs : List Addr} {qs : List (List Nat)}, LsAt H bs qs → ∀ b ∈ bs, ∃ q, H b = some (.lst (nV q))
  | _, _, .nil, b, hb => nomatch hb
  | _, _, .cons h r, b, hb => by
    rcases List.mem_cons.mp hb with z | z
    · rw [z]; exact ⟨_, h⟩
    · exact LsAt.mem r b z
theorem cut_to (xs : List V) (k : Nat) (h : k ≤ xs.length) : cutV xs none (some (k : Int)) = xs.take k := by
  unfold cutV
  rw [HT.sIx_none, HT.sIx_nat, Nat.min_eq_left h, List.drop_zero, Nat.sub_zero]
theorem mem_flat_len : ∀ {ps : List (List Nat)} {p : List Nat}, p ∈ ps → p.length ≤ ps.flatten.length
  | q :: r, p, h => by
    rw [List.flatten_cons, List.length_append]
    rcases List.mem_cons.mp h with z | z
    · rw [z]; omega
    · have := mem_flat_len z; omega
theorem flat_len : ∀ {ps : List (List Nat)}, (∀ p ∈ ps, p ≠ []) → ps.length ≤ ps.flatten.length
  | [], _ => Nat.le_refl _
  | q :: r, h => by
    have h1 := flat_len (ps := r) fun p hp => h p (List.mem_cons_of_mem _ hp)
    have h2 := List.length_pos_iff.mpr (h q List.mem_cons_self)
    rw [List.flatten_cons, List.length_append, List.length_cons]
    omega
theorem PInv.plen {i : Nat} {ps : List (List Nat)} (h : PInv i ps) {p : List Nat} (hp : p ∈ ps) : p.length ≤ i := by
  have h1 := mem_flat_len hp
  have h2 := h.perm.length_eq
  rw [List.length_range] at h2
  omega
theorem PInv.count {i : Nat} {ps : List (List Nat)} (h : PInv i ps) : ps.length ≤ i := by
  have h1 := flat_len h.ne
  have h2 := h.perm.length_eq
  rw [List.length_range] at h2
  omega
theorem PInv.pos {i : Nat} {ps : List (List Nat)} (h : PInv i ps) (hi : 0 < i) : 0 < ps.length := by
  cases ps with
  | nil =>
    have h2 := h.perm.length_eq
    rw [List.length_range] at h2
    exact absurd h2 (by show ¬ 0 = i; omega)
  | cons a r => exact Nat.succ_pos _
theorem set_last (ps : List (List Nat)) (x : List Nat) : (ps ++ [[]]).set ps.length x = ps ++ [x] := by
  rw [List.set_append_right (h := Nat.le_refl _), Nat.sub_self]
  rfl
theorem rep_neg (m : Nat) : (List.replicate ((m : Nat) : Int).toNat [V.int (-1)]).flatten = (List.replicate m (-1 : Int)).map V.int := by
  rw [Int.toNat_natCast]
  induction m with
  | zero => rfl
  | succ m ih =>
    show [V.int (-1)] ++ (List.replicate m [V.int (-1)]).flatten = _
    rw [ih]
    rfl
theorem SInv.start (od : List Nat) (m : Nat) (h : ∀ x ∈ od, x < m) : SInv od (List.replicate m (-1)) := fun t x hx => .inl (by
  rw [List.getElem?_replicate, if_pos (h x (List.mem_of_getElem? hx))])
/-- a tree is drawn -/
def spTree : Sp := fun vs H Q _ => ∃ h c a n vp, vs = [.ref h, .ref a] ∧ Dr H h c ∧ H a = some (.tup vp) ∧ vp.length = n ∧ 1 ≤ n ∧ n ≤ 8 ∧ ∀ v H' ps st, But h c H H' → Dr H' h c → TrAt H' v ps st → TrOk n ps st → Q v H'
end Ov

/-! ### enumerate and zip over lists and tuples alike -/
namespace Ov
open PySem PySem.Spec PyProof.Rows L2
/-- what is walked: a list | a tuple -/
inductive Sk where
  | l | t
def Sk.S (K : PySem.W.Frag) (H : Hp) (a : Addr) (xs : List V) : Sk → Prop
  | .l => SqL K H a xs
  | .t => SqT K H a xs
def Sk.It (h : Heap) (it a : Addr) (i : Nat) : Sk → Prop
  | .l => h.IsListIter it a i
  | .t => h.IsTupleIter it a i
def Sk.Is (h : Heap) (a : Addr) (its : Array Value) : Sk → Prop
  | .l => h.IsList a its
  | .t => h.IsTuple a its
def Sk.new (a : Addr) : Sk → Obj
  | .l => { cls := .type "list_iterator", data := .fields #[.ref a, .int 0 0] }
  | .t => { cls := .type "tuple_iterator", data := .fields #[.ref a, .int 0 0] }
def Sk.St (k : Sk) (it a : Addr) (its : Array Value) : Nat → Heap → Prop := fun i h => k.It h it a i ∧ k.Is h a its
theorem Sk.draws (k : Sk) {P : Program} {w : World} {A : Around} (hh : A.handled = none) (it a : Addr) (ne : a ≠ it) (its : Array Value) : Draws P w A it [it, a] its.size (fun i v => its[i]? = some v) (k.St it a its) := by
  cases k
  · exact Draws.list hh it a ne its
  · exact Draws.tuple hh it a ne its
theorem Sk.begins (k : Sk) (a : Addr) (its : Array Value) : Begins (.ref a) (k.new a) (fun h => k.Is h a its) := by
  cases k
  · exact begins_list a its
  · exact begins_tuple a its
theorem Sk.it_obj {k : Sk} {h : Heap} {it a : Addr} {i : Nat} (x : k.It h it a i) : ∃ o, h.get? it = some o ∧ ∀ v, o.data ≠ .cell v := by
  cases k
  · obtain ⟨o, h1, _, h2⟩ := x
    exact ⟨o, h1, fun v z => by rw [h2] at z; cases z⟩
  · obtain ⟨o, h1, _, h2⟩ := x
    exact ⟨o, h1, fun v z => by rw [h2] at z; cases z⟩
theorem Sk.it_keep {k : Sk} {h g : Heap} {it a : Addr} {i : Nat} (x : k.It h it a i) (q : ∀ o, h.get? it = some o → g.get? it = some o) : k.It g it a i := by
  cases k
  · exact Heap.IsListIter.at x q
  · exact Heap.IsTupleIter.at x q
theorem Sk.it_new {k : Sk} {h : Heap} {it a : Addr} (e : h.get? it = some (k.new a)) : k.It h it a 0 := by
  cases k
  · exact ⟨_, e, rfl, rfl⟩
  · exact ⟨_, e, rfl, rfl⟩
theorem Sk.is_lt {k : Sk} {h : Heap} {a : Addr} {its : Array Value} (x : k.Is h a its) : a < h.objs.size := by
  cases k
  · obtain ⟨o, e, _⟩ := x
    exact Heap.lt_size e
  · obtain ⟨o, e, _⟩ := x
    exact Heap.lt_size e
theorem Sk.read {k : Sk} {X : Cx} {pins : List (Addr × Obj)} {σ : L2.St} {H : Hp} {s : Shared} {a : Addr} {xs : List V} (I : Inv X pins σ H s) (h : k.S X.K H a xs) : ∃ its, Vals xs its ∧ k.Is s.heap a its.toArray := by
  cases k
  · obtain ⟨its, r, p, _⟩ := I.list h
    exact ⟨its, r, p.isList⟩
  · obtain ⟨its, r, p, _⟩ := I.tuple h
    exact ⟨its, r, p⟩
theorem Sk.inj {k : Sk} {X : Cx} {pins : List (Addr × Obj)} {σ : L2.St} {H : Hp} {s : Shared} {a : Addr} {xs ys : List V} (I : Inv X pins σ H s) (h : k.S X.K H a xs) (h' : k.S X.K H a ys) : xs = ys := by
  cases k
  · exact I.list_inj h h'
  · exact I.tuple_inj h h'
/-- enumerate: each item in a new pair -/
def EnI (K : PySem.W.Frag) (k : Sk) (a : Addr) : L2.It where
  go := fun i H => ∃ (xs : List V) (x : V), k.S K H a xs ∧ xs[i]? = some x
  yld := fun i H v H' => ∃ T x, v = .ref T ∧ H T = none ∧ H' = upd H T (.tup [.int (i : Nat), x]) ∧ ∀ xs, k.S K H a xs → xs[i]? = some x
  stop := fun i H => ∃ xs : List V, k.S K H a xs ∧ i = xs.length
/-- zip -/
def ZpI (K : PySem.W.Frag) (k m : Sk) (a b : Addr) : L2.It where
  go := fun i H => ∃ (xs ys : List V) (x y : V), k.S K H a xs ∧ m.S K H b ys ∧ xs[i]? = some x ∧ ys[i]? = some y
  yld := fun i H v H' => ∃ T x y, v = .ref T ∧ H T = none ∧ H' = upd H T (.tup [x, y]) ∧ (∀ xs, k.S K H a xs → xs[i]? = some x) ∧ ∀ ys, m.S K H b ys → ys[i]? = some y
  stop := fun i H => ∃ xs ys : List V, k.S K H a xs ∧ m.S K H b ys ∧ i ≤ xs.length ∧ i ≤ ys.length ∧ (i = xs.length ∨ i = ys.length)
/-- the cells of an enumerate -/
def EnT (k : Sk) (e it a : Addr) : Nat → Heap → Prop := fun i h => (∃ old, IsEnum h e it ((i : Nat) : Int) old) ∧ k.It h it a i ∧ e ≠ it ∧ a ≠ it ∧ e ≠ a
theorem two_mem {b e it : Addr} (h : b ∈ [e, it]) : b = e ∨ b = it := by simpa using h
theorem en_turn {P : Program} {w : World} {K : PySem.W.Frag} {elts : List Expr} {kk : Nat} {tpos : Pos} (k : Sk) (e it a : Addr) : Turn P w K (.Tuple elts kk tpos) (EnI K k a) [e, it] e (EnT k e it a) := by
  refine { mem := List.mem_cons_self, obj := ?_, keep := ?_, item := ?_, done := ?_, self := ?_ }
  · rintro i h ⟨⟨old, h1⟩, h2, _⟩ b hb
    rcases two_mem hb with z | z
    · refine ⟨_, by rw [z]; exact h1, ?_⟩
      intro v y
      cases y
    · rw [z]
      exact Sk.it_obj h2
  · rintro i h g ⟨⟨old, h1⟩, h2, h3⟩ q
    exact ⟨⟨old, q e (by simp) _ h1⟩, Sk.it_keep h2 (q it (by simp)), h3⟩
  · rintro X rfl rfl rfl hc i pins s σ H E I hf ⟨⟨old, h1⟩, h2, n1, n2, n3⟩ ⟨xs, x, hq, hx⟩
    obtain ⟨its, rv, his⟩ := Sk.read I hq
    obtain ⟨u, hu, ru⟩ := rv.get hx
    have hlt : i < its.toArray.size := by rw [List.size_toArray]; exact (List.getElem?_eq_some_iff.mp hu).1
    have hel : e < s.heap.objs.size := Heap.lt_size h1
    have hil : it < s.heap.objs.size := by obtain ⟨_, z, _⟩ := Sk.it_obj h2; exact Heap.lt_size z
    refine wpAny_pyNext_enum_itemD (k.draws (A := X.A.in1) (I.ok.hd hc) it a n2 its.toArray) h1 ⟨h2, his⟩ hlt n1 (by simp; exact ⟨n1, n3⟩) fun y g tk py out st hT hsz hk => ?_
    obtain rfl : y = u := by
      have z : its[i]? = some y := by simpa using py
      exact Option.some.inj (z.symm.trans hu)
    refine ⟨_, rfl, wpAny_letOwnedTupleGo_enum (s := { s with heap := g, toks := tk + 1 }) out fun g2 he2 sb => ?_⟩
    have hT2 : g2.get? s.heap.objs.size = some { cls := .type "tuple", data := .seq #[.int i tk, y] } := by rw [sb.2 _ (Nat.ne_of_gt hel)]; exact hT
    have ok : ObjOk X.prog X.w (upd H s.heap.objs.size (.tup [.int (i : Nat), x])) g2 s.heap.objs.size (.tup [.int (i : Nat), x]) := ⟨sml 2, [.int i tk, y], .cons ⟨tk, rfl⟩ (.cons ru .nil), ⟨_, hT2, rfl, _, rfl⟩⟩
    have I2 : Inv X pins σ (upd H s.heap.objs.size (.tup [.int (i : Nat), x])) { s with heap := g2, toks := tk + 1 } := by
      refine I.turnedNew (ch := [e, it]) (fun b o hb q => ?_) hf (Nat.le_refl _) ok
      have b1 : b ≠ e := fun z => hb (by rw [z]; simp)
      have b2 : b ≠ it := fun z => hb (by rw [z]; simp)
      rw [sb.2 b b1]
      exact hk b o b1 b2 q
    refine ⟨.ref s.heap.objs.size, _, I2, rfl, ⟨_, x, rfl, I.hok.fresh (Nat.le_refl _), rfl, fun ys hy => ?_⟩, ⟨⟨y, ?_⟩, ?_, n1, n2, n3⟩, fun b hb => ?_⟩
    · rw [Sk.inj I hy hq]
      exact hx
    · rw [show ((i + 1 : Nat) : Int) = (i : Int) + 1 by omega]
      exact he2
    · exact Sk.it_keep st.1 fun o z => by rw [sb.2 it n1.symm]; exact z
    · have b1 : b ≠ s.heap.objs.size := by
        rcases two_mem hb with z | z
        · rw [z]; exact Nat.ne_of_lt hel
        · rw [z]; exact Nat.ne_of_lt hil
      rw [upd_ne b1]
      exact (hf b hb).1
  · rintro X rfl rfl rfl hc i pins s σ H E I hf ⟨⟨old, h1⟩, h2, n1, n2, n3⟩ ⟨xs, hq, hx⟩
    subst hx
    obtain ⟨its, rv, his⟩ := Sk.read I hq
    have el : xs.length = its.toArray.size := by rw [List.size_toArray]; exact rv.length
    rw [el] at h2
    obtain ⟨f0, f1, f2, f3, f4, f5⟩ := hf it (by simp)
    exact wpAny_pyNext_enum_endD (k.draws (A := X.A.in1) (I.ok.hd hc) it a n2 its.toArray) h1 ⟨h2, his⟩ fun g q => ⟨rfl, I.turned (t' := s.toks) (fun b o hb z => q b o hb z) f0 f1 f3 f4 f5⟩
  · rintro A i s Q E ⟨⟨old, h1⟩, _⟩ q
    exact wpAny_pyIter_enum h1 q
/-- enumerate(x) makes two cells -/
theorem en_meets {v : Value} {o : Obj} {C : Heap → Prop} (B : Begins v o C) : Meets (Builtin.«enumerate.__new__» ⟨[.type "enumerate", v], []⟩) (fun _ R s => C s.heap ∧
    R (.ok (.ret (.ref (s.heap.push o).objs.size))) { s with heap := (s.heap.push o).push { cls := .type "enumerate", data := .fields #[.none, .bool false, .ref s.heap.objs.size, rawInt 0, .none, .none] } }) := .of_wp fun prog w A R s h => by
  obtain ⟨hp, gs, dr, tk, os⟩ := s
  obtain ⟨hC, h⟩ := h
  have sub := sub_enumerate
  have go : ∀ {B1 : Around} {E Q : Value → Shared → Prop}, Q (.ref hp.objs.size) ⟨hp.push o, gs, dr, tk, os⟩ → wpAny (model prog w) B1 (pyIter v) Q E ⟨hp, gs, dr, tk, os⟩ := fun q => B.iter prog w _ _ ⟨hp, gs, dr, tk, os⟩ _ hC q
  wp_walk using go
  refine wpAny_stack_any fun st => wpAny_pure ?_
  split
  · rename_i c _ _ _ _ _
    cases (c == Value.type "enumerate") <;> (wp_walk using go; exact ⟨_, rfl, h⟩)
  · wp_walk using go
    exact ⟨_, rfl, h⟩
theorem en_call {P : Program} {w : World} {A : Around} {E Q : Value → Shared → Prop} {s : Shared} {v : Value} {o : Obj} {C : Heap → Prop} (B : Begins v o C) (hC : C s.heap)
    (q : ∀ g, IsEnum g (s.heap.objs.size + 1) s.heap.objs.size 0 .none → g.get? s.heap.objs.size = some o → (∀ b u, s.heap.get? b = some u → g.get? b = some u) → Q (.ref (s.heap.objs.size + 1)) { s with heap := g }) :
    wpAny (model P w) A (call (.type "enumerate") [v]) Q E s := by
  have z : (s.heap.push o).objs.size = s.heap.objs.size + 1 := Heap.size_push ..
  have e1 := Heap.get?_push_size (s.heap.push o) (o := { cls := .type "enumerate", data := .fields #[.none, .bool false, .ref s.heap.objs.size, rawInt 0, .none, .none] }) rfl
  rw [z] at e1
  refine callType_new F.called_enumerate (by decide) (F.typeCall_enumerate_1 _) (F.newCall_enumerate_1 _) (fun obj => F.args_object_init_2 obj _) F.entry_enumerate_new (en_meets B) ⟨hC, ?_⟩
  show _ ∧ _
  rw [z]
  exact ⟨⟨_, e1, rfl⟩, q _ e1 (Heap.get?_push_of_some _ (Heap.get?_push_size _ B.free)) fun b u x => Heap.get?_push_of_some _ (Heap.get?_push_of_some _ x)⟩
def iEn (K : PySem.W.Frag) (k : Sk) (ta : TA) : L2.TI := fun σ H R => ta σ H fun vs H1 => ∃ a xs, vs = [.ref a] ∧ k.S K H1 a xs ∧ R (EnI K k a) H1
theorem pi_en {X : Cx} {K : PySem.W.Frag} {e : Expr} {ta : TA} {p pos tpos : Pos} {elts : List Expr} {kk : Nat} (k : Sk) (hK : X.K = K) (hg : Gl X "enumerate") (hm : X.mg "enumerate" = none) (ha : PA X [e] ta) (hs : starEach [e] X.env = [(false, eval e X.env)] := by rfl) :
    PI X (.Tuple elts kk tpos) (.Call (.Name "enumerate" p) [e] [] pos) (iEn K k ta) := by
  subst hK
  refine ⟨fun pins s σ H R I h => Call_ (ld_blt I hg hm boot_enumerate (PyProof.Rows.callWith_type1 (thn (ha.run pos pins s σ H _ I h) fun us s1 ⟨vs, H1, I1, r1, q1⟩ => ?_) hs rfl))⟩
  obtain ⟨a, xs, rfl, hq, q⟩ := q1
  obtain ⟨u, rfl, ru⟩ := r1.one
  cases ru
  obtain ⟨its, rv, his⟩ := Sk.read I1 hq
  refine en_call (k.begins a its.toArray) his fun g h1 h2 hk => wpAny_pyIter_enum h1 ?_
  have I2 : Inv X pins σ H1 { s1 with heap := g } := I1.kept (t' := s1.toks) hk
  have la := Sk.is_lt his
  refine ⟨s1.heap.objs.size + 1, [s1.heap.objs.size + 1, s1.heap.objs.size], _, _, H1, rfl, I2, en_turn k (s1.heap.objs.size + 1) s1.heap.objs.size a, ⟨⟨.none, h1⟩, Sk.it_new h2, Nat.succ_ne_self _, Nat.ne_of_lt la, Nat.ne_of_gt (Nat.lt_succ_of_lt la)⟩, fun b hb => ?_, q⟩
  have le : s1.heap.objs.size ≤ b := by rcases two_mem hb with z | z <;> (rw [z]; first | exact Nat.le_refl _ | exact Nat.le_succ _)
  exact I1.fpOk le (I1.hok.fresh le)
/-- the cells of a zip -/
def ZpT (k m : Sk) (z ti to_ i1 i2 a b : Addr) : Nat → Heap → Prop := fun i h => IsZip h z ti to_ .none ∧ IsTupOf2 h ti (.ref i1) (.ref i2) ∧ (∃ x y, IsTupOf2 h to_ x y) ∧ k.It h i1 a i ∧ m.It h i2 b i
theorem five_mem {c z ti to_ i1 i2 : Addr} (h : c ∈ [z, ti, to_, i1, i2]) : c = z ∨ c = ti ∨ c = to_ ∨ c = i1 ∨ c = i2 := by simpa using h
theorem zp_sep {z ti to_ i1 i2 a b : Addr} (D : ZipApart z ti to_ i1 i2 a b) : ZipSep2 z ti to_ i1 i2 [i1, a] [i2, b] where
  TIz := D.TIz
  TOz := D.TOz
  TITO := D.TITO
  TIi1 := D.TIi1
  mem1 := List.mem_cons_self
  zf1 := by simp; exact ⟨D.i1z.symm, D.l1z.symm⟩
  Tf1 := by simp; exact ⟨D.TOi1, D.l1TO.symm⟩
  TIi2 := D.TIi2
  mem2 := List.mem_cons_self
  zf2 := by simp; exact ⟨D.i2z.symm, D.l2z.symm⟩
  Tf2 := by simp; exact ⟨D.TOi2, D.l2TO.symm⟩
  sep1_2 := by simp; exact ⟨D.i12, D.l2i1.symm⟩
  sep2_1 := by simp; exact ⟨D.i12.symm, D.l1i2.symm⟩
theorem zp_turn {P : Program} {w : World} {K : PySem.W.Frag} {elts : List Expr} {kk : Nat} {tpos : Pos} (k m : Sk) {z ti to_ i1 i2 a b : Addr} (D : ZipApart z ti to_ i1 i2 a b) : Turn P w K (.Tuple elts kk tpos) (ZpI K k m a b) [z, ti, to_, i1, i2] z (ZpT k m z ti to_ i1 i2 a b) := by
  refine { mem := List.mem_cons_self, obj := ?_, keep := ?_, item := ?_, done := ?_, self := ?_ }
  · rintro i h ⟨hz, h1, ⟨x, y, h2⟩, h3, h4⟩ c hc
    rcases five_mem hc with e | e | e | e | e <;> rw [e]
    · refine ⟨_, hz, ?_⟩
      intro v y
      cases y
    · refine ⟨_, h1, ?_⟩
      intro v y
      cases y
    · refine ⟨_, h2, ?_⟩
      intro v y
      cases y
    · exact Sk.it_obj h3
    · exact Sk.it_obj h4
  · rintro i h g ⟨hz, h1, ⟨x, y, h2⟩, h3, h4⟩ q
    exact ⟨q z (by simp) _ hz, q ti (by simp) _ h1, ⟨x, y, q to_ (by simp) _ h2⟩, Sk.it_keep h3 (q i1 (by simp)), Sk.it_keep h4 (q i2 (by simp))⟩
  · rintro X rfl rfl rfl hc i pins s σ H E I hf ⟨hz, h1, ⟨x0, y0, h2⟩, h3, h4⟩ ⟨xs, ys, x, y, hqx, hqy, hx, hy⟩
    obtain ⟨its, rv, his⟩ := Sk.read I hqx
    obtain ⟨jts, rw_, hjs⟩ := Sk.read I hqy
    obtain ⟨u, hu, ru⟩ := rv.get hx
    obtain ⟨v, hv, rv2⟩ := rw_.get hy
    have l1 : i < its.toArray.size := by rw [List.size_toArray]; exact (List.getElem?_eq_some_iff.mp hu).1
    have l2 : i < jts.toArray.size := by rw [List.size_toArray]; exact (List.getElem?_eq_some_iff.mp hv).1
    have hzl : z < s.heap.objs.size := Heap.lt_size hz
    refine wpAny_pyNext_zipD2_item (zp_sep D) (k.draws (A := X.A.in1) (I.ok.hd hc) i1 a D.l1i1 its.toArray) (m.draws (A := X.A.in1) (I.ok.hd hc) i2 b D.l2i2 jts.toArray) hz h1 h2 ⟨h3, his⟩ ⟨h4, hjs⟩ l1 l2 fun u' v' g tk pu pv z1 t1 s1 s2 hT hsz hk => ?_
    obtain rfl : u' = u := by
      have e : its[i]? = some u' := by simpa using pu
      exact Option.some.inj (e.symm.trans hu)
    obtain rfl : v' = v := by
      have e : jts[i]? = some v' := by simpa using pv
      exact Option.some.inj (e.symm.trans hv)
    refine ⟨_, rfl, wpAny_letOwnedTupleGo_zip (s := { s with heap := g, toks := tk }) z1 fun g2 z2 sb => ?_⟩
    have hT2 : g2.get? s.heap.objs.size = some { cls := .type "tuple", data := .seq #[u', v'] } := by rw [sb.2 _ (Nat.ne_of_gt hzl)]; exact hT
    have ok : ObjOk X.prog X.w (upd H s.heap.objs.size (.tup [x, y])) g2 s.heap.objs.size (.tup [x, y]) := ⟨sml 2, [u', v'], .cons ru (.cons rv2 .nil), ⟨_, hT2, rfl, _, rfl⟩⟩
    have I2 : Inv X pins σ (upd H s.heap.objs.size (.tup [x, y])) { s with heap := g2, toks := tk } := by
      refine I.turnedNew (ch := [z, ti, to_, i1, i2]) (fun c o hc2 q => ?_) hf (Nat.le_refl _) ok
      have n1 : c ≠ z := fun e => hc2 (by rw [e]; simp)
      have n2 : c ≠ to_ := fun e => hc2 (by rw [e]; simp)
      have n3 : c ≠ i1 := fun e => hc2 (by rw [e]; simp)
      have n4 : c ≠ i2 := fun e => hc2 (by rw [e]; simp)
      rw [sb.2 c n1]
      exact hk c o n1 n2 n3 n4 q
    refine ⟨.ref s.heap.objs.size, _, I2, rfl, ⟨_, x, y, rfl, I.hok.fresh (Nat.le_refl _), rfl, fun l hl => ?_, fun l hl => ?_⟩, ⟨z2, ?_, ⟨u', v', ?_⟩, ?_, ?_⟩, fun c hcm => ?_⟩
    · rw [Sk.inj I hl hqx]; exact hx
    · rw [Sk.inj I hl hqy]; exact hy
    · rw [show IsTupOf2 g2 ti (.ref i1) (.ref i2) = (g2.get? ti = _) from rfl, sb.2 ti D.TIz]
      exact hk _ _ D.TIz D.TITO D.TIi1 D.TIi2 h1
    · rw [show IsTupOf2 g2 to_ u' v' = (g2.get? to_ = _) from rfl, sb.2 to_ D.TOz]
      exact t1
    · exact Sk.it_keep s1.1 fun o e => by rw [sb.2 i1 D.i1z]; exact e
    · exact Sk.it_keep s2.1 fun o e => by rw [sb.2 i2 D.i2z]; exact e
    · have lt : c < s.heap.objs.size := by
        rcases five_mem hcm with e | e | e | e | e <;> rw [e]
        · exact hzl
        · exact Heap.lt_size h1
        · exact Heap.lt_size h2
        · obtain ⟨_, q, _⟩ := Sk.it_obj h3; exact Heap.lt_size q
        · obtain ⟨_, q, _⟩ := Sk.it_obj h4; exact Heap.lt_size q
      rw [upd_ne (Nat.ne_of_lt lt)]
      exact (hf c hcm).1
  · rintro X rfl rfl rfl hc i pins s σ H E I hf ⟨hz, h1, ⟨x0, y0, h2⟩, h3, h4⟩ ⟨xs, ys, hqx, hqy, le1, le2, hend⟩
    obtain ⟨its, rv, his⟩ := Sk.read I hqx
    obtain ⟨jts, rw_, hjs⟩ := Sk.read I hqy
    have e1 : xs.length = its.toArray.size := by rw [List.size_toArray]; exact rv.length
    have e2 : ys.length = jts.toArray.size := by rw [List.size_toArray]; exact rw_.length
    refine wpAny_pyNext_zipD2_end (zp_sep D) (k.draws (A := X.A.in1) (I.ok.hd hc) i1 a D.l1i1 its.toArray) (m.draws (A := X.A.in1) (I.ok.hd hc) i2 b D.l2i2 jts.toArray) hz h1 h2 ⟨h3, his⟩ ⟨h4, hjs⟩ (by omega) (by omega) (by omega) fun g tk hk => ⟨rfl, I.turnedL (ch := [z, ti, to_, i1, i2]) (fun c o hc2 q => ?_) hf⟩
    exact hk c o (fun e => hc2 (by rw [e]; simp)) (fun e => hc2 (by rw [e]; simp)) (fun e => hc2 (by rw [e]; simp)) (fun e => hc2 (by rw [e]; simp)) q
  · rintro A i s Q E ⟨hz, _⟩ q
    exact wpAny_pyIter_zip hz q
def iZp (K : PySem.W.Frag) (k m : Sk) (ta : TA) : L2.TI := fun σ H R => ta σ H fun vs H1 => ∃ a b xs ys, vs = [.ref a, .ref b] ∧ k.S K H1 a xs ∧ m.S K H1 b ys ∧ R (ZpI K k m a b) H1
theorem pi_zp {X : Cx} {K : PySem.W.Frag} {e e2 : Expr} {ta : TA} {p pos tpos : Pos} {elts : List Expr} {kk : Nat} (k m : Sk) (hK : X.K = K) (hg : Gl X "zip") (hm : X.mg "zip" = none) (ha : PA X [e, e2] ta)
    (hs : starEach [e, e2] X.env = (false, eval e X.env) :: starEach [e2] X.env := by rfl) (hpl : (backTo pos (starEach [e2] X.env)).any (·.1) = false := by rfl) :
    PI X (.Tuple elts kk tpos) (.Call (.Name "zip" p) [e, e2] [] pos) (iZp K k m ta) := by
  subst hK
  refine ⟨fun pins s σ H R I h => Call_ (ld_blt I hg hm PyProof.Rows.boot_zip (PyProof.Rows.callWith_type1 (thn (ha.run pos pins s σ H _ I h) fun us s1 ⟨vs, H1, I1, r1, q1⟩ => ?_) hs hpl))⟩
  obtain ⟨a, b, xs, ys, rfl, hqx, hqy, q⟩ := q1
  obtain ⟨u, v, rfl, ru, rv⟩ := vals2 r1
  cases ru
  cases rv
  obtain ⟨its, _, his⟩ := Sk.read I1 hqx
  obtain ⟨jts, _, hjs⟩ := Sk.read I1 hqy
  refine zip_begins2 (k.begins a its.toArray) (m.begins b jts.toArray) his hjs fun g hz h1 h2 h3 h4 hsz hk => wpAny_pyIter_zip hz ?_
  have I2 : Inv X pins σ H1 { s1 with heap := g } := I1.kept (t' := s1.toks) hk
  refine ⟨s1.heap.objs.size + 4, [s1.heap.objs.size + 4, s1.heap.objs.size + 2, s1.heap.objs.size + 3, s1.heap.objs.size, s1.heap.objs.size + 1], _, _, H1, rfl, I2, zp_turn k m (PySem.W.ktu_apart s1.heap.objs.size a b (Sk.is_lt his) (Sk.is_lt hjs)), ⟨hz, h1, ⟨_, _, h2⟩, Sk.it_new h3, Sk.it_new h4⟩, fun c hc => ?_, q⟩
  have le : s1.heap.objs.size ≤ c := by rcases five_mem hc with e | e | e | e | e <;> (rw [e]; first | exact Nat.le_refl _ | exact Nat.le_add_right _ _)
  exact I1.fpOk le (I1.hok.fresh le)
/-! ### their walks -/
theorem walk_en {K : PySem.W.Frag} {k : Sk} {a : Addr} {xs : List V} : Walk (EnI K k a) xs.length (fun H => k.S K H a xs) (YPair (fun i => some (.int (i : Nat))) (fun i => xs[i]?)) where
  goes := fun i H hi q => ⟨xs, xs[i], q, List.getElem?_eq_getElem hi⟩
  stops := fun H q => ⟨xs, q, rfl⟩
  yields := fun i H v H' hi q ⟨T, x, h1, h2, h3, h4⟩ => ⟨T, .int (i : Nat), x, h1, h2, h3, rfl, h4 xs q⟩
theorem walk_zp {K : PySem.W.Frag} {k m : Sk} {a b : Addr} {xs ys : List V} {n : Nat} (hn : n = min xs.length ys.length) : Walk (ZpI K k m a b) n (fun H => k.S K H a xs ∧ m.S K H b ys) (YPair (fun i => xs[i]?) (fun i => ys[i]?)) where
  goes := fun i H hi q => ⟨xs, ys, xs[i]'(by omega), ys[i]'(by omega), q.1, q.2, List.getElem?_eq_getElem (by omega), List.getElem?_eq_getElem (by omega)⟩
  stops := fun H q => ⟨xs, ys, q.1, q.2, by omega, by omega, by omega⟩
  yields := fun i H v H' hi q ⟨T, x, y, h1, h2, h3, h4, h5⟩ => ⟨T, x, y, h1, h2, h3, h4 xs q.1, h5 ys q.2⟩
/-! ### comprehensions over walks -/
section
variable {J J1 : L2.It} {n n1 : Nat} {G G1 : Hp → Prop} {Y Y1 : Nat → Hp → V → Hp → Prop} {g g1 : TG} {te : TE} {vs vs1 : List Nat} {σ σ2 : L2.St} {H1 H4 : Hp} {D : Addr} {Qd Nx : Hp → Prop} {wi1 : L2.TI}
theorem lc_itY (w : Walk J n G Y) (Pv : Nat → Hp → Prop) (h0 : Pv 0 (upd H1 D (.lst []))) (hG : ∀ i H, i ≤ n → Pv i H → G H)
    (hs : ∀ i x H H', i < n → Pv i H → Y i H x H' → g x (wipe σ vs) H' fun σ2 H2 => wipe σ2 vs = wipe σ vs ∧ te σ2 H2 fun y H4 => ∃ acc, H4 D = some (.lst acc) ∧ acc.length < sizeLine ∧ Pv (i + 1) (upd H4 D (.lst (acc ++ [y])))) (hd : ∀ H, Pv n H → Qd H) :
    ∃ W : Nat → Nat → Hp → Prop, (∃ m, W 0 m (upd H1 D (.lst []))) ∧ ∀ i m H, W i m H →
      (J.stop i H ∧ Qd H) ∨ (J.go i H ∧ ∃ Nx : Hp → Prop, (∀ H', Nx H' → ∃ m', m' < m ∧ W (i + 1) m' H') ∧ ∀ x H', J.yld i H x H' → g x (wipe σ vs) H' fun σ2 H2 => wipe σ2 vs = wipe σ vs ∧ tYes σ2 H2 fun b H3 =>
        if b = true then te σ2 H3 fun y H4 => ∃ acc, H4 D = some (.lst acc) ∧ acc.length < sizeLine ∧ Nx (upd H4 D (.lst (acc ++ [y]))) else Nx H3) := lc_it (tt := tYes) w Pv h0 hG hs hd
/-- the inner of two -/
def Lc2In (g1 : TG) (te : TE) (vs1 : List Nat) (σ2 : L2.St) (D : Addr) (Nx : Hp → Prop) (J1 : L2.It) (H4 : Hp) : Prop := ∃ W1 : Nat → Nat → Hp → Prop, (∃ m, W1 0 m H4) ∧ ∀ j k H, W1 j k H →
  (J1.stop j H ∧ Nx H) ∨ (J1.go j H ∧ ∃ Nx1 : Hp → Prop, (∀ H', Nx1 H' → ∃ k', k' < k ∧ W1 (j + 1) k' H') ∧ ∀ x H', J1.yld j H x H' → g1 x (wipe σ2 vs1) H' fun σ3 H5 => wipe σ3 vs1 = wipe σ2 vs1 ∧ tYes σ3 H5 fun b H6 =>
    if b = true then te σ3 H6 fun y H7 => ∃ acc, H7 D = some (.lst acc) ∧ acc.length < sizeLine ∧ Nx1 (upd H7 D (.lst (acc ++ [y]))) else Nx1 H6)
theorem lc2_in (w : Walk J1 n1 G1 Y1) (Pv : Nat → Hp → Prop) (h0 : Pv 0 H4) (hG : ∀ i H, i ≤ n1 → Pv i H → G1 H)
    (hs : ∀ i x H H', i < n1 → Pv i H → Y1 i H x H' → g1 x (wipe σ2 vs1) H' fun σ3 H5 => wipe σ3 vs1 = wipe σ2 vs1 ∧ te σ3 H5 fun y H7 => ∃ acc, H7 D = some (.lst acc) ∧ acc.length < sizeLine ∧ Pv (i + 1) (upd H7 D (.lst (acc ++ [y])))) (hd : ∀ H, Pv n1 H → Nx H) : Lc2In g1 te vs1 σ2 D Nx J1 H4 := by
  refine ⟨fun i m H => m = n1 - i ∧ i ≤ n1 ∧ Pv i H, ⟨n1, rfl, Nat.zero_le _, h0⟩, ?_⟩
  rintro i m H ⟨rfl, hi, p⟩
  by_cases lt : i < n1
  · exact .inr ⟨w.goes i H lt (hG i H hi p), Pv (i + 1), fun H' p' => ⟨n1 - (i + 1), by omega, rfl, lt, p'⟩, fun x H' y => hs i x H H' lt p (w.yields i H x H' lt (hG i H hi p) y)⟩
  · obtain rfl : i = n1 := by omega
    exact .inl ⟨w.stops H (hG _ H hi p), hd H p⟩
theorem lc2_out (w : Walk J n G Y) (Pv : Nat → Hp → Prop) (h0 : Pv 0 (upd H1 D (.lst []))) (hG : ∀ i H, i ≤ n → Pv i H → G H)
    (hs : ∀ i x H H', i < n → Pv i H → Y i H x H' → g x (wipe σ vs) H' fun σ2 H2 => wipe σ2 vs = wipe σ vs ∧ wi1 σ2 H2 fun J1 H4 => Lc2In g1 te vs1 σ2 D (Pv (i + 1)) J1 H4) (hd : ∀ H, Pv n H → Qd H) :
    ∃ W : Nat → Nat → Hp → Prop, (∃ m, W 0 m (upd H1 D (.lst []))) ∧ ∀ i m H, W i m H →
      (J.stop i H ∧ Qd H) ∨ (J.go i H ∧ ∃ Nx : Hp → Prop, (∀ H', Nx H' → ∃ m', m' < m ∧ W (i + 1) m' H') ∧ ∀ x H', J.yld i H x H' → g x (wipe σ vs) H' fun σ2 H2 => wipe σ2 vs = wipe σ vs ∧ tYes σ2 H2 fun b H3 =>
        if b = true then wi1 σ2 H3 fun J1 H4 => ∃ W1 : Nat → Nat → Hp → Prop, (∃ m, W1 0 m H4) ∧ ∀ j k H, W1 j k H →
          (J1.stop j H ∧ Nx H) ∨ (J1.go j H ∧ ∃ Nx1 : Hp → Prop, (∀ H', Nx1 H' → ∃ k', k' < k ∧ W1 (j + 1) k' H') ∧ ∀ x H', J1.yld j H x H' → g1 x (wipe σ2 vs1) H' fun σ3 H5 => wipe σ3 vs1 = wipe σ2 vs1 ∧ tYes σ3 H5 fun b H6 =>
            if b = true then te σ3 H6 fun y H7 => ∃ acc, H7 D = some (.lst acc) ∧ acc.length < sizeLine ∧ Nx1 (upd H7 D (.lst (acc ++ [y]))) else Nx1 H6)
        else Nx H3) := by
  refine ⟨fun i m H => m = n - i ∧ i ≤ n ∧ Pv i H, ⟨n, rfl, Nat.zero_le _, h0⟩, ?_⟩
  rintro i m H ⟨rfl, hi, p⟩
  by_cases lt : i < n
  · exact .inr ⟨w.goes i H lt (hG i H hi p), Pv (i + 1), fun H' p' => ⟨n - (i + 1), by omega, rfl, lt, p'⟩, fun x H' y => hs i x H H' lt p (w.yields i H x H' lt (hG i H hi p) y)⟩
  · obtain rfl : i = n := by omega
    exact .inl ⟨w.stops H (hG _ H hi p), hd H p⟩
end
end Ov

/-! ### the program's promises -/
namespace Ov
open PySem PySem.Spec PyProof.Rows L2
def spBetween : Sp := fun vs H Q _ => ∃ v lo hi : Int, vs = [.int v, .int lo, .int hi] ∧ Q (.bl (decide (lo ≤ v ∧ v ≤ hi))) H
/-- the word at a: its name, what is given, the arms -/
def WordAt (H : Hp) (a : Addr) (o : Op) (g : Int) (us : List V) : Prop := H a = some (.tup (.str o.name :: (o.pre g ++ us))) ∧ us.length = o.arity
def Op.gV (o : Op) (g : Int) : V := if o.gives then .int g else .non
def spGivenOf : Sp := fun vs H Q _ => ∃ a o g us, vs = [.ref a] ∧ WordAt H a o g us ∧ Q (o.gV g) H
def spArmsOf : Sp := fun vs H Q _ => ∃ a o g us, vs = [.ref a] ∧ WordAt H a o g us ∧ ∀ p, H p = none → Q (.ref p) (upd H p (.tup us))
def spGivenFits : Sp := fun vs H Q _ => ∃ (o : Op) (g : Int) (n : Nat), vs = [.str (if o = .num then "number" else "function"), .int g, .int (n : Int)] ∧ o.gives = true ∧ o.fits n g ∧ Q (.bl true) H
/-- the numbers of a word's arms, of which the first is b -/
def starts : Nat → List W → List Nat
  | _, [] => []
  | b, a :: r => b :: starts (b + a.size) r
mutual
/-- the rows of a word that is the b-th -/
def W.rows : Nat → W → List (Op × Int × List Nat)
  | b, .mk o g as => (o, g, starts (b + 1) as) :: W.rowss (b + 1) as
def W.rowss : Nat → List W → List (Op × Int × List Nat)
  | _, [] => []
  | b, a :: r => a.rows b ++ W.rowss (b + a.size) r
end
theorem W.rows_mk (b : Nat) (o : Op) (g : Int) (as : List W) : (W.mk o g as).rows b = (o, g, starts (b + 1) as) :: W.rowss (b + 1) as := by rw [W.rows]
mutual
theorem W.rows_len : ∀ (b : Nat) (w : W), (w.rows b).length = w.size
  | b, .mk o g as => by
    rw [W.rows_mk, W.size_mk, List.length_cons, W.rowss_len (b + 1) as]
    omega
theorem W.rowss_len : ∀ (b : Nat) (ws : List W), (W.rowss b ws).length = W.sizes ws
  | b, [] => by rw [W.rowss, W.sizes]; rfl
  | b, a :: r => by rw [W.rowss, W.sizes, List.length_append, W.rows_len b a, W.rowss_len _ r]
end
def RowAt (H : Hp) (v : V) (r : Op × Int × List Nat) : Prop := ∃ t a, v = .ref t ∧ H t = some (.tup [.str r.1.name, r.1.gV r.2.1, .ref a]) ∧ H a = some (.tup (nV r.2.2))
theorem RowAt.keep {H H' : Hp} {v : V} {r : Op × Int × List Nat} (k : Keep H H') (h : RowAt H v r) : RowAt H' v r := by
  obtain ⟨t, a, e, h1, h2⟩ := h
  exact ⟨t, a, e, k _ _ h1, k _ _ h2⟩
/-- all but the list at l stays -/
def ButL (l : Addr) (H H' : Hp) : Prop := ∀ a o, a ≠ l → H a = some o → H' a = some o
def spAddWord (d : Nat) : Sp := fun vs H Q _ => ∃ l v n u xs, vs = [.ref l, v] ∧ H l = some (.lst xs) ∧ WAt H v u ∧ WOk n d u ∧ xs.length + u.size ≤ 1000 ∧
  ∀ H' ys, ButL l H H' → H' l = some (.lst (xs ++ ys)) → Paired (RowAt H') ys (u.rows xs.length) → Q (.int (xs.length : Int)) H'
def spWordsOf : Sp := fun vs H Q _ => ∃ v n u, vs = [v] ∧ WAt H v u ∧ WOk n 7 u ∧ u.size ≤ 900 ∧ ∀ H' p ys, Same H H' → H p = none → H' p = some (.lst ys) → Paired (RowAt H') ys (u.rows 0) → Q (.ref p) H'
def spWordFits (d : Nat) : Sp := fun vs H Q _ => ∃ (v : V) (n : Nat) (u : W) (r : Int), vs = [v, .int (n : Int), .int r] ∧ WAt H v u ∧ WOk n d u ∧ 0 ≤ r ∧ r + (d : Int) ≤ 7 ∧ ∀ H', Same H H' → Q (.bl true) H'
def spFunctionFits : Sp := fun vs H Q _ => ∃ (v : V) (n : Nat) (f : Int × W), vs = [v, .int (n : Int)] ∧ FAt H v f ∧ FOk n f ∧ ∀ H', Same H H' → Q (.bl true) H'
def spCheckProgram : Sp := fun vs H Q _ => ∃ v p, vs = [v] ∧ PrAt H v p ∧ PrOk p ∧ ∀ H', Same H H' → Q .non H'
def spCheckFunction : Sp := fun vs H Q _ => ∃ (f n : Nat), vs = [.int (f : Int), .int (n : Int)] ∧ f < n ∧ Q .non H
theorem starts_snoc : ∀ (b : Nat) (ws : List W) (w : W), starts b (ws ++ [w]) = starts b ws ++ [b + W.sizes ws]
  | b, [], w => by rw [W.sizes]; rfl
  | b, a :: r, w => by
    show b :: starts (b + a.size) (r ++ [w]) = b :: (starts (b + a.size) r ++ [_])
    rw [starts_snoc (b + a.size) r w, W.sizes, Nat.add_assoc]
theorem rowss_snoc : ∀ (b : Nat) (ws : List W) (w : W), W.rowss b (ws ++ [w]) = W.rowss b ws ++ w.rows (b + W.sizes ws)
  | b, [], w => by rw [List.nil_append, W.rowss, W.rowss, W.rowss, W.sizes]; simp
  | b, a :: r, w => by rw [List.cons_append, W.rowss, W.rowss, rowss_snoc _ r w, W.sizes, List.append_assoc, Nat.add_assoc]
theorem starts_len : ∀ (b : Nat) (ws : List W), (starts b ws).length = ws.length
  | _, [] => rfl
  | b, a :: r => congrArg Nat.succ (starts_len (b + a.size) r)
theorem size_get : ∀ (ws : List W) (i : Nat) (w : W), ws[i]? = some w → W.sizes (ws.take i) + w.size ≤ W.sizes ws
  | [], i, w, h => by simp at h
  | a :: r, 0, w, h => by
    have e : a = w := Option.some.inj h
    rw [e, List.take_zero, W.sizes, W.sizes]
    omega
  | a :: r, i + 1, w, h => by
    have ih := size_get r i w h
    rw [List.take_succ_cons, W.sizes, W.sizes]
    omega
theorem ButL.trans {l : Addr} {H H1 H2 : Hp} (a : ButL l H H1) (b : ButL l H1 H2) : ButL l H H2 := fun x o n e => b x o n (a x o n e)
theorem ButL.same {l : Addr} {H H' : Hp} (a : Same H H') : ButL l H H' := fun x o _ e => a x o e
theorem ButL.upd {l : Addr} {H : Hp} {o : HO} : ButL l H (upd H l o) := fun x u n e => by rw [upd_ne n]; exact e
theorem ButL.keep {l : Addr} {xs : List V} {H H' : Hp} (b : ButL l H H') (e : H l = some (.lst xs)) : Keep H H' := fun a ys h => b a _ (ne_of h e (by intro z; cases z)) h
theorem paired_app {α β : Type} {R : α → β → Prop} : ∀ {a c : List α} {b d : List β}, Paired R a b → Paired R c d → Paired R (a ++ c) (b ++ d)
  | _, _, _, _, .nil, h => h
  | _, _, _, _, .cons h r, h' => .cons h (paired_app r h')
theorem Paired.get2 {α β : Type} {R : α → β → Prop} : ∀ {a : List α} {b : List β} {i : Nat} {x : α}, Paired R a b → a[i]? = some x → ∃ y, b[i]? = some y ∧ R x y
  | _, _, _, _, .nil, e => by simp at e
  | _, _, 0, _, .cons h r, e => by
    have e2 := Option.some.inj e
    subst e2
    exact ⟨_, rfl, h⟩
  | _, _, i + 1, x, .cons _ r, e => Paired.get2 (i := i) (x := x) r e
theorem set_mid (xs ys : List V) (x y : V) : (xs ++ [x] ++ ys).set xs.length y = xs ++ y :: ys := by
  rw [List.append_assoc, List.set_append_right (h := Nat.le_refl _), Nat.sub_self]
  rfl
end Ov

/-! ### ways down -/
namespace Ov
open PySem PySem.Spec PyProof.Rows L2
/-- under x lie l, from the undermost on -/
inductive Down (st : List Int) : Nat → List Nat → Prop
  | base {x : Nat} : st[x]? = some (-1) → Down st x []
  | step {x y : Nat} {l : List Nat} : st[x]? = some ((y : Nat) : Int) → Down st y l → Down st x (l ++ [y])
theorem Down.uniq {st : List Int} {x : Nat} {l m : List Nat} (h : Down st x l) (h' : Down st x m) : l = m := by
  induction h generalizing m with
  | base e =>
    cases h' with
    | base _ => rfl
    | @step _ y l e' _ =>
      have z := Option.some.inj (e.symm.trans e')
      omega
  | @step x y l e _ ih =>
    cases h' with
    | base e' =>
      have z := Option.some.inj (e'.symm.trans e)
      omega
    | @step _ y' l' e' h2 =>
      have z := Option.some.inj (e.symm.trans e')
      obtain rfl : y = y' := by omega
      rw [ih h2]
theorem SInv.down {od : List Nat} {st : List Int} (h : SInv od st) : ∀ (t x : Nat), od[t]? = some x → ∃ l, Down st x l ∧ l.length ≤ t ∧ ∀ y ∈ l, y ∈ od := by
  intro t
  induction t using Nat.strongRecOn with
  | ind t ih =>
    intro x hx
    rcases h t x hx with e | ⟨j, y, hj, hy, e⟩
    · exact ⟨[], .base e, Nat.zero_le _, (fun _ z => nomatch z)⟩
    · obtain ⟨l, h1, h2, h3⟩ := ih j hj y hy
      refine ⟨l ++ [y], .step e h1, by rw [List.length_append, List.length_singleton]; omega, fun z hz => ?_⟩
      rcases List.mem_append.mp hz with q | q
      · exact h3 z q
      · rw [List.mem_singleton.mp q]
        exact List.mem_of_getElem? hy
/-- the ways down of a tree's parts -/
structure Dn (n : Nat) (ps : List (List Nat)) (st : List Int) (dn : Nat → List Nat) : Prop where
  down : ∀ x, x < ps.length → Down st x (dn x)
  len : ∀ x, x < ps.length → (dn x).length < ps.length
  lt : ∀ x, x < ps.length → ∀ y ∈ dn x, y < ps.length
theorem TrOk.dn {n : Nat} {ps : List (List Nat)} {st : List Int} (h : TrOk n ps st) : ∃ dn, Dn n ps st dn := by
  obtain ⟨od, hp, hs⟩ := h.ord
  have key : ∀ x, ∃ l, x < ps.length → Down st x l ∧ l.length < ps.length ∧ ∀ y ∈ l, y < ps.length := fun x => by
    by_cases hx : x < ps.length
    · have mem : x ∈ od := hp.mem_iff.mpr (List.mem_range.mpr hx)
      obtain ⟨t, ht⟩ := List.mem_iff_getElem?.mp mem
      obtain ⟨l, h1, h2, h3⟩ := hs.down t x ht
      have htl : t < od.length := (List.getElem?_eq_some_iff.mp ht).1
      have hol : od.length = ps.length := by rw [hp.length_eq, List.length_range]
      exact ⟨l, fun _ => ⟨h1, by omega, fun y hy => List.mem_range.mp (hp.mem_iff.mp (h3 y hy))⟩⟩
    · exact ⟨[], fun z => absurd z hx⟩
  exact ⟨fun x => (key x).choose, ⟨fun x hx => ((key x).choose_spec hx).1, fun x hx => ((key x).choose_spec hx).2.1, fun x hx => ((key x).choose_spec hx).2.2⟩⟩
/-- the size of a function, of a part -/
def fsz (pr : List (Int × W)) (f : Nat) : Int := (pr[f]?.map (·.1)).getD 0
def psz (pr : List (Int × W)) (p : List Nat) : Int := (p.map (fsz pr)).sum
/-- where the i-th part begins -/
def bgn (pr : List (Int × W)) (ps : List (List Nat)) (dn : Nat → List Nat) (i : Nat) : Int := ((dn i).map fun y => psz pr (ps[y]?.getD [])).sum
theorem psz_snoc (pr : List (Int × W)) (p : List Nat) (f : Nat) : psz pr (p ++ [f]) = psz pr p + fsz pr f := by
  unfold psz
  rw [List.map_append, List.sum_append]
  simp
theorem cut_from (xs : List V) (k : Nat) (h : k ≤ xs.length) : cutV xs (some (k : Int)) none = xs.drop k := by
  unfold cutV
  rw [HT.sIx_none, HT.sIx_nat, Nat.min_eq_left h]
  exact List.take_of_length_le (by rw [List.length_drop]; exact Nat.le_refl _)
theorem nV_int {ns : List Nat} {i : Nat} {x : V} (h : (nV ns)[i]? = some x) : ∃ y, ns[i]? = some y ∧ x = V.int ((y : Nat) : Int) := by
  unfold nV at h
  rw [List.getElem?_map] at h
  cases e : ns[i]? with
  | none => rw [e] at h; cases h
  | some y => rw [e] at h; exact ⟨y, rfl, (Option.some.inj h).symm⟩
theorem ints_int {ns : List Int} {i : Nat} {x : V} (h : (ns.map V.int)[i]? = some x) : ∃ y, ns[i]? = some y ∧ x = V.int y := by
  rw [List.getElem?_map] at h
  cases e : ns[i]? with
  | none => rw [e] at h; cases h
  | some y => rw [e] at h; exact ⟨y, rfl, (Option.some.inj h).symm⟩
theorem nV_ints (ns : List Nat) : nV ns = (ns.map fun (x : Nat) => (x : Int)).map V.int := by
  unfold nV
  rw [List.map_map]
  rfl
theorem rep_all (n : Nat) : (List.replicate n true).all id = true := by simp
theorem rep_snoc (n : Nat) : (List.replicate n true).map V.bl ++ [V.bl true] = (List.replicate (n + 1) true).map V.bl := by
  rw [List.replicate_succ', List.map_append]
  rfl
theorem eqvIntsAll : ∀ ns : List Int, PyData.eqvAll (ns.map PyData.int) (ns.map PyData.int) = true
  | [] => by simp [PyData.eqvAll]
  | n :: ns => by
    have h := eqvIntsAll ns
    simp [PyData.eqvAll, PyData.eqv, h]
theorem eqvInts (ns : List Int) : PyData.eqv (.list (ns.map PyData.int)) (.list (ns.map PyData.int)) = true := by
  have h := eqvIntsAll ns
  simp [PyData.eqv, h]
theorem PInv.sorted {n : Nat} {ps : List (List Nat)} (h : PInv n ps) {ns : List Int} (hp : ns.Perm (ps.flatten.map fun (x : Nat) => (x : Int))) (hs : ns.Pairwise (· ≤ ·)) : ns = (List.range n).map fun (x : Nat) => (x : Int) := by
  refine PySem.W.ksm_same (hp.trans (h.perm.map _)) hs ?_
  rw [List.pairwise_map]
  exact List.Pairwise.imp (fun z => by omega) List.pairwise_lt_range
/-! ### the promises -/
def spRises : Sp := fun vs H Q _ => ∃ (a : Addr) (ns : List Nat), vs = [.ref a] ∧ (H a = some (.lst (nV ns)) ∨ (H a = some (.tup (nV ns)) ∧ ns ≠ [])) ∧ ns.Pairwise (· < ·) ∧ ns.length ≤ 1000 ∧ ∀ H', Same H H' → Q (.bl true) H'
def spPartFits : Sp := fun vs H Q _ => ∃ (v : V) (n : Nat) (p : List Nat), vs = [v, .int (n : Int)] ∧ PartAt H v p ∧ p ≠ [] ∧ p.Pairwise (· < ·) ∧ (∀ x ∈ p, x < n) ∧ p.length ≤ 8 ∧ ∀ H', Same H H' → Q (.bl true) H'
def spPartsFit : Sp := fun vs H Q _ => ∃ (a : Addr) (n : Nat) (us : List V) (ps : List (List Nat)), vs = [.ref a, .int (n : Int)] ∧ H a = some (.tup us) ∧ Paired (PartAt H) us ps ∧ PInv n ps ∧ n ≤ 8 ∧ ∀ H', Same H H' → Q (.bl true) H'
def spHasEnd : Sp := fun vs H Q _ => ∃ (a : Addr) (st : List Int) (x : Nat) (od : List Nat), vs = [.ref a, .int (x : Int)] ∧ H a = some (.tup (st.map V.int)) ∧ od.Perm (List.range st.length) ∧ SInv od st ∧ x < st.length ∧ st.length ≤ 1000 ∧ Q (.bl true) H
def spStandsFit : Sp := fun vs H Q _ => ∃ (a : Addr) (st : List Int) (m : Nat) (od : List Nat), vs = [.ref a, .int (m : Int)] ∧ H a = some (.tup (st.map V.int)) ∧ st.length = m ∧ od.Perm (List.range m) ∧ SInv od st ∧ m ≤ 1000 ∧ ∀ H', Same H H' → Q (.bl true) H'
/-- a program and a tree of it -/
def preT (H : Hp) (v t : V) (pr : List (Int × W)) (ps : List (List Nat)) (st : List Int) : Prop := PrAt H v pr ∧ PrOk pr ∧ TrAt H t ps st ∧ TrOk pr.length ps st
theorem preT.keep {H H' : Hp} {v t : V} {pr : List (Int × W)} {ps : List (List Nat)} {st : List Int} (k : Keep H H') (h : preT H v t pr ps st) : preT H' v t pr ps st := ⟨h.1.keep k, h.2.1, h.2.2.1.keep k, h.2.2.2⟩
def spCheckTree : Sp := fun vs H Q _ => ∃ v t pr ps st, vs = [v, t] ∧ preT H v t pr ps st ∧ ∀ H', Same H H' → Q .non H'
def spPartsBelow : Sp := fun vs H Q _ => ∃ (a : Addr) (st : List Int) (x : Nat) (l : List Nat), vs = [.ref a, .int (x : Int)] ∧ H a = some (.tup (st.map V.int)) ∧ Down st x l ∧ l.length ≤ 900 ∧ ∀ H' p, Same H H' → H p = none → H' p = some (.lst (nV l)) → Q (.ref p) H'
def spSizeOf : Sp := fun vs H Q _ => ∃ v u pr p, vs = [v, u] ∧ PrAt H v pr ∧ PartAt H u p ∧ (∀ x ∈ p, x < pr.length) ∧ p.length ≤ 900 ∧ ∀ H', Same H H' → Q (.int (psz pr p)) H'
def spBegins : Sp := fun vs H Q _ => ∃ v t pr ps st dn, vs = [v, t] ∧ preT H v t pr ps st ∧ Dn pr.length ps st dn ∧ ∀ H' p, Same H H' → H p = none → H' p = some (.lst (((List.range ps.length).map (bgn pr ps dn)).map V.int)) → Q (.ref p) H'
/-- the cells of all functions -/
def Cells (pr : List (Int × W)) (ps : List (List Nat)) (dn : Nat → List Nat) (cs : List Int) : Prop := cs.length = pr.length ∧ ∀ i p j f, ps[i]? = some p → p[j]? = some f → cs[f]? = some (bgn pr ps dn i + psz pr (p.take j))
def spPlaces : Sp := fun vs H Q _ => ∃ v t pr ps st dn, vs = [v, t] ∧ preT H v t pr ps st ∧ Dn pr.length ps st dn ∧ ∀ H' p cs, Same H H' → H p = none → H' p = some (.lst (cs.map V.int)) → Cells pr ps dn cs → Q (.ref p) H'
/-- the farthest end -/
def Far (pr : List (Int × W)) (ps : List (List Nat)) (dn : Nat → List Nat) (m : Int) : Prop := (∃ i p, ps[i]? = some p ∧ m = bgn pr ps dn i + psz pr p) ∧ ∀ i p, ps[i]? = some p → bgn pr ps dn i + psz pr p ≤ m
theorem Far.uniq {pr : List (Int × W)} {ps : List (List Nat)} {dn : Nat → List Nat} {m k : Int} (h : Far pr ps dn m) (h' : Far pr ps dn k) : m = k := by
  obtain ⟨⟨i, p, h1, h2⟩, h3⟩ := h
  obtain ⟨⟨j, q, h4, h5⟩, h6⟩ := h'
  have a := h3 j q h4
  have b := h6 i p h1
  omega
def spWanted : Sp := fun vs H Q _ => ∃ v t pr ps st dn, vs = [v, t] ∧ preT H v t pr ps st ∧ Dn pr.length ps st dn ∧ ∀ H' m, Same H H' → Far pr ps dn m → Q (.int m) H'
def spWayOf : Sp := fun vs H Q _ => ∃ (t : V) (n : Nat) (ps : List (List Nat)) (st : List Int) (dn : Nat → List Nat) (f i : Nat) (pt : List Nat), vs = [t, .int (f : Int)] ∧ TrAt H t ps st ∧ TrOk n ps st ∧ n ≤ 8 ∧ Dn n ps st dn ∧ ps[i]? = some pt ∧ f ∈ pt ∧
  ∀ H' p, Same H H' → H p = none → H' p = some (.lst (nV (dn i ++ [i]))) → Q (.ref p) H'
end Ov

/-! ### more on ways down -/
namespace Ov
open PySem PySem.Spec PyProof.Rows L2
theorem Down.get {st : List Int} {x : Nat} {l : List Nat} (h : Down st x l) : ∃ z, st[x]? = some z := by
  cases h with
  | base e => exact ⟨_, e⟩
  | step e _ => exact ⟨_, e⟩
theorem Paired.got {α β : Type} {R : α → β → Prop} : ∀ {a : List α} {b : List β} {i : Nat} {y : β}, Paired R a b → b[i]? = some y → ∃ x, a[i]? = some x ∧ R x y
  | _, _, 0, y, .cons h _, e => by
    obtain rfl := Option.some.inj e
    exact ⟨_, rfl, h⟩
  | _, _, i + 1, y, .cons _ r, e => Paired.got (i := i) (y := y) r e
theorem rep_v (x : V) (m : Nat) : (List.replicate ((m : Nat) : Int).toNat [x]).flatten = List.replicate m x := by
  rw [Int.toNat_natCast]
  induction m with
  | zero => rfl
  | succ m ih =>
    show [x] ++ (List.replicate m [x]).flatten = _
    rw [ih]
    rfl
/-- each function stands at one place of one part -/
theorem PInv.uniq {n : Nat} {ps : List (List Nat)} (h : PInv n ps) {i i' j j' f : Nat} {p p' : List Nat} (e1 : ps[i]? = some p) (e2 : p[j]? = some f) (e3 : ps[i']? = some p') (e4 : p'[j']? = some f) : i = i' ∧ j = j' := by
  have nd : ps.flatten.Nodup := h.perm.nodup_iff.mpr List.nodup_range
  unfold List.Nodup at nd
  rw [List.pairwise_flatten] at nd
  obtain ⟨hi, d1⟩ := List.getElem?_eq_some_iff.mp e1
  obtain ⟨hi', d3⟩ := List.getElem?_eq_some_iff.mp e3
  have m1 := List.mem_of_getElem? e2
  have m2 := List.mem_of_getElem? e4
  have ii : i = i' := by
    rcases Nat.lt_trichotomy i i' with lt | eq | gt
    · have z := List.pairwise_iff_getElem.mp nd.2 i i' hi hi' lt
      rw [d1, d3] at z
      exact absurd rfl (z f m1 f m2)
    · exact eq
    · have z := List.pairwise_iff_getElem.mp nd.2 i' i hi' hi gt
      rw [d1, d3] at z
      exact absurd rfl (z f m2 f m1)
  subst ii
  obtain rfl : p = p' := Option.some.inj (e1.symm.trans e3)
  obtain ⟨hj, d2⟩ := List.getElem?_eq_some_iff.mp e2
  obtain ⟨hj', d4⟩ := List.getElem?_eq_some_iff.mp e4
  have r := h.rise p (List.mem_of_getElem? e1)
  refine ⟨rfl, ?_⟩
  rcases Nat.lt_trichotomy j j' with lt | eq | gt
  · have z := List.pairwise_iff_getElem.mp r j j' hj hj' lt
    omega
  · exact eq
  · have z := List.pairwise_iff_getElem.mp r j' j hj' hj gt
    omega
theorem PInv.stands {n : Nat} {ps : List (List Nat)} (h : PInv n ps) {f : Nat} (hf : f < n) : ∃ (i : Nat) (p : List Nat) (j : Nat), ps[i]? = some p ∧ p[j]? = some f := by
  obtain ⟨p, hp, hm⟩ := List.mem_flatten.mp (h.perm.mem_iff.mpr (List.mem_range.mpr hf))
  obtain ⟨i, hi⟩ := List.mem_iff_getElem?.mp hp
  obtain ⟨j, hj⟩ := List.mem_iff_getElem?.mp hm
  exact ⟨i, p, j, hi, hj⟩
/-- a row that is filled part by part -/
def Fill {α : Type} (n : Nat) (ps : List (List Nat)) (R : Nat → Nat → α → Prop) (i j : Nat) (cs : List α) : Prop := cs.length = n ∧ ∀ i' p j' f, ps[i']? = some p → p[j']? = some f → (i' < i ∨ (i' = i ∧ j' < j)) → ∃ x, cs[f]? = some x ∧ R i' j' x
theorem Fill.start {α : Type} {n : Nat} {ps : List (List Nat)} {R : Nat → Nat → α → Prop} {cs : List α} (h : cs.length = n) : Fill n ps R 0 0 cs := ⟨h, fun _ _ _ _ _ _ z => by omega⟩
theorem Fill.mono {α : Type} {n : Nat} {ps : List (List Nat)} {R R' : Nat → Nat → α → Prop} {i j : Nat} {cs : List α} (h : Fill n ps R i j cs) (m : ∀ a b x, R a b x → R' a b x) : Fill n ps R' i j cs := ⟨h.1, fun i' p j' f e1 e2 z => by
  obtain ⟨x, h1, h2⟩ := h.2 i' p j' f e1 e2 z
  exact ⟨x, h1, m _ _ _ h2⟩⟩
theorem Fill.step {α : Type} {n : Nat} {ps : List (List Nat)} {R : Nat → Nat → α → Prop} {i j f : Nat} {p : List Nat} {cs : List α} {x : α} (h : Fill n ps R i j cs) (hp : PInv n ps) (e1 : ps[i]? = some p) (e2 : p[j]? = some f) (r : R i j x) : Fill n ps R i (j + 1) (cs.set f x) := by
  refine ⟨by rw [List.length_set]; exact h.1, fun i' p' j' f' d1 d2 z => ?_⟩
  by_cases e : f = f'
  · subst e
    obtain ⟨rfl, rfl⟩ := hp.uniq e1 e2 d1 d2
    have lf : f < cs.length := by rw [h.1]; exact hp.lt (List.mem_of_getElem? e1) (List.mem_of_getElem? e2)
    exact ⟨x, List.getElem?_set_self lf, r⟩
  · rw [List.getElem?_set_ne e]
    refine h.2 i' p' j' f' d1 d2 ?_
    rcases z with z | ⟨rfl, z⟩
    · exact .inl z
    · refine .inr ⟨rfl, ?_⟩
      by_cases ej : j' = j
      · subst ej
        obtain rfl : p = p' := Option.some.inj (e1.symm.trans d1)
        exact absurd (Option.some.inj (e2.symm.trans d2)) e
      · omega
theorem Fill.next {α : Type} {n : Nat} {ps : List (List Nat)} {R : Nat → Nat → α → Prop} {i : Nat} {p : List Nat} {cs : List α} (h : Fill n ps R i p.length cs) (e1 : ps[i]? = some p) : Fill n ps R (i + 1) 0 cs := ⟨h.1, fun i' p' j' f d1 d2 z => by
  refine h.2 i' p' j' f d1 d2 ?_
  by_cases e : i' = i
  · subst e
    obtain rfl : p = p' := Option.some.inj (e1.symm.trans d1)
    exact .inr ⟨rfl, (List.getElem?_eq_some_iff.mp d2).1⟩
  · omega⟩
theorem Fill.all {α : Type} {n : Nat} {ps : List (List Nat)} {R : Nat → Nat → α → Prop} {cs : List α} (h : Fill n ps R ps.length 0 cs) : cs.length = n ∧ ∀ i p j f, ps[i]? = some p → p[j]? = some f → ∃ x, cs[f]? = some x ∧ R i j x := ⟨h.1, fun i p j f d1 d2 => h.2 i p j f d1 d2 (.inl (List.getElem?_eq_some_iff.mp d1).1)⟩
/-- the cell of the j-th function of the i-th part -/
def IsCell (pr : List (Int × W)) (ps : List (List Nat)) (dn : Nat → List Nat) : Nat → Nat → Int → Prop := fun i j x => x = bgn pr ps dn i + psz pr ((ps[i]?.getD []).take j)
theorem Fill.cells {pr : List (Int × W)} {ps : List (List Nat)} {dn : Nat → List Nat} {cs : List Int} (h : Fill pr.length ps (IsCell pr ps dn) ps.length 0 cs) : Cells pr ps dn cs := by
  obtain ⟨h1, h2⟩ := h.all
  refine ⟨h1, fun i p j f d1 d2 => ?_⟩
  obtain ⟨x, e, r⟩ := h2 i p j f d1 d2
  rw [e, r, d1]
  rfl
theorem Cells.uniq {pr : List (Int × W)} {ps : List (List Nat)} {dn : Nat → List Nat} {cs cs' : List Int} (hp : PInv pr.length ps) (h : Cells pr ps dn cs) (h' : Cells pr ps dn cs') : cs = cs' := by
  refine List.ext_getElem? fun f => ?_
  by_cases hf : f < pr.length
  · obtain ⟨i, p, j, e1, e2⟩ := hp.stands hf
    rw [h.2 i p j f e1 e2, h'.2 i p j f e1 e2]
  · rw [List.getElem?_eq_none (by rw [h.1]; omega), List.getElem?_eq_none (by rw [h'.1]; omega)]
theorem ixN_nat {n k : Nat} (h : k < n) : ixN n (k : Int) = some k := by
  unfold ixN
  rw [if_pos (by omega), if_pos (by omega), Int.toNat_natCast]
theorem inVnat (f : Nat) (p : List Nat) : inV (.int (f : Int)) (nV p) = decide (f ∈ p) := by
  unfold inV nV
  rw [List.any_map, Bool.eq_iff_iff, List.any_eq_true, decide_eq_true_iff]
  constructor
  · rintro ⟨y, hy, e⟩
    have e' : ((y : Nat) : Int) = (f : Int) := by simpa [eqV] using e
    obtain rfl : y = f := by omega
    exact hy
  · intro h
    exact ⟨f, h, by simp [eqV]⟩
theorem nVflat (p : List Nat) : (nV p).all flatV = true := by
  unfold nV
  rw [List.all_map, List.all_eq_true]
  intro x _
  rfl
/-- two values that are the same: flat ones, lists and tuples of such -/
def Al (H : Hp) : Nat → V → V → Prop
  | 0, _, _ => False
  | d + 1, x, y => (x = y ∧ flatV x = true) ∨ (∃ a b xs ys, x = .ref a ∧ y = .ref b ∧ H a = some (.lst xs) ∧ H b = some (.lst ys) ∧ xs.length ≤ 9000 ∧ Paired (Al H d) xs ys) ∨
    ∃ a b xs ys, x = .ref a ∧ y = .ref b ∧ H a = some (.tup xs) ∧ H b = some (.tup ys) ∧ xs.length ≤ 9000 ∧ Paired (Al H d) xs ys
theorem Al.keep {H H' : Hp} (s : Same H H') : ∀ {d : Nat} {x y : V}, Al H d x y → Al H' d x y
  | 0, _, _, h => h.elim
  | d + 1, _, _, .inl h => .inl h
  | d + 1, _, _, .inr (.inl ⟨a, b, xs, ys, e1, e2, h1, h2, l, h3⟩) => .inr (.inl ⟨a, b, xs, ys, e1, e2, s _ _ h1, s _ _ h2, l, L2.Paired.mapP h3 fun _ _ z => Al.keep s z⟩)
  | d + 1, _, _, .inr (.inr ⟨a, b, xs, ys, e1, e2, h1, h2, l, h3⟩) => .inr (.inr ⟨a, b, xs, ys, e1, e2, s _ _ h1, s _ _ h2, l, L2.Paired.mapP h3 fun _ _ z => Al.keep s z⟩)
theorem Al.flat {H : Hp} {d : Nat} : ∀ xs : List V, xs.all flatV = true → Paired (Al H (d + 1)) xs xs
  | [], _ => .nil
  | x :: xs, h => by
    rw [List.all_cons, Bool.and_eq_true] at h
    exact .cons (.inl ⟨rfl, h.1⟩) (Al.flat xs h.2)
theorem Al.ints {H : Hp} {d : Nat} (ns : List Int) : Paired (Al H (d + 1)) (ns.map V.int) (ns.map V.int) := Al.flat _ (by
  rw [List.all_map, List.all_eq_true]
  intro x _
  rfl)
def spAlike (d : Nat) : Sp := fun vs H Q _ => ∃ x y, vs = [x, y] ∧ Al H d x y ∧ ∀ H', Same H H' → Q (.bl true) H'
theorem cut_last (l : List Nat) (x : Nat) : cutV (nV (l ++ [x])) none (some (-1)) = nV l := by
  have e : (nV (l ++ [x])).length = l.length + 1 := by rw [nV_len, List.length_append]; rfl
  have z : HT.sIx (l.length + 1) (l.length + 1) (some (-1)) = l.length := by
    unfold HT.sIx
    simp
    try omega
  unfold cutV
  rw [e, HT.sIx_none, z, Nat.sub_zero, List.drop_zero, nV_app]
  exact List.take_left' (nV_len l)
/-- what was laid: the functions' cells and ways down, the farthest end -/
def LaidAt (H : Hp) (pr : List (Int × W)) (ps : List (List Nat)) (dn : Nat → List Nat) (v : V) : Prop := ∃ r fl vs m, v = .ref r ∧ H r = some (.tup [.ref fl, .int m]) ∧ H fl = some (.lst vs) ∧
  Fill pr.length ps (fun i j x => ∃ t dl, x = .ref t ∧ H t = some (.tup [.int (bgn pr ps dn i + psz pr ((ps[i]?.getD []).take j)), .ref dl]) ∧ H dl = some (.lst (nV (dn i ++ [i])))) ps.length 0 vs ∧ Far pr ps dn m
def spLaid : Sp := fun vs H Q _ => ∃ v t pr ps st dn, vs = [v, t] ∧ preT H v t pr ps st ∧ Dn pr.length ps st dn ∧ ∀ H' x, Same H H' → LaidAt H' pr ps dn x → Q x H'
/-- the same, with where the new lists stand -/
def spLaidN : Sp := fun vs H Q _ => ∃ v t pr ps st dn, vs = [v, t] ∧ preT H v t pr ps st ∧ Dn pr.length ps st dn ∧ ∀ H' r fl us m, Same H H' → H fl = none → H' r = some (.tup [.ref fl, .int m]) → H' fl = some (.lst us) →
  Fill pr.length ps (fun i j x => ∃ t dl, x = .ref t ∧ H' t = some (.tup [.int (bgn pr ps dn i + psz pr ((ps[i]?.getD []).take j)), .ref dl]) ∧ H' dl = some (.lst (nV (dn i ++ [i]))) ∧ H dl = none) ps.length 0 us → Far pr ps dn m → Q (.ref r) H'
theorem bgn_psz {pr : List (Int × W)} {ps : List (List Nat)} {dn : Nat → List Nat} {i : Nat} : (((dn i ++ [i]).map fun y => psz pr (ps[y]?.getD []))).sum = bgn pr ps dn i + psz pr (ps[i]?.getD []) := by
  unfold bgn
  rw [List.map_append, List.sum_append]
  simp
/-- what is laid for the j-th function of the i-th part, the ways down at Hb -/
def RL (Hb H : Hp) (pr : List (Int × W)) (ps : List (List Nat)) (dn : Nat → List Nat) (H0 : Hp) : Nat → Nat → V → Prop := fun i j x => ∃ t dl, x = .ref t ∧ H t = some (.tup [.int (bgn pr ps dn i + psz pr ((ps[i]?.getD []).take j)), .ref dl]) ∧ Hb dl = some (.lst (nV (dn i ++ [i]))) ∧ H0 dl = none
theorem RL.keep {Hb H H' : Hp} {pr : List (Int × W)} {ps : List (List Nat)} {dn : Nat → List Nat} {H0 : Hp} (k : Keep H H') : ∀ a b x, RL Hb H pr ps dn H0 a b x → RL Hb H' pr ps dn H0 a b x := fun _ _ _ ⟨t, dl, e, h1, h2, h3⟩ => ⟨t, dl, e, k _ _ h1, h2, h3⟩
theorem LsAt.snoc {H : Hp} {bs : List Addr} {qs : List (List Nat)} {b : Addr} {q : List Nat} (h : LsAt H bs qs) (e : H b = some (.lst (nV q))) : LsAt H (bs ++ [b]) (qs ++ [q]) := Paired.snoc h e
end Ov

/-! ### runs as data -/
namespace Ov
open PySem PySem.Spec PyProof.Rows L2
/-- what a word comes to -/
inductive Wt where
  | num (z : Int) | way (f : Nat)
inductive Flt where
  | kind | deep | long
def Flt.name : Flt → Str
  | .kind => "kind" | .deep => "deep" | .long => "long"
/-- how far a run is -/
structure RS where
  said : List Int
  calls : Nat
  row : List Nat
  came : List (Nat × Wt)
  told : List (Nat × Wt)
inductive Res where
  | ok (v : Wt) (s : RS) | bad (f : Flt) (s : RS)
def Res.bind (r : Res) (k : Wt → RS → Res) : Res := match r with
  | .ok v s => k v s
  | .bad f s => .bad f s
def fin (call : Nat → Wt → RS → Res) (o : Op) (g : Int) (vs : List Wt) (s : RS) : Res := match o, vs with
  | .thn, [_, v] => .ok v s
  | .say, [.num z] => .ok (.num z) { s with said := s.said ++ [z] }
  | .call, [v] => call g.toNat v s
  | .through, [.way f, u] => call f u s
  | .plus, [.num x, .num y] => .ok (.num ((x + y) % 1000)) s
  | .less, [.num x, .num y] => .ok (.num ((x - y) % 1000)) s
  | .times, [.num x, .num y] => .ok (.num ((x * y) % 1000)) s
  | _, _ => .bad .kind s
theorem Keep.updD {H : Hp} {a : Addr} {ks : List (Key × V)} {o : HO} (e : H a = some (.dK ks)) : Keep H (upd H a o) := fun b zs h => by
  rw [upd_ne (ne_of h e (by intro z; cases z))]
  exact h
def most : Nat := 1000000
theorem pairShaped (a b : Int) : SeqAt.shaped (.tuple [.int a, .int b]) = true := by
  simp [SeqAt.shaped, PyData.depth, PyData.depthAll, PyData.canLay0, PyData.canLayAll0]
end Ov

/-! ### d.update(e), of dicts -/
namespace Ov
open PySem PySem.Spec PyProof.Rows L2
section
variable {X : Cx} {pins : List (Addr × Obj)} {σ : L2.St} {H : Hp} {s : Shared} {a b : Addr} {kvs more : List (Key × V)} {A : Around} {E : Value → Shared → Prop}
end
theorem pe_fldK {X : Cx} {K : PySem.W.Frag} {e : Expr} {f : Str} {pos : Pos} {ta : TE} (hK : X.K = K) (h : PE X e ta) (hb : attributeBase e f X.env (eval e X.env) = eval e X.env) : PE X (.Attribute e f pos) (tFld K ta f) := by
  subst hK
  exact pe_fld h hb
def Res.st : Res → RS
  | .ok _ s => s
  | .bad _ s => s
theorem mergeK_fresh : ∀ (more acc : List (Key × V)), ((acc ++ more).map (·.1)).Nodup → mergeK acc more = acc ++ more
  | [], acc, _ => (List.append_nil acc).symm
  | kv :: r, acc, h => by
    have e : putK acc kv.1 kv.2 = acc ++ [kv] := by
      unfold putK
      rw [if_neg]
      intro z
      obtain ⟨x, hx, hxe⟩ := List.any_eq_true.mp z
      rw [List.map_append, List.map_cons, List.nodup_append] at h
      exact h.2.2 x.1 (List.mem_map.mpr ⟨x, hx, rfl⟩) kv.1 List.mem_cons_self (of_decide_eq_true hxe)
    show mergeK (putK acc kv.1 kv.2) r = _
    rw [e, mergeK_fresh r (acc ++ [kv]) (by rw [List.append_assoc]; exact h), List.append_assoc]
    rfl
/-! ### the program's side of runs -/
theorem PairedMem.map {α β : Type} {R R' : α → β → Prop} : ∀ {l : List α} {m : List β}, Paired R l m → (∀ a b, a ∈ l → R a b → R' a b) → Paired R' l m
  | _, _, .nil, _ => .nil
  | _, _, .cons h r, f => .cons (f _ _ List.mem_cons_self h) (PairedMem.map r fun a b m => f a b (List.mem_cons_of_mem _ m))
theorem PairedMem.left {α β : Type} {R : α → β → Prop} : ∀ {l : List α} {m : List β}, Paired R l m → ∀ a ∈ l, ∃ b, R a b
  | _, _, .cons h r, a, ha => by
    rcases List.mem_cons.mp ha with rfl | ha
    · exact ⟨_, h⟩
    · exact PairedMem.left r a ha
end Ov

namespace PySem
namespace FltX
open PySem.W PySem.Calls PyProof.Rows PySem.HandSPX
/-! ### the text of __init__ -/
def iA (p1 p2 : Pos) : Arguments := { posonlyargs := [], args := [{ arg := "self", annotation := none, pos := p1 }, { arg := "word", annotation := none, pos := p2 }], vararg := none, kwonlyargs := [], kw_defaults := [], kwarg := none, defaults := [] }
def iB (q1 q2 q3 q4 : Pos) : List Stmt := [.Assign [.Attribute (.Name "self" q1) "word" q2] (.Name "word" q3) q4]
def iS : Scope := { kind := .function, names := [(PySem.Str.ofString "self", .local), (PySem.Str.ofString "word", .local)], isGenerator := false, isCoroutine := false, more := [] }
/-- what the written part says of Flt, at C, and of its __init__, at fI -/
structure FltTxt (K : Frag) (mg : Str → Option Value) (C fI : Addr) : Prop where
  gC : mg "Fault" = some (.ref C)
  cls : ∃ nm q N bs bm sn sub ab col dd k0 k1 k2 k3 k5, K.lookup C = some (excClassObj nm q C N bs bm true sn sub ab col dd k0 k1 k2 k3 k5 "Exception.__new__") ∧ bm = ESX.exTail
  sa : findIn K (.ref C) "__setattr__" = some (some (.builtin "object.__setattr__"))
  ga : findIn K (.ref C) "__getattribute__" = some (some (.builtin "BaseException.__getattribute__"))
  gg : findIn K (.ref C) "__getattr__" = some none
  noN : findIn K (.ref C) "word" = some none
  iC : findIn K (.ref C) "__init__" = some (some (.ref fI))
  tC : typeIn K (.ref fI) = some (.type "function")
  kC : keepIn K (.ref C) = true
  exC : subIn K (.ref C) (.type "BaseException") = some true
  tyC : typeIn K (.ref C) = some (.type "type")
  hdC : hasDictIn K C = true
  te : exmOne K (.ref C) (.ref C) = some true
  fn : ∃ (oc : Value) (od : Option Addr) (doc pm : Value) (an : Option Addr) (cdv ct : Value) (osl : Array (Option Value)) (p1 p2 q1 q2 q3 q4 : Pos),
    K.lookup fI = some ⟨oc, od, .func (fnOf "__init__" "Fault.__init__" (iA p1 p2) (iB q1 q2 q3 q4) iS .none .none doc pm an cdv ct), osl⟩ ∧ codeIn K cdv "Fault.__init__" = true
theorem one_size (v : Value) : [v].length ≤ sizeLine := by
  rw [sizeLine_eq]
  exact (by decide : 1 ≤ 16777216)
theorem kept_but {K : Frag} {h h' : Heap} {x : Addr} (X : K.In h) (hx : K.lookup x = none) (k : ∀ b o, b ≠ x → h.get? b = some o → h'.get? b = some o) : K.In h' := fun a o e =>
  k a o (fun z => by rw [z, hx] at e; cases e) (X a o e)
theorem ldC {M : Model} {s : Shared} {name : Str} {scope : Scope} {L a : Addr} {cd : Value} {m : Str → Option Value} {x : Str} {pos : Pos} {v : Value} {Q : Value → Shared → Prop} {A : Around} {E : Value → Shared → Prop} (hn : s.heap.Ns L m) (hv : m x = some v) (h : Q v s)
    (hk : scope.kind = .function := by rfl) (hl : (envOfC name scope L a cd).kindOf x = some .local := by rfl) (hd : (x == ("__debug__" : Str)) = false := by decide) :
    wpAny M A (eval (.Name x pos) (envOfC name scope L a cd)) Q E s := wpAny_Name (wpAny_loadName_local hk hl hn hv h) hd
/-- what __init__ leaves of a fresh exception at x -/
structure InitEnd (h h' : Heap) (x C dx t1 : Addr) (v : Value) : Prop where
  keep : ∀ b o, b ≠ x → h.get? b = some o → h'.get? b = some o
  obj : h'.get? x = some { cls := .ref C, dict := some dx, data := .fields #[.ref t1, .none, .none, .none, .bool false, .none] }
  dbig : h.objs.size ≤ dx
  dne : dx ≠ x
  ns : h'.Ns1 dx (fun y => if y = "word" then some v else none)
/-- a made Flt -/
structure OwnMade (h h' : Heap) (e C d : Addr) (v : Value) : Prop where
  keep : ∀ b o, h.get? b = some o → h'.get? b = some o
  new : h.objs.size ≤ e
  obj : ∃ oe vs, h'.get? e = some oe ∧ oe.cls = .ref C ∧ oe.dict = some d ∧ oe.data = .fields vs ∧ vs[1]? = some .none
  dbig : h.objs.size ≤ d
  dne : d ≠ e
  ns : h'.Ns1 d (fun y => if y = "word" then some v else none)
section
variable {prog : Program} {w : World} {A : Around} {E : Value → Shared → Prop} {R : Result → Shared → Prop} {s : Shared} {K : Frag} {mg : Str → Option Value} {C fI : Addr}
theorem low_init (T : FltTxt K mg C fI) {x t0 : Addr} {v : Value} (X : K.In s.heap) (hlim : s.heap.NoLimit) (hx : s.heap.get? x = some (excO C t0)) (hnx : K.lookup x = none) (hroom : A.depth < recursionLimit)
    (hq : ∀ h' tk dx, InitEnd s.heap h' x C dx t0 v → R (.ok (.ret .none)) { s with heap := h', toks := tk }) :
    codeAny (model prog w) A (.call (.ref fI) ⟨[.ref x, v], []⟩) R s := by
  obtain ⟨oc, od, doc, pm, an, cdv, ct, osl, p1, p2, q1, q2, q3, q4, ho, hcd⟩ := T.fn
  obtain ⟨nm, q, N, bs, bm, sn, sub, ab, col, dd, k0, k1, k2, k3, k5, hC, hbm⟩ := T.cls
  have hcl : clsIn K C = some { name := nm, bases := bs, mro := .ref C :: bm, ns := N, qualname := q, hasDict := true, slotNames := sn, subclasses := sub, abstract := ab, collection := col, hasDel := false } := by unfold clsIn; rw [hC] <;> rfl
  refine Att.call_fn (binds := [("self", .ref x), ("word", v)]) X hlim ho hcd hroom (BindsTo.of_eq (by first | rfl | with_unfolding_all rfl)) (by first | rfl | decide | with_unfolding_all rfl) (fun s₁ IC => ?_) rfl rfl rfl
  obtain ⟨h₁, tk₁, rfl⟩ := IC.toInCall.same
  have k : ∀ b o, s.heap.get? b = some o → h₁.get? b = some o := IC.toInCall.keep
  have hn := IC.toInCall.ns
  have hxL : s.heap.objs.size ≠ x := Nat.ne_of_gt (Heap.lt_size hx)
  have X₁ : K.In h₁ := X.keeps k
  have hx₁ := k _ _ hx
  -- self.by = by
  show wpAny _ _ (execs _ _) _ _ _
  refine wpAny_execs_cons (plainObj_wpAny_Assign_Attribute ?_)
  refine ldC (v := v) hn (by first | rfl | with_unfolding_all rfl | kernel_rfl) (ldC (v := .ref x) hn (by first | rfl | with_unfolding_all rfl | kernel_rfl) ?_)
  refine set_plain X₁ (ox := excO C t0) (od := none) ⟨hx₁, rfl, rfl, trivial⟩ T.sa ?_
  refine ESX.osa_new X₁ hx₁ hcl (by rw [← hbm]) rfl T.noN (fun h₃ tk₃ dx k₃ dn dne hx₃ hn₃ => ?_)
  show wpAny _ _ (execs _ _) _ _ _
  have z : s.heap.objs.size < h₁.objs.size := hn.lt
  exact wpAny_execs_nil (hq h₃ tk₃ dx ⟨fun b o hb e => k₃ b o hb (k b o e), hx₃, Nat.le_of_lt (Nat.lt_of_lt_of_le z dn), dne, hn₃⟩)
theorem low_made (T : FltTxt K mg C fI) {v : Value} (X : K.In s.heap) (hlim : s.heap.NoLimit) (hroom : A.depth + 1 < recursionLimit)
    (hq : ∀ h' tk e d, OwnMade s.heap h' e C d v → R (.ok (.ret (.ref e))) { s with heap := h', toks := tk }) :
    codeAny (model prog w) A (.call (.ref C) ⟨[v], []⟩) R s := by
  obtain ⟨nm, q, N, bs, bm, sn, sub, ab, col, dd, k0, k1, k2, k3, k5, hC, hbm⟩ := T.cls
  obtain ⟨hp, g, dr, tk, os⟩ := s
  have k : ∀ b o, hp.get? b = some o → ((hp.push (kdv_tup [v])).push (excO C hp.objs.size)).get? b = some o := fun b o e => Heap.get?_push_of_some _ (Heap.get?_push_of_some _ e)
  have hget : ((hp.push (kdv_tup [v])).push (excO C hp.objs.size)).get? (hp.objs.size + 1) = some (excO C hp.objs.size) := by heap_get
  have hnx : K.lookup (hp.objs.size + 1) = none := by
    cases e : K.lookup (hp.objs.size + 1) with
    | none => rfl
    | some o =>
      have z : hp.get? (hp.objs.size + 1) = some o := X _ _ e
      exact absurd (Nat.lt_of_succ_lt (Heap.lt_size z)) (Nat.lt_irrefl _)
  refine call_own F.excBase_Exception (fun X => by rw [hbm]) (X _ _ hC) (looks_findIn X T.iC) (fun self => bind_fn X self T.tC) (one_size v) ?_
  refine low_init (s := ⟨(hp.push (kdv_tup [v])).push (excO C hp.objs.size), g, dr, tk, os⟩) T (X.keeps k) (hlim.keeps k) hget hnx ?_ fun h' tk' dx ⟨k', hx, dn, dne, hns⟩ => ?_
  · show A.depth + 1 < recursionLimit
    exact hroom
  · have old : ∀ b o, hp.get? b = some o → h'.get? b = some o := fun b o e => k' b o (Nat.ne_of_lt (Nat.lt_succ_of_lt (Heap.lt_size e))) (k b o e)
    have z : hp.objs.size + 1 + 1 ≤ dx := by
      first
        | (simpa only [Heap.size_push] using dn)
        | exact dn
        | (have q := dn; rw [Heap.size_push, Heap.size_push] at q; exact q)
    exact ⟨rfl, hq h' tk' (hp.objs.size + 1) dx ⟨old, Nat.le_succ _, ⟨_, _, hx, rfl, rfl, rfl, rfl⟩, Nat.le_trans (Nat.le_trans (Nat.le_succ _) (Nat.le_succ _)) z, dne, hns⟩⟩
end
end FltX
end PySem
namespace L2
open PySem PySem.Spec PyProof.Rows
theorem relO_low {v : V} {v' : Value} (r : RelV v v') (f : Str) : RelO (List.lookup f [(("word" : Str), v)]) (if f = "word" then some v' else none) := by
  by_cases hw : f = "word"
  · subst hw
    rw [if_pos rfl]
    have q : List.lookup ("word" : Str) [(("word" : Str), v)] = some v := by simp [List.lookup]
    rw [q]
    exact r
  · rw [if_neg hw]
    have qw : (f == ("word" : Str)) = false := by simpa using hw
    have q2 : List.lookup f [(("word" : Str), v)] = none := by simp [List.lookup, qw]
    rw [q2]
    trivial
section
variable {X : Cx} {C fI : Addr}
/-- Flt(e) -/
def tMkFlt (C : Addr) (ta : TA) : St → Hp → XK → Prop := fun σ H Q => ta σ H fun vs H1 => ∃ v, vs = [v] ∧ ∀ d, H1 d = none → Q (.ref C) (some d) (upd H1 d (.xd [(("word" : Str), v)]))
theorem pmk_low {a : Expr} {ta : TA} {p pos : Pos} {k : Nat} (T : PySem.FltX.FltTxt X.K X.mg C fI) (hr : Room k X.A) (ha : PA X [a] ta) (hg : Gl X "Fault" := by rfl)
    (he : starEach (a :: []) X.env = (false, eval a X.env) :: starEach [] X.env := by rfl) (hpl : (backTo pos (starEach [] X.env)).any (·.1) = false := by rfl) :
    PMk X (.Call (.Name "Fault" p) [a] [] pos) (tMkFlt C ta) := by
  intro pins s σ H Q I h
  refine wpAny_Call_Name_kw (ld_glob I hg T.gC ?_)
  refine PySem.W.callWith_K (h₀ := X.base) I.ok.mod.kin T.kC (thn (ha.run pos pins s σ H _ I h) fun us s1 hh => ?_) he hpl
  obtain ⟨vs, H1, I1, r1, v, ev, q1⟩ := hh
  subst ev
  refine ⟨I1.kIn, ?_⟩
  cases r1 with
  | cons rv rn =>
    rename_i v' us'
    cases rn
    show wpAny _ _ (call (.ref C) [v']) _ _ _
    have hlim := I1.nolimit
    obtain ⟨hp, g, dr, tk, os⟩ := s1
    refine wpAny_call (PySem.FltX.low_made T I1.kIn hlim (by have := hr.dp; omega) fun h' tk' e d M => ?_)
    show MkP X pins σ Q (.ref e) ⟨h', g, dr, tk', os⟩
    obtain ⟨oe, fv, hoe, hc, hd, hdat, h1⟩ := M.obj
    have hns := M.ns
    obtain ⟨G', g1, g2⟩ := restrict h' fun b => decide (b ≠ e)
    have gk : ∀ b, b ≠ e → G'.get? b = h'.get? b := fun b hb => g1 b (decide_eq_true hb)
    have ge : G'.get? e = none := g2 e (by simp)
    have old : ∀ b o, hp.get? b = some o → G'.get? b = some o := fun b o q => (gk b (Nat.ne_of_lt (Nat.lt_of_lt_of_le (Heap.lt_size q) M.new))).trans (M.keep b o q)
    have ob : ObjOk X.prog X.w (upd H1 d (.xd [(("word" : Str), v)])) G' d (.xd [(("word" : Str), v)]) :=
      ⟨_, hns.at (fun o q => (gk d M.dne).trans q), fun f => relO_low rv f⟩
    have J : Inv X pins σ (upd H1 d (.xd [(("word" : Str), v)])) ⟨G', g, dr, tk', os⟩ := I1.laid (t' := tk') old M.dbig ob
    refine ⟨e, oe, fv, ⟨G', g, dr, tk', os⟩, _, .ref C, some d, rfl, J, fun b o q => ?_, ge, hoe, ⟨hc, hd⟩, hdat, h1, ?_, rfl, I1.bare, raises_own T.exC T.tyC, q1 d (I1.hok.fresh M.dbig)⟩
    · by_cases hb : b = e
      · have q' : G'.get? b = some o := q
        rw [hb, ge] at q'; cases q'
      · exact (gk b hb).symm.trans q
    · rw [upd_ne (Ne.symm M.dne)]
      exact I1.hok.fresh M.new
/-- raise Flt(e) -/
def tRaiseFlt (C : Addr) (W : WX) (ta : TA) : TS := fun _ σ H => tMkFlt C ta σ H fun cls d H' => W cls d σ H'
theorem ps_raiseFlt {a : Expr} {ta : TA} {W : WX} {p pos pos2 : Pos} {k : Nat} (hc : X.calm = true) (T : PySem.FltX.FltTxt X.K X.mg C fI) (hr : Room k X.A) (tk : Takes X W) (ha : PA X [a] ta) (hg : Gl X "Fault" := by rfl)
    (he : starEach (a :: []) X.env = (false, eval a X.env) :: starEach [] X.env := by rfl) (hpl : (backTo pos (starEach [] X.env)).any (·.1) = false := by rfl) :
    PS X (.Raise (some (.Call (.Name "Fault" p) [a] [] pos)) none pos2) (tRaiseFlt C W ta) := ps_raise hc tk (pmk_low T hr ha hg he hpl)
/-- low.by, low the exception that the suite holds (at a; its class cls, its dict d) -/
def tByFlt (C : Addr) (a : Addr) (cls : Value) (d : Option Addr) (te : TE) : TE := fun σ H Q => te σ H fun x H1 => x = .ref a ∧ cls = .ref C ∧ ∃ (dd : Addr) (v : V), d = some dd ∧ H1 dd = some (.xd [(("word" : Str), v)]) ∧ Q v H1
theorem pe_byFlt {a : Addr} {oe : Obj} {cls : Value} {d : Option Addr} {pn : List (Addr × Obj)} {e : Expr} {te : TE} {pos : Pos} (T : PySem.FltX.FltTxt X.K X.mg C fI) (hz : Zc cls d oe) (hf : ∃ vs, oe.data = .fields vs) (he : PE (X.suite a ((a, oe) :: pn)) e te)
    (hb : attributeBase e "word" X.env (eval e X.env) = eval e X.env := by rfl) :
    PE (X.suite a ((a, oe) :: pn)) (.Attribute e "word" pos) (tByFlt C a cls d te) := by
  refine ⟨fun pins s σ H Q I h => ?_⟩
  refine attr_of hb (thn (he.run pins s σ H _ I h) fun u s1 hh => ?_)
  obtain ⟨x, H1, I1, rx, ex, ec, dd, v, ed, ea, q⟩ := hh
  subst ex
  obtain rfl : u = Value.ref a := rx
  subst ec
  subst ed
  obtain ⟨ha, _⟩ := I1.pin (a, oe) (List.mem_append_left _ List.mem_cons_self)
  obtain ⟨vs, hd⟩ := hf
  have hx : ObjOk X.prog X.w H1 s1.heap dd (.xd [(("word" : Str), v)]) := I1.hok dd _ ea
  obtain ⟨mA, hns, hr⟩ := hx
  obtain ⟨od, ho, hl⟩ := lookIn_ns hns
  have l : List.lookup ("word" : Str) [(("word" : Str), v)] = some v := by simp [List.lookup]
  obtain ⟨u, hu, ru⟩ := RelO.some_of (v := v) (o := mA "word") (by rw [← l]; exact hr "word")
  have J : PySem.W.InstAt s1.heap a oe C (some od) := ⟨ha, hz.1, by unfold PySem.W.notCls; rw [hd] <;> rfl, by rw [hz.2]; exact ho⟩
  exact HandSPX.exc_get I1.kIn J T.ga T.gg T.exC (PySem.W.findObj_own T.hdC T.noN rfl (by rw [hl, hu])) (handed_of ru) ⟨v, H1, I1.tok _, ru, q⟩
end
end L2

namespace L2
open PySem PySem.Spec PyProof.Rows
/-- an if whose test is known -/
theorem if_true_of {c : Bool} {A B : Prop} (hc : c = true) (h : A) : if c = true then A else B := by
  rw [if_pos hc]
  exact h
theorem if_false_of {c : Bool} {A B : Prop} (hc : c = false) (h : B) : if c = true then A else B := by
  rw [hc, if_neg Bool.false_ne_true]
  exact h
end L2
/-! ### the own error Fault: its facts as one test of the written part -/
namespace Ov
open PySem PySem.Spec PyProof.Rows L2
/-! ### the program's object of a run -/
structure PA where
  a : Addr
  dx : Addr
  bo : Addr
  sa : Addr
  ro : Addr
end Ov

namespace Ov
open PySem PySem.Spec PyProof.Rows L2
/-! ### kinds of errors: what isinstance asks, as a check of K -/
def excKB (K : PySem.W.Frag) (D : Addr) (cs : List (Value × Bool)) : Bool :=
  He.eqO (PySem.W.findIn K (.ref D) "__getattribute__") (some (some (.builtin "BaseException.__getattribute__"))) && He.eqO (PySem.W.findIn K (.ref D) "__getattr__") (some none) &&
  decide (PySem.W.subIn K (.ref D) (.type "BaseException") = some true) && PySem.W.hasDictIn K D && He.eqO (PySem.W.findIn K (.ref D) "__class__") (some (some (.builtin "object.__class__"))) &&
  He.eqO (PySem.W.specialIn K (.builtin "object.__class__") "__get__") (some (some (.builtin "getset_descriptor.__get__"))) && decide (PySem.W.takesIn K (.builtin "object.__class__") = some true) &&
  decide (PySem.W.mroIn K D (.type "object") = some true) && cs.all fun p => decide (PySem.W.kitOne K (.ref D) p.1 = some p.2)
theorem excKB_ok {K : PySem.W.Frag} {D : Addr} {cs : List (Value × Bool)} (h : excKB K D cs = true) : ExcC K D ∧ ∀ p ∈ cs, PySem.W.kitOne K (.ref D) p.1 = some p.2 := by
  unfold excKB at h
  simp only [Bool.and_eq_true, decide_eq_true_eq] at h
  obtain ⟨⟨⟨⟨⟨⟨⟨⟨a1, a2⟩, a3⟩, a4⟩, a5⟩, a6⟩, a7⟩, a8⟩, a9⟩ := h
  exact ⟨⟨He.eqO_ok a1, He.eqO_ok a2, a3, a4, He.eqO_ok a5, He.eqO_ok a6, a7, a8⟩, fun p hp => of_decide_eq_true (List.all_eq_true.mp a9 p hp)⟩
/-- the rule of a def whose code object is told -/
theorem funD_okC {P : Program} {w : World} {K : PySem.W.Frag} {mg : Str → Option Value} {base : Heap} {x qual : Str} {params : Arguments} {body : List Stmt} {scope : Scope} {dvs : List V} {kws : List (Str × V)} {f : Addr} {fd : FuncData} {CX : CXT} {N ps : List Str} {k : Nat} {sp : Sp} (F : FunD K x qual params body scope dvs kws f fd) (S : FnScope N ps scope) (len : ∀ vs H Q E, sp vs H Q E → vs.length = ps.length)
    (hbody : ∀ (cdv : Value) (A : Around) (outer : List Env) (s : Shared) (H : Hp) (vs : List V) (Q : VK) (E : XK), fd.code = cdv → Room k (A.deeper (envOfC qual scope s.heap.objs.size f cdv)) → sp vs H Q E →
      ∃ t, PSs (cxOf CX P w K mg base N qual scope f cdv A outer s H E) body t ∧ t { nx := fun _ H' => Q .non H', rt := Q } (L2.start N vs) H) : FnOk P w K mg base CX (k + 1) f fd ps sp := by
  obtain ⟨oc, od, dV, kV, doc, pm, an, cdv, ct, osl, rfl, lk, hcd, _, _⟩ := F.ex
  exact fn_of lk hcd S len fun A outer s H vs Q E hr hsp => hbody cdv A outer s H vs Q E rfl hr hsp
/-- the code object of a def whose table is told -/
theorem code_of {K : PySem.W.Frag} {x qual : Str} {params : Arguments} {body : List Stmt} {scope : Scope} {dvs : List V} {kws : List (Str × V)} {fd : FuncData} {p : He.Defn} (F : FunD K x qual params body scope dvs kws (He.fAd K p) fd) : fd.code = .ref (He.cT K p).1 := by
  obtain ⟨oc, od, dV, kV, doc, pm, an, cdv, ct, osl, rfl, lk, hcd, _, _⟩ := F.ex
  show cdv = .ref (He.codeOf K p)
  unfold He.codeOf
  rw [lk]
  cases cdv with
  | ref c => rfl
  | _ => exact absurd hcd (by simp [PySem.W.codeIn])
end Ov

/-! ### a head's hook over what some names of the module reach (less memory than over all) -/
namespace Ov
open PySem PySem.Spec PyProof.Rows L2
def rootsN (K0 : PySem.W.Frag) (xs : List Str) : List Addr := xs.filterMap fun x => match PySem.W.nsIn K0 mainGlobals x with
  | some (some (.ref a)) => some a
  | _ => none
def growN (g : Addr → Option Obj) (as : List Addr) : Nat → List Addr
  | 0 => as
  | n + 1 => He.growD g (growN g as n)
def asN (g : Addr → Option Obj) (xs : List Str) (n : Nat) : List Addr := cStatics :: mainGlobals :: growN g (rootsN (He.frG g [mainGlobals]) xs) n
def obsN (n : Nat) (xs : List Str) (fa : List He.Fa) (fn : List He.DefD) (ts : List He.Tab) (tf : List He.Defn) (ex : PySem.W.Frag → Bool) (g : Addr → Option Obj) : He.AlX :=
  (fun K => (He.obsT fa fn ts K, ex K && He.tabsB g tf K)) (He.frT g (asN g xs n))
theorem saysN_at {g : Addr → Option Obj} {h : Heap} {as : List Addr} {fa : List He.Fa} {fn : List He.DefD} {ts : List He.Tab} {tf : List He.Defn} {ex : PySem.W.Frag → Bool} {w : World} (hg : g = h.get?) (e1 : He.obsT fa fn ts (He.frT g as) = He.valT fn ts w) (e2 : (ex (He.frT g as) && He.tabsB g tf (He.frT g as)) = true) : He.SaysX fa fn ts tf ex w h (He.frT g as) := by
  obtain ⟨m, tb⟩ := He.ba e2
  have one : ∀ p ∈ tf, PySem.W.codeHdIn (He.frT g as) (He.cT (He.frT g as) p).1 (He.cT (He.frT g as) p).2 = true ∧ ∃ o, g (He.cT (He.frT g as) p).2 = some o ∧ He.emptyTab o = true := by
    intro p hp
    obtain ⟨c1, c2⟩ := He.ba (List.all_eq_true.mp tb p hp)
    generalize hq : g (He.cT (He.frT g as) p).2 = q at c2
    match q, c2 with
    | some o, c2 => exact ⟨c1, o, rfl, c2⟩
  constructor
  · exact e1
  · exact m
  · exact fun p hp => (one p hp).1
  · intro p hp
    obtain ⟨_, o, z1, z2⟩ := one p hp
    exact He.frT_none z1 z2
  · intro p hp
    obtain ⟨_, o, z1, z2⟩ := one p hp
    rw [← hg, z1, He.emptyTab_eq z2]
def hookN (n : Nat) (xs : List Str) (fa : List He.Fa) (fn : List He.DefD) (ts : List He.Tab) (tf : List He.Defn) (ex : PySem.W.Frag → Bool) : PySem.W.Hook where
  α := He.AlX
  obs := fun s => obsN n xs fa fn ts tf ex s.heap.get?
  val := fun w => He.valX fn ts w
  says := fun w h => ∃ K : PySem.W.Frag, K.In h ∧ He.SaysX fa fn ts tf ex w h K
  of := fun _ _ e => ⟨_, He.frT_in, saysN_at rfl (congrArg (fun z => z.1) e) (congrArg (fun z => z.2) e)⟩
  keeps := fun _ _ _ ⟨K, hK, c⟩ k => ⟨K, PySem.W.Frag.In.keeps hK k, ⟨c.t, c.more, c.hd, c.out, fun p hp => k _ _ (c.empty p hp)⟩⟩
theorem obsN_eq {n : Nat} {xs : List Str} {fa : List He.Fa} {fn : List He.DefD} {ts : List He.Tab} {tf : List He.Defn} {ex : PySem.W.Frag → Bool} {g : Addr → Option Obj} {s : Shared} (h : ∀ a, g a = s.heap.get? a) : obsN n xs fa fn ts tf ex g = (hookN n xs fa fn ts tf ex).obs s := by
  obtain rfl : g = s.heap.get? := funext h
  rfl
/-- the run's equation in two -/
def PartN0 (r : PySem.W.OpenRow) (q : Program) (names : List PySem.Str) (M : Nat) (w : World) : Prop :=
  ∀ os : PySem.OsState, (HandSHeadRun.endF (HandSHeadRun.stepQ (HandSHeadRun.denQ HandSHeadRun.tabQ) r.prog w) M r.prog w os).map (fun s => (HandSHeadRun.looksF r.prog (PySem.W.boot_heap w.params) s.abs, HandSHeadRun.seenQ q names (importedModules r.prog.main.body) (fun s => PySem.W.xlAt q [] s && PySem.W.recOk r.toRowW.records s) s.abs)) = some (true, PySem.W.openGood q names)
def PartN1 (n : Nat) (xs : List Str) (fa : List He.Fa) (fn : List He.DefD) (ts : List He.Tab) (tf : List He.Defn) (ex : PySem.W.Frag → Bool) (r : PySem.W.OpenRow) (M : Nat) (w : World) : Prop :=
  ∀ os : PySem.OsState, (HandSHeadRun.endF (HandSHeadRun.stepQ (HandSHeadRun.denQ HandSHeadRun.tabQ) r.prog w) M r.prog w os).map (fun s => obsN n xs fa fn ts tf ex (HandSHeadRun.getT s)) = some (He.valX fn ts w)
theorem mapn_some {α β : Type} {o : Option α} {f : α → β} {v : β} (h : o.map f = some v) : ∃ s, o = some s ∧ f s = v := by
  cases o with
  | none => cases h
  | some s => exact ⟨s, rfl, Option.some.inj h⟩
theorem runN_join {n : Nat} {xs : List Str} {fa : List He.Fa} {fn : List He.DefD} {ts : List He.Tab} {tf : List He.Defn} {ex : PySem.W.Frag → Bool} {r : PySem.W.OpenRow} {q : Program} {M : Nat} {names : List PySem.Str} {w : World}
    (hA : PartN0 r q names M w) (hB : PartN1 n xs fa fn ts tf ex r M w) :
    HandSHeadRun.RunEq r q (hookN n xs fa fn ts tf ex) (fun s => obsN n xs fa fn ts tf ex (HandSHeadRun.getT s)) M names w := by
  intro os
  obtain ⟨s, es, e1⟩ := mapn_some (hA os)
  obtain ⟨s2, es2, e2⟩ := mapn_some (hB os)
  obtain rfl : s = s2 := Option.some.inj (es.symm.trans es2)
  rw [es]
  exact congrArg some (Prod.ext (congrArg (fun z => z.1) e1) (Prod.ext (congrArg (fun z => z.2) e1) e2))
end Ov

namespace K16
open PySem PySem.Spec PyProof.Rows L2
/-! ### the text by places -/
def top (i : Nat) : Stmt := PySem.Challenge.pw_overlayhall_k16_the_cheapest_tree.main.body.getD i (.Pass ⟨0, 0, 0, 0⟩)
abbrev s_between : Stmt := top 14
abbrev s_given_of : Stmt := top 18
abbrev s_arms_of : Stmt := top 19
abbrev s_words_of : Stmt := top 20
abbrev s_add_word : Stmt := top 21
abbrev s_check_program : Stmt := top 28
abbrev s_check_function : Stmt := top 29
abbrev s_function_fits : Stmt := top 30
abbrev s_word_fits : Stmt := top 31
abbrev s_given_fits : Stmt := top 32
abbrev s_check_tree : Stmt := top 35
abbrev s_parts_fit : Stmt := top 36
abbrev s_part_fits : Stmt := top 37
abbrev s_rises : Stmt := top 38
abbrev s_stands_fit : Stmt := top 39
abbrev s_has_end : Stmt := top 40
abbrev s_parts_below : Stmt := top 41
abbrev s_size_of : Stmt := top 42
abbrev s_begins : Stmt := top 43
abbrev s_firsts_of : Stmt := top 44
abbrev s_end_of : Stmt := top 45
abbrev s_way_of : Stmt := top 46
abbrev s_trees_of : Stmt := top 47
abbrev s_stands_of : Stmt := top 48
abbrev s_partitions : Stmt := top 49
abbrev s_with_function : Stmt := top 50
abbrev s_check_room : Stmt := top 54
abbrev s_layouts : Stmt := top 55
abbrev s_cheapest : Stmt := top 58
abbrev s_check_trace : Stmt := top 59
abbrev s_bare : Stmt := top 60
abbrev s_brought_by : Stmt := top 61
abbrev s_law_mix : Stmt := top 63
abbrev s_law_next : Stmt := top 64
abbrev s_law_alike : Stmt := top 65
abbrev s_law_leaf : Stmt := top 66
abbrev s_law_call : Stmt := top 67
abbrev s_law_less : Stmt := top 68
abbrev s_law_body : Stmt := top 69
abbrev s_law_words : Stmt := top 70
abbrev s_law_program : Stmt := top 71
abbrev s_law_tree : Stmt := top 72
abbrev s_law_laid : Stmt := top 73
abbrev s_law_kind : Stmt := top 74
abbrev s_law_cost : Stmt := top 75
abbrev s_law_forests : Stmt := top 76
abbrev s_law_parts : Stmt := top 77
abbrev s_law_due : Stmt := top 78
abbrev s_law : Stmt := top 79
abbrev s_BadProgram_init : Stmt := inClass (top 2) 0
abbrev s_BadText_init : Stmt := inClass (top 12) 0
abbrev s_Hall_init : Stmt := inClass (top 53) 0
abbrev s_Hall_look : Stmt := inClass (top 53) 1
abbrev s_Hall_there : Stmt := inClass (top 53) 2
abbrev s_Hall_cells : Stmt := inClass (top 53) 3
abbrev s_Hall_brought : Stmt := inClass (top 53) 4
abbrev s_Hall_has_part : Stmt := inClass (top 53) 5
abbrev s_Hall_bring : Stmt := inClass (top 53) 6
abbrev FnP (K : PySem.W.Frag) (x q : Str) (st : Stmt) (f : Addr) (fd : FuncData) : Prop := FunD K x q (defArgs st) (defBody st) (defScope st) [] [] f fd
/-! ### the head: facts by names, the run -/
def d_between : He.DefD := ⟨("between", none), "between", "between", defArgs s_between, defBody s_between, defScope s_between, [], []⟩
def d_given_of : He.DefD := ⟨("given_of", none), "given_of", "given_of", defArgs s_given_of, defBody s_given_of, defScope s_given_of, [], []⟩
def d_arms_of : He.DefD := ⟨("arms_of", none), "arms_of", "arms_of", defArgs s_arms_of, defBody s_arms_of, defScope s_arms_of, [], []⟩
def d_words_of : He.DefD := ⟨("words_of", none), "words_of", "words_of", defArgs s_words_of, defBody s_words_of, defScope s_words_of, [], []⟩
def d_add_word : He.DefD := ⟨("add_word", none), "add_word", "add_word", defArgs s_add_word, defBody s_add_word, defScope s_add_word, [], []⟩
def d_check_program : He.DefD := ⟨("check_program", none), "check_program", "check_program", defArgs s_check_program, defBody s_check_program, defScope s_check_program, [], []⟩
def d_check_function : He.DefD := ⟨("check_function", none), "check_function", "check_function", defArgs s_check_function, defBody s_check_function, defScope s_check_function, [], []⟩
def d_function_fits : He.DefD := ⟨("function_fits", none), "function_fits", "function_fits", defArgs s_function_fits, defBody s_function_fits, defScope s_function_fits, [], []⟩
def d_word_fits : He.DefD := ⟨("word_fits", none), "word_fits", "word_fits", defArgs s_word_fits, defBody s_word_fits, defScope s_word_fits, [], []⟩
def d_given_fits : He.DefD := ⟨("given_fits", none), "given_fits", "given_fits", defArgs s_given_fits, defBody s_given_fits, defScope s_given_fits, [], []⟩
def d_check_tree : He.DefD := ⟨("check_tree", none), "check_tree", "check_tree", defArgs s_check_tree, defBody s_check_tree, defScope s_check_tree, [], []⟩
def d_parts_fit : He.DefD := ⟨("parts_fit", none), "parts_fit", "parts_fit", defArgs s_parts_fit, defBody s_parts_fit, defScope s_parts_fit, [], []⟩
def d_part_fits : He.DefD := ⟨("part_fits", none), "part_fits", "part_fits", defArgs s_part_fits, defBody s_part_fits, defScope s_part_fits, [], []⟩
def d_rises : He.DefD := ⟨("rises", none), "rises", "rises", defArgs s_rises, defBody s_rises, defScope s_rises, [], []⟩
def d_stands_fit : He.DefD := ⟨("stands_fit", none), "stands_fit", "stands_fit", defArgs s_stands_fit, defBody s_stands_fit, defScope s_stands_fit, [], []⟩
def d_has_end : He.DefD := ⟨("has_end", none), "has_end", "has_end", defArgs s_has_end, defBody s_has_end, defScope s_has_end, [], []⟩
def d_parts_below : He.DefD := ⟨("parts_below", none), "parts_below", "parts_below", defArgs s_parts_below, defBody s_parts_below, defScope s_parts_below, [], []⟩
def d_size_of : He.DefD := ⟨("size_of", none), "size_of", "size_of", defArgs s_size_of, defBody s_size_of, defScope s_size_of, [], []⟩
def d_begins : He.DefD := ⟨("begins", none), "begins", "begins", defArgs s_begins, defBody s_begins, defScope s_begins, [], []⟩
def d_firsts_of : He.DefD := ⟨("firsts_of", none), "firsts_of", "firsts_of", defArgs s_firsts_of, defBody s_firsts_of, defScope s_firsts_of, [], []⟩
def d_end_of : He.DefD := ⟨("end_of", none), "end_of", "end_of", defArgs s_end_of, defBody s_end_of, defScope s_end_of, [], []⟩
def d_way_of : He.DefD := ⟨("way_of", none), "way_of", "way_of", defArgs s_way_of, defBody s_way_of, defScope s_way_of, [], []⟩
def d_trees_of : He.DefD := ⟨("trees_of", none), "trees_of", "trees_of", defArgs s_trees_of, defBody s_trees_of, defScope s_trees_of, [], []⟩
def d_stands_of : He.DefD := ⟨("stands_of", none), "stands_of", "stands_of", defArgs s_stands_of, defBody s_stands_of, defScope s_stands_of, [], []⟩
def d_partitions : He.DefD := ⟨("partitions", none), "partitions", "partitions", defArgs s_partitions, defBody s_partitions, defScope s_partitions, [], []⟩
def d_with_function : He.DefD := ⟨("with_function", none), "with_function", "with_function", defArgs s_with_function, defBody s_with_function, defScope s_with_function, [], []⟩
def d_check_room : He.DefD := ⟨("check_room", none), "check_room", "check_room", defArgs s_check_room, defBody s_check_room, defScope s_check_room, [], []⟩
def d_layouts : He.DefD := ⟨("layouts", none), "layouts", "layouts", defArgs s_layouts, defBody s_layouts, defScope s_layouts, [], []⟩
def d_cheapest : He.DefD := ⟨("cheapest", none), "cheapest", "cheapest", defArgs s_cheapest, defBody s_cheapest, defScope s_cheapest, [], []⟩
def d_check_trace : He.DefD := ⟨("check_trace", none), "check_trace", "check_trace", defArgs s_check_trace, defBody s_check_trace, defScope s_check_trace, [], []⟩
def d_bare : He.DefD := ⟨("bare", none), "bare", "bare", defArgs s_bare, defBody s_bare, defScope s_bare, [], []⟩
def d_brought_by : He.DefD := ⟨("brought_by", none), "brought_by", "brought_by", defArgs s_brought_by, defBody s_brought_by, defScope s_brought_by, [], []⟩
def d_law_mix : He.DefD := ⟨("_law_mix", none), "_law_mix", "_law_mix", defArgs s_law_mix, defBody s_law_mix, defScope s_law_mix, [], []⟩
def d_law_next : He.DefD := ⟨("_law_next", none), "_law_next", "_law_next", defArgs s_law_next, defBody s_law_next, defScope s_law_next, [], []⟩
def d_law_alike : He.DefD := ⟨("_law_alike", none), "_law_alike", "_law_alike", defArgs s_law_alike, defBody s_law_alike, defScope s_law_alike, [], []⟩
def d_law_leaf : He.DefD := ⟨("_law_leaf", none), "_law_leaf", "_law_leaf", defArgs s_law_leaf, defBody s_law_leaf, defScope s_law_leaf, [], []⟩
def d_law_call : He.DefD := ⟨("_law_call", none), "_law_call", "_law_call", defArgs s_law_call, defBody s_law_call, defScope s_law_call, [], []⟩
def d_law_less : He.DefD := ⟨("_law_less", none), "_law_less", "_law_less", defArgs s_law_less, defBody s_law_less, defScope s_law_less, [], []⟩
def d_law_body : He.DefD := ⟨("_law_body", none), "_law_body", "_law_body", defArgs s_law_body, defBody s_law_body, defScope s_law_body, [], []⟩
def d_law_words : He.DefD := ⟨("_law_words", none), "_law_words", "_law_words", defArgs s_law_words, defBody s_law_words, defScope s_law_words, [], []⟩
def d_law_program : He.DefD := ⟨("_law_program", none), "_law_program", "_law_program", defArgs s_law_program, defBody s_law_program, defScope s_law_program, [], []⟩
def d_law_tree : He.DefD := ⟨("_law_tree", none), "_law_tree", "_law_tree", defArgs s_law_tree, defBody s_law_tree, defScope s_law_tree, [], []⟩
def d_law_laid : He.DefD := ⟨("_law_laid", none), "_law_laid", "_law_laid", defArgs s_law_laid, defBody s_law_laid, defScope s_law_laid, [], []⟩
def d_law_kind : He.DefD := ⟨("_law_kind", none), "_law_kind", "_law_kind", defArgs s_law_kind, defBody s_law_kind, defScope s_law_kind, [], []⟩
def d_law_cost : He.DefD := ⟨("_law_cost", none), "_law_cost", "_law_cost", defArgs s_law_cost, defBody s_law_cost, defScope s_law_cost, [], []⟩
def d_law_forests : He.DefD := ⟨("_law_forests", none), "_law_forests", "_law_forests", defArgs s_law_forests, defBody s_law_forests, defScope s_law_forests, [], []⟩
def d_law_parts : He.DefD := ⟨("_law_parts", none), "_law_parts", "_law_parts", defArgs s_law_parts, defBody s_law_parts, defScope s_law_parts, [], []⟩
def d_law_due : He.DefD := ⟨("_law_due", none), "_law_due", "_law_due", defArgs s_law_due, defBody s_law_due, defScope s_law_due, [], []⟩
def d_law : He.DefD := ⟨("law", none), "law", "law", defArgs s_law, defBody s_law, defScope s_law, [], []⟩
def d_BadProgram_init : He.DefD := ⟨("BadProgram", (some "__init__")), "__init__", "BadProgram.__init__", defArgs s_BadProgram_init, defBody s_BadProgram_init, defScope s_BadProgram_init, [], []⟩
def d_BadText_init : He.DefD := ⟨("BadText", (some "__init__")), "__init__", "BadText.__init__", defArgs s_BadText_init, defBody s_BadText_init, defScope s_BadText_init, [], []⟩
def d_Hall_init : He.DefD := ⟨("Hall", (some "__init__")), "__init__", "Hall.__init__", defArgs s_Hall_init, defBody s_Hall_init, defScope s_Hall_init, [], []⟩
def d_Hall_look : He.DefD := ⟨("Hall", (some "look")), "look", "Hall.look", defArgs s_Hall_look, defBody s_Hall_look, defScope s_Hall_look, [], []⟩
def d_Hall_there : He.DefD := ⟨("Hall", (some "there")), "there", "Hall.there", defArgs s_Hall_there, defBody s_Hall_there, defScope s_Hall_there, [], []⟩
def d_Hall_cells : He.DefD := ⟨("Hall", (some "cells")), "cells", "Hall.cells", defArgs s_Hall_cells, defBody s_Hall_cells, defScope s_Hall_cells, [], []⟩
def d_Hall_brought : He.DefD := ⟨("Hall", (some "brought")), "brought", "Hall.brought", defArgs s_Hall_brought, defBody s_Hall_brought, defScope s_Hall_brought, [], []⟩
def d_Hall_has_part : He.DefD := ⟨("Hall", (some "has_part")), "has_part", "Hall.has_part", defArgs s_Hall_has_part, defBody s_Hall_has_part, defScope s_Hall_has_part, [], []⟩
def d_Hall_bring : He.DefD := ⟨("Hall", (some "bring")), "bring", "Hall.bring", defArgs s_Hall_bring, defBody s_Hall_bring, defScope s_Hall_bring, [], []⟩
def fn : List He.DefD := [d_between, d_given_of, d_arms_of, d_words_of, d_add_word, d_check_program, d_check_function, d_function_fits, d_word_fits, d_given_fits, d_check_tree, d_parts_fit, d_part_fits, d_rises, d_stands_fit, d_has_end, d_parts_below, d_size_of, d_begins, d_firsts_of, d_end_of, d_way_of, d_trees_of, d_stands_of, d_partitions, d_with_function, d_check_room, d_layouts, d_cheapest, d_check_trace, d_bare, d_brought_by, d_law_mix, d_law_next, d_law_alike, d_law_leaf, d_law_call, d_law_less, d_law_body, d_law_words, d_law_program, d_law_tree, d_law_laid, d_law_kind, d_law_cost, d_law_forests, d_law_parts, d_law_due, d_law, d_Hall_init, d_Hall_look, d_Hall_there, d_Hall_cells, d_Hall_brought, d_Hall_has_part, d_Hall_bring]
def fa : List He.Fa := [.glo "HallError", .glo "BadProgram", .glo "BadNumber", .glo "BadTree", .glo "BadRoom", .glo "BadFunction", .glo "BadPaper", .glo "NotShown", .glo "BadPlace", .glo "BadTrace", .glo "TooMany", .glo "BadText", .glo "between", .glo "ARMS", .glo "GIVEN", .glo "given_of", .glo "arms_of", .glo "words_of", .glo "add_word", .glo "check_program", .glo "check_function", .glo "function_fits", .glo "word_fits", .glo "given_fits", .glo "check_tree", .glo "parts_fit", .glo "part_fits", .glo "rises", .glo "stands_fit", .glo "has_end", .glo "parts_below", .glo "size_of", .glo "begins", .glo "firsts_of", .glo "end_of", .glo "way_of", .glo "trees_of", .glo "stands_of", .glo "partitions", .glo "with_function", .glo "Hall", .glo "check_room", .glo "layouts", .glo "cheapest", .glo "check_trace", .glo "bare", .glo "brought_by", .glo "_law_mix", .glo "_law_next", .glo "_law_alike", .glo "_law_leaf", .glo "_law_call", .glo "_law_less", .glo "_law_body", .glo "_law_words", .glo "_law_program", .glo "_law_tree", .glo "_law_laid", .glo "_law_kind", .glo "_law_cost", .glo "_law_forests", .glo "_law_parts", .glo "_law_due", .glo "law", .free "ValueError", .free "all", .free "bool", .free "dict", .free "enumerate", .free "int", .free "isinstance", .free "len", .free "list", .free "max", .free "min", .free "range", .free "sorted", .free "str", .free "sum", .free "tuple", .free "zip", .int "MOST_FUNCTIONS" 8, .int "MOST_CELLS" 8, .int "MOST_WORDS" 40, .int "MOST_AROUND" 6, .int "GREATEST_WRITTEN" 99, .int "NO_PART" (-1), .int "MOST_ROOM" 64, .int "MOST_TRIED" 5, .cls "Hall", .mkr "Hall", .meth "Hall" "look", .meth "Hall" "there", .meth "Hall" "cells", .meth "Hall" "brought", .meth "Hall" "has_part", .meth "Hall" "bring", .noat "Hall" "layouts", .noat "Hall" "lying", .noat "Hall" "moved", .noat "Hall" "ways", .exc "HallError", .exc "BadNumber", .exc "BadTree", .exc "BadRoom", .exc "BadFunction", .exc "BadPaper", .exc "NotShown", .exc "BadPlace", .exc "BadTrace", .exc "TooMany", .exm "HallError" "HallError" true, .exm "BadNumber" "BadNumber" true, .exm "BadNumber" "HallError" true, .exm "BadTree" "BadTree" true, .exm "BadTree" "HallError" true, .exm "BadRoom" "BadRoom" true, .exm "BadRoom" "HallError" true, .exm "BadFunction" "BadFunction" true, .exm "BadFunction" "HallError" true, .exm "BadPaper" "BadPaper" true, .exm "BadPaper" "HallError" true, .exm "NotShown" "NotShown" true, .exm "NotShown" "HallError" true, .exm "BadPlace" "BadPlace" true, .exm "BadPlace" "HallError" true, .exm "BadTrace" "BadTrace" true, .exm "BadTrace" "HallError" true, .exm "TooMany" "TooMany" true, .exm "TooMany" "HallError" true]
def kv_ARMS : List (Str × He.Dv) := [("num", .int 0), ("argument", .int 0), ("way", .int 0), ("plus", .int 2), ("less", .int 2), ("times", .int 2), ("if", .int 3), ("then", .int 2), ("say", .int 1), ("call", .int 1), ("through", .int 2)]
def kv_GIVEN : List (Str × He.Dv) := [("num", .str "number"), ("way", .str "function"), ("call", .str "function")]
def miss_ARMS : List Str := []
def miss_GIVEN : List Str := ["argument", "plus", "less", "times", "if", "then", "say", "through"]
def tf : List He.Defn := [("law", none)]
def ts : List He.Tab := [(fun K => He.ga K "ARMS", ["num", "argument", "way", "plus", "less", "times", "if", "then", "say", "call", "through"]), (fun K => He.ga K "GIVEN", ["num", "way", "call"])]
def ex (K : PySem.W.Frag) : Bool := He.valsB K (He.ga K "ARMS") kv_ARMS && He.valsB K (He.ga K "GIVEN") kv_GIVEN && (miss_GIVEN.all fun x => He.eqO (PySem.W.nsIn K (He.ga K "GIVEN") x) (some none)) && Ov.excKB K (He.ga K "TooMany") [(.ref (He.ga K "BadProgram"), false), (.ref (He.ga K "BadNumber"), false), (.ref (He.ga K "BadTree"), false), (.ref (He.ga K "BadRoom"), false), (.ref (He.ga K "BadFunction"), false), (.ref (He.ga K "BadPaper"), false), (.ref (He.ga K "NotShown"), false), (.ref (He.ga K "BadPlace"), false), (.ref (He.ga K "BadTrace"), false), (.ref (He.ga K "TooMany"), true), (.ref (He.ga K "BadText"), false), (.type "ValueError", true)]
abbrev R : PySem.W.OpenRow := PySem.W.OpenLaw.row PySem.Challenge.rw_overlayhall_k16_the_cheapest_tree
def rt0 : List PySem.Str := ["HallError", "BadProgram", "BadNumber", "BadTree", "BadRoom", "BadFunction", "BadPaper", "NotShown", "BadPlace", "BadTrace", "TooMany", "BadText", "between", "ARMS", "GIVEN", "given_of", "arms_of", "words_of", "add_word", "check_program", "check_function", "function_fits", "word_fits", "given_fits", "check_tree", "parts_fit", "part_fits", "rises", "stands_fit", "has_end"]
def rt1 : List PySem.Str := ["parts_below", "size_of", "begins", "firsts_of", "end_of", "way_of", "trees_of", "stands_of", "partitions", "with_function", "Hall", "check_room", "layouts", "cheapest", "check_trace", "bare", "brought_by", "_law_mix", "_law_next", "_law_alike", "_law_leaf", "_law_call", "_law_less", "_law_body", "_law_words", "_law_program", "_law_tree", "_law_laid", "_law_kind", "_law_cost"]
def rt2 : List PySem.Str := ["_law_forests", "_law_parts", "_law_due", "law"]
def rt : List PySem.Str := rt0 ++ rt1 ++ rt2
abbrev hk : PySem.W.Hook := Ov.hookN 3 rt fa fn ts tf ex
def ob (s : PySem.W.SharedT) : He.AlX := Ov.obsN 3 rt fa fn ts tf ex (HandSHeadRun.getT s)
theorem ob_eq (s : PySem.W.SharedT) : ob s = hk.obs s.abs := Ov.obsN_eq (HandSHeadRun.getT_eq s)
def names0 : List PySem.Str := ["HallError", "BadProgram", "BadNumber", "BadTree", "BadRoom", "BadFunction", "BadPaper", "NotShown", "BadPlace", "BadTrace", "TooMany", "BadText", "between", "ARMS", "GIVEN", "given_of", "arms_of", "words_of", "add_word", "MOST_FUNCTIONS", "MOST_CELLS", "MOST_WORDS", "MOST_AROUND", "GREATEST_WRITTEN", "check_program", "check_function", "function_fits", "word_fits", "given_fits", "NO_PART"]
def names1 : List PySem.Str := ["check_tree", "parts_fit", "part_fits", "rises", "stands_fit", "has_end", "parts_below", "size_of", "begins", "firsts_of", "end_of", "way_of", "trees_of", "stands_of", "partitions", "with_function", "MOST_ROOM", "Hall", "check_room", "layouts", "MOST_TRIED", "cheapest", "check_trace", "bare", "brought_by", "_law_mix", "_law_next", "_law_alike", "_law_leaf", "_law_call"]
def names2 : List PySem.Str := ["_law_less", "_law_body", "_law_words", "_law_program", "_law_tree", "_law_laid", "_law_kind", "_law_cost", "_law_forests", "_law_parts", "_law_due"]
def names : List PySem.Str := names0 ++ names1 ++ names2
abbrev RunP (w : World) : Prop := HandSHeadRun.RunEq R (PySem.W.view R.prog [79]) hk ob 9000 names w
abbrev RunA (w : World) : Prop := Ov.PartN0 R (PySem.W.view R.prog [79]) names 9000 w
abbrev RunB (w : World) : Prop := Ov.PartN1 3 rt fa fn ts tf ex R 9000 w
theorem runAF (w : World) : RunA (w.withFollow "special-get-raises" false) := by
  intro os
  kernel_rfl
theorem runAT (w : World) : RunA (w.withFollow "special-get-raises" true) := by
  intro os
  kernel_rfl
theorem runBF (w : World) : RunB (w.withFollow "special-get-raises" false) := by
  intro os
  kernel_rfl
theorem runBT (w : World) : RunB (w.withFollow "special-get-raises" true) := by
  intro os
  kernel_rfl
theorem run (w : World) : RunP w := Ov.runN_join (PySem.W.byRow2 "special-get-raises" (P := RunA) runAF runAT w) (PySem.W.byRow2 "special-get-raises" (P := RunB) runBF runBT w)
/-! ### the facts by name -/
def fdOf (K : PySem.W.Frag) (d : He.DefD) : FuncData := match K.lookup (He.fAd K d.at_) with
  | some ⟨_, _, .func fd, _⟩ => fd
  | _ => PySem.W.fnOf d.name d.qual d.params d.body d.scope .none .none .none .none none .none .none
theorem fdOf_eq {K : PySem.W.Frag} {d : He.DefD} {fd : FuncData} (F : FunD K d.name d.qual d.params d.body d.scope (d.dvs K) (d.kws K) (He.fAd K d.at_) fd) : FunD K d.name d.qual d.params d.body d.scope (d.dvs K) (d.kws K) (He.fAd K d.at_) (fdOf K d) := by
  obtain ⟨oc, od, dV, kV, doc, pm, an, cdv, ct, osl, _, lk, h⟩ := F.ex
  have e : fdOf K d = fd := by
    unfold fdOf
    rw [lk]
  rw [e]
  exact F
structure Txt (w : World) (K : PySem.W.Frag) (mg : Str → Option Value) : Prop where
  g_HallError : mg "HallError" = some (.ref (He.ga K "HallError"))
  g_BadProgram : mg "BadProgram" = some (.ref (He.ga K "BadProgram"))
  g_BadNumber : mg "BadNumber" = some (.ref (He.ga K "BadNumber"))
  g_BadTree : mg "BadTree" = some (.ref (He.ga K "BadTree"))
  g_BadRoom : mg "BadRoom" = some (.ref (He.ga K "BadRoom"))
  g_BadFunction : mg "BadFunction" = some (.ref (He.ga K "BadFunction"))
  g_BadPaper : mg "BadPaper" = some (.ref (He.ga K "BadPaper"))
  g_NotShown : mg "NotShown" = some (.ref (He.ga K "NotShown"))
  g_BadPlace : mg "BadPlace" = some (.ref (He.ga K "BadPlace"))
  g_BadTrace : mg "BadTrace" = some (.ref (He.ga K "BadTrace"))
  g_TooMany : mg "TooMany" = some (.ref (He.ga K "TooMany"))
  g_BadText : mg "BadText" = some (.ref (He.ga K "BadText"))
  g_between : mg "between" = some (.ref (He.ga K "between"))
  g_ARMS : mg "ARMS" = some (.ref (He.ga K "ARMS"))
  g_GIVEN : mg "GIVEN" = some (.ref (He.ga K "GIVEN"))
  g_given_of : mg "given_of" = some (.ref (He.ga K "given_of"))
  g_arms_of : mg "arms_of" = some (.ref (He.ga K "arms_of"))
  g_words_of : mg "words_of" = some (.ref (He.ga K "words_of"))
  g_add_word : mg "add_word" = some (.ref (He.ga K "add_word"))
  g_check_program : mg "check_program" = some (.ref (He.ga K "check_program"))
  g_check_function : mg "check_function" = some (.ref (He.ga K "check_function"))
  g_function_fits : mg "function_fits" = some (.ref (He.ga K "function_fits"))
  g_word_fits : mg "word_fits" = some (.ref (He.ga K "word_fits"))
  g_given_fits : mg "given_fits" = some (.ref (He.ga K "given_fits"))
  g_check_tree : mg "check_tree" = some (.ref (He.ga K "check_tree"))
  g_parts_fit : mg "parts_fit" = some (.ref (He.ga K "parts_fit"))
  g_part_fits : mg "part_fits" = some (.ref (He.ga K "part_fits"))
  g_rises : mg "rises" = some (.ref (He.ga K "rises"))
  g_stands_fit : mg "stands_fit" = some (.ref (He.ga K "stands_fit"))
  g_has_end : mg "has_end" = some (.ref (He.ga K "has_end"))
  g_parts_below : mg "parts_below" = some (.ref (He.ga K "parts_below"))
  g_size_of : mg "size_of" = some (.ref (He.ga K "size_of"))
  g_begins : mg "begins" = some (.ref (He.ga K "begins"))
  g_firsts_of : mg "firsts_of" = some (.ref (He.ga K "firsts_of"))
  g_end_of : mg "end_of" = some (.ref (He.ga K "end_of"))
  g_way_of : mg "way_of" = some (.ref (He.ga K "way_of"))
  g_trees_of : mg "trees_of" = some (.ref (He.ga K "trees_of"))
  g_stands_of : mg "stands_of" = some (.ref (He.ga K "stands_of"))
  g_partitions : mg "partitions" = some (.ref (He.ga K "partitions"))
  g_with_function : mg "with_function" = some (.ref (He.ga K "with_function"))
  g_Hall : mg "Hall" = some (.ref (He.ga K "Hall"))
  g_check_room : mg "check_room" = some (.ref (He.ga K "check_room"))
  g_layouts : mg "layouts" = some (.ref (He.ga K "layouts"))
  g_cheapest : mg "cheapest" = some (.ref (He.ga K "cheapest"))
  g_check_trace : mg "check_trace" = some (.ref (He.ga K "check_trace"))
  g_bare : mg "bare" = some (.ref (He.ga K "bare"))
  g_brought_by : mg "brought_by" = some (.ref (He.ga K "brought_by"))
  g_law_mix : mg "_law_mix" = some (.ref (He.ga K "_law_mix"))
  g_law_next : mg "_law_next" = some (.ref (He.ga K "_law_next"))
  g_law_alike : mg "_law_alike" = some (.ref (He.ga K "_law_alike"))
  g_law_leaf : mg "_law_leaf" = some (.ref (He.ga K "_law_leaf"))
  g_law_call : mg "_law_call" = some (.ref (He.ga K "_law_call"))
  g_law_less : mg "_law_less" = some (.ref (He.ga K "_law_less"))
  g_law_body : mg "_law_body" = some (.ref (He.ga K "_law_body"))
  g_law_words : mg "_law_words" = some (.ref (He.ga K "_law_words"))
  g_law_program : mg "_law_program" = some (.ref (He.ga K "_law_program"))
  g_law_tree : mg "_law_tree" = some (.ref (He.ga K "_law_tree"))
  g_law_laid : mg "_law_laid" = some (.ref (He.ga K "_law_laid"))
  g_law_kind : mg "_law_kind" = some (.ref (He.ga K "_law_kind"))
  g_law_cost : mg "_law_cost" = some (.ref (He.ga K "_law_cost"))
  g_law_forests : mg "_law_forests" = some (.ref (He.ga K "_law_forests"))
  g_law_parts : mg "_law_parts" = some (.ref (He.ga K "_law_parts"))
  g_law_due : mg "_law_due" = some (.ref (He.ga K "_law_due"))
  g_law : mg "law" = some (.ref (He.ga K "law"))
  z_ValueError : mg "ValueError" = none
  z_all : mg "all" = none
  z_bool : mg "bool" = none
  z_dict : mg "dict" = none
  z_enumerate : mg "enumerate" = none
  z_int : mg "int" = none
  z_isinstance : mg "isinstance" = none
  z_len : mg "len" = none
  z_list : mg "list" = none
  z_max : mg "max" = none
  z_min : mg "min" = none
  z_range : mg "range" = none
  z_sorted : mg "sorted" = none
  z_str : mg "str" = none
  z_sum : mg "sum" = none
  z_tuple : mg "tuple" = none
  z_zip : mg "zip" = none
  i_MOST_FUNCTIONS : ∃ t, mg "MOST_FUNCTIONS" = some (.int 8 t)
  i_MOST_CELLS : ∃ t, mg "MOST_CELLS" = some (.int 8 t)
  i_MOST_WORDS : ∃ t, mg "MOST_WORDS" = some (.int 40 t)
  i_MOST_AROUND : ∃ t, mg "MOST_AROUND" = some (.int 6 t)
  i_GREATEST_WRITTEN : ∃ t, mg "GREATEST_WRITTEN" = some (.int 99 t)
  i_NO_PART : ∃ t, mg "NO_PART" = some (.int (-1) t)
  i_MOST_ROOM : ∃ t, mg "MOST_ROOM" = some (.int 64 t)
  i_MOST_TRIED : ∃ t, mg "MOST_TRIED" = some (.int 5 t)
  F_between : FnP K "between" "between" s_between (He.ga K "between") (fdOf K d_between)
  F_given_of : FnP K "given_of" "given_of" s_given_of (He.ga K "given_of") (fdOf K d_given_of)
  F_arms_of : FnP K "arms_of" "arms_of" s_arms_of (He.ga K "arms_of") (fdOf K d_arms_of)
  F_words_of : FnP K "words_of" "words_of" s_words_of (He.ga K "words_of") (fdOf K d_words_of)
  F_add_word : FnP K "add_word" "add_word" s_add_word (He.ga K "add_word") (fdOf K d_add_word)
  F_check_program : FnP K "check_program" "check_program" s_check_program (He.ga K "check_program") (fdOf K d_check_program)
  F_check_function : FnP K "check_function" "check_function" s_check_function (He.ga K "check_function") (fdOf K d_check_function)
  F_function_fits : FnP K "function_fits" "function_fits" s_function_fits (He.ga K "function_fits") (fdOf K d_function_fits)
  F_word_fits : FnP K "word_fits" "word_fits" s_word_fits (He.ga K "word_fits") (fdOf K d_word_fits)
  F_given_fits : FnP K "given_fits" "given_fits" s_given_fits (He.ga K "given_fits") (fdOf K d_given_fits)
  F_check_tree : FnP K "check_tree" "check_tree" s_check_tree (He.ga K "check_tree") (fdOf K d_check_tree)
  F_parts_fit : FnP K "parts_fit" "parts_fit" s_parts_fit (He.ga K "parts_fit") (fdOf K d_parts_fit)
  F_part_fits : FnP K "part_fits" "part_fits" s_part_fits (He.ga K "part_fits") (fdOf K d_part_fits)
  F_rises : FnP K "rises" "rises" s_rises (He.ga K "rises") (fdOf K d_rises)
  F_stands_fit : FnP K "stands_fit" "stands_fit" s_stands_fit (He.ga K "stands_fit") (fdOf K d_stands_fit)
  F_has_end : FnP K "has_end" "has_end" s_has_end (He.ga K "has_end") (fdOf K d_has_end)
  F_parts_below : FnP K "parts_below" "parts_below" s_parts_below (He.ga K "parts_below") (fdOf K d_parts_below)
  F_size_of : FnP K "size_of" "size_of" s_size_of (He.ga K "size_of") (fdOf K d_size_of)
  F_begins : FnP K "begins" "begins" s_begins (He.ga K "begins") (fdOf K d_begins)
  F_firsts_of : FnP K "firsts_of" "firsts_of" s_firsts_of (He.ga K "firsts_of") (fdOf K d_firsts_of)
  F_end_of : FnP K "end_of" "end_of" s_end_of (He.ga K "end_of") (fdOf K d_end_of)
  F_way_of : FnP K "way_of" "way_of" s_way_of (He.ga K "way_of") (fdOf K d_way_of)
  F_trees_of : FnP K "trees_of" "trees_of" s_trees_of (He.ga K "trees_of") (fdOf K d_trees_of)
  F_stands_of : FnP K "stands_of" "stands_of" s_stands_of (He.ga K "stands_of") (fdOf K d_stands_of)
  F_partitions : FnP K "partitions" "partitions" s_partitions (He.ga K "partitions") (fdOf K d_partitions)
  F_with_function : FnP K "with_function" "with_function" s_with_function (He.ga K "with_function") (fdOf K d_with_function)
  F_check_room : FnP K "check_room" "check_room" s_check_room (He.ga K "check_room") (fdOf K d_check_room)
  F_layouts : FnP K "layouts" "layouts" s_layouts (He.ga K "layouts") (fdOf K d_layouts)
  F_cheapest : FnP K "cheapest" "cheapest" s_cheapest (He.ga K "cheapest") (fdOf K d_cheapest)
  F_check_trace : FnP K "check_trace" "check_trace" s_check_trace (He.ga K "check_trace") (fdOf K d_check_trace)
  F_bare : FnP K "bare" "bare" s_bare (He.ga K "bare") (fdOf K d_bare)
  F_brought_by : FnP K "brought_by" "brought_by" s_brought_by (He.ga K "brought_by") (fdOf K d_brought_by)
  F_law_mix : FnP K "_law_mix" "_law_mix" s_law_mix (He.ga K "_law_mix") (fdOf K d_law_mix)
  F_law_next : FnP K "_law_next" "_law_next" s_law_next (He.ga K "_law_next") (fdOf K d_law_next)
  F_law_alike : FnP K "_law_alike" "_law_alike" s_law_alike (He.ga K "_law_alike") (fdOf K d_law_alike)
  F_law_leaf : FnP K "_law_leaf" "_law_leaf" s_law_leaf (He.ga K "_law_leaf") (fdOf K d_law_leaf)
  F_law_call : FnP K "_law_call" "_law_call" s_law_call (He.ga K "_law_call") (fdOf K d_law_call)
  F_law_less : FnP K "_law_less" "_law_less" s_law_less (He.ga K "_law_less") (fdOf K d_law_less)
  F_law_body : FnP K "_law_body" "_law_body" s_law_body (He.ga K "_law_body") (fdOf K d_law_body)
  F_law_words : FnP K "_law_words" "_law_words" s_law_words (He.ga K "_law_words") (fdOf K d_law_words)
  F_law_program : FnP K "_law_program" "_law_program" s_law_program (He.ga K "_law_program") (fdOf K d_law_program)
  F_law_tree : FnP K "_law_tree" "_law_tree" s_law_tree (He.ga K "_law_tree") (fdOf K d_law_tree)
  F_law_laid : FnP K "_law_laid" "_law_laid" s_law_laid (He.ga K "_law_laid") (fdOf K d_law_laid)
  F_law_kind : FnP K "_law_kind" "_law_kind" s_law_kind (He.ga K "_law_kind") (fdOf K d_law_kind)
  F_law_cost : FnP K "_law_cost" "_law_cost" s_law_cost (He.ga K "_law_cost") (fdOf K d_law_cost)
  F_law_forests : FnP K "_law_forests" "_law_forests" s_law_forests (He.ga K "_law_forests") (fdOf K d_law_forests)
  F_law_parts : FnP K "_law_parts" "_law_parts" s_law_parts (He.ga K "_law_parts") (fdOf K d_law_parts)
  F_law_due : FnP K "_law_due" "_law_due" s_law_due (He.ga K "_law_due") (fdOf K d_law_due)
  F_law : FnP K "law" "law" s_law (He.ga K "law") (fdOf K d_law)
  c_Hall : Cls K (He.ga K "Hall")
  k_Hall : Mk K (He.ga K "Hall") (He.ma K (He.ga K "Hall") "__init__")
  m_Hall_look : Meth K (He.ga K "Hall") "look" (He.ma K (He.ga K "Hall") "look")
  m_Hall_there : Meth K (He.ga K "Hall") "there" (He.ma K (He.ga K "Hall") "there")
  m_Hall_cells : Meth K (He.ga K "Hall") "cells" (He.ma K (He.ga K "Hall") "cells")
  m_Hall_brought : Meth K (He.ga K "Hall") "brought" (He.ma K (He.ga K "Hall") "brought")
  m_Hall_has_part : Meth K (He.ga K "Hall") "has_part" (He.ma K (He.ga K "Hall") "has_part")
  m_Hall_bring : Meth K (He.ga K "Hall") "bring" (He.ma K (He.ga K "Hall") "bring")
  a_Hall_layouts : NoAttr K (He.ga K "Hall") "layouts"
  a_Hall_lying : NoAttr K (He.ga K "Hall") "lying"
  a_Hall_moved : NoAttr K (He.ga K "Hall") "moved"
  a_Hall_ways : NoAttr K (He.ga K "Hall") "ways"
  F_Hall_init : FnP K "__init__" "Hall.__init__" s_Hall_init (He.ma K (He.ga K "Hall") "__init__") (fdOf K d_Hall_init)
  F_Hall_look : FnP K "look" "Hall.look" s_Hall_look (He.ma K (He.ga K "Hall") "look") (fdOf K d_Hall_look)
  F_Hall_there : FnP K "there" "Hall.there" s_Hall_there (He.ma K (He.ga K "Hall") "there") (fdOf K d_Hall_there)
  F_Hall_cells : FnP K "cells" "Hall.cells" s_Hall_cells (He.ma K (He.ga K "Hall") "cells") (fdOf K d_Hall_cells)
  F_Hall_brought : FnP K "brought" "Hall.brought" s_Hall_brought (He.ma K (He.ga K "Hall") "brought") (fdOf K d_Hall_brought)
  F_Hall_has_part : FnP K "has_part" "Hall.has_part" s_Hall_has_part (He.ma K (He.ga K "Hall") "has_part") (fdOf K d_Hall_has_part)
  F_Hall_bring : FnP K "bring" "Hall.bring" s_Hall_bring (He.ma K (He.ga K "Hall") "bring") (fdOf K d_Hall_bring)
  x_HallError : PySem.W.excIn K (He.ga K "HallError") He.veBase "ValueError.__new__" = true ∧ PySem.W.keepIn K (.ref (He.ga K "HallError")) = true ∧ PySem.W.subIn K (.ref (He.ga K "HallError")) (.type "BaseException") = some true ∧ PySem.W.typeIn K (.ref (He.ga K "HallError")) = some (.type "type")
  x_BadNumber : PySem.W.excIn K (He.ga K "BadNumber") He.veBase "ValueError.__new__" = true ∧ PySem.W.keepIn K (.ref (He.ga K "BadNumber")) = true ∧ PySem.W.subIn K (.ref (He.ga K "BadNumber")) (.type "BaseException") = some true ∧ PySem.W.typeIn K (.ref (He.ga K "BadNumber")) = some (.type "type")
  x_BadTree : PySem.W.excIn K (He.ga K "BadTree") He.veBase "ValueError.__new__" = true ∧ PySem.W.keepIn K (.ref (He.ga K "BadTree")) = true ∧ PySem.W.subIn K (.ref (He.ga K "BadTree")) (.type "BaseException") = some true ∧ PySem.W.typeIn K (.ref (He.ga K "BadTree")) = some (.type "type")
  x_BadRoom : PySem.W.excIn K (He.ga K "BadRoom") He.veBase "ValueError.__new__" = true ∧ PySem.W.keepIn K (.ref (He.ga K "BadRoom")) = true ∧ PySem.W.subIn K (.ref (He.ga K "BadRoom")) (.type "BaseException") = some true ∧ PySem.W.typeIn K (.ref (He.ga K "BadRoom")) = some (.type "type")
  x_BadFunction : PySem.W.excIn K (He.ga K "BadFunction") He.veBase "ValueError.__new__" = true ∧ PySem.W.keepIn K (.ref (He.ga K "BadFunction")) = true ∧ PySem.W.subIn K (.ref (He.ga K "BadFunction")) (.type "BaseException") = some true ∧ PySem.W.typeIn K (.ref (He.ga K "BadFunction")) = some (.type "type")
  x_BadPaper : PySem.W.excIn K (He.ga K "BadPaper") He.veBase "ValueError.__new__" = true ∧ PySem.W.keepIn K (.ref (He.ga K "BadPaper")) = true ∧ PySem.W.subIn K (.ref (He.ga K "BadPaper")) (.type "BaseException") = some true ∧ PySem.W.typeIn K (.ref (He.ga K "BadPaper")) = some (.type "type")
  x_NotShown : PySem.W.excIn K (He.ga K "NotShown") He.veBase "ValueError.__new__" = true ∧ PySem.W.keepIn K (.ref (He.ga K "NotShown")) = true ∧ PySem.W.subIn K (.ref (He.ga K "NotShown")) (.type "BaseException") = some true ∧ PySem.W.typeIn K (.ref (He.ga K "NotShown")) = some (.type "type")
  x_BadPlace : PySem.W.excIn K (He.ga K "BadPlace") He.veBase "ValueError.__new__" = true ∧ PySem.W.keepIn K (.ref (He.ga K "BadPlace")) = true ∧ PySem.W.subIn K (.ref (He.ga K "BadPlace")) (.type "BaseException") = some true ∧ PySem.W.typeIn K (.ref (He.ga K "BadPlace")) = some (.type "type")
  x_BadTrace : PySem.W.excIn K (He.ga K "BadTrace") He.veBase "ValueError.__new__" = true ∧ PySem.W.keepIn K (.ref (He.ga K "BadTrace")) = true ∧ PySem.W.subIn K (.ref (He.ga K "BadTrace")) (.type "BaseException") = some true ∧ PySem.W.typeIn K (.ref (He.ga K "BadTrace")) = some (.type "type")
  x_TooMany : PySem.W.excIn K (He.ga K "TooMany") He.veBase "ValueError.__new__" = true ∧ PySem.W.keepIn K (.ref (He.ga K "TooMany")) = true ∧ PySem.W.subIn K (.ref (He.ga K "TooMany")) (.type "BaseException") = some true ∧ PySem.W.typeIn K (.ref (He.ga K "TooMany")) = some (.type "type")
  e_HallError_HallError : PySem.W.exmOne K (.ref (He.ga K "HallError")) (.ref (He.ga K "HallError")) = some true
  e_BadNumber_BadNumber : PySem.W.exmOne K (.ref (He.ga K "BadNumber")) (.ref (He.ga K "BadNumber")) = some true
  e_BadNumber_HallError : PySem.W.exmOne K (.ref (He.ga K "BadNumber")) (.ref (He.ga K "HallError")) = some true
  e_BadTree_BadTree : PySem.W.exmOne K (.ref (He.ga K "BadTree")) (.ref (He.ga K "BadTree")) = some true
  e_BadTree_HallError : PySem.W.exmOne K (.ref (He.ga K "BadTree")) (.ref (He.ga K "HallError")) = some true
  e_BadRoom_BadRoom : PySem.W.exmOne K (.ref (He.ga K "BadRoom")) (.ref (He.ga K "BadRoom")) = some true
  e_BadRoom_HallError : PySem.W.exmOne K (.ref (He.ga K "BadRoom")) (.ref (He.ga K "HallError")) = some true
  e_BadFunction_BadFunction : PySem.W.exmOne K (.ref (He.ga K "BadFunction")) (.ref (He.ga K "BadFunction")) = some true
  e_BadFunction_HallError : PySem.W.exmOne K (.ref (He.ga K "BadFunction")) (.ref (He.ga K "HallError")) = some true
  e_BadPaper_BadPaper : PySem.W.exmOne K (.ref (He.ga K "BadPaper")) (.ref (He.ga K "BadPaper")) = some true
  e_BadPaper_HallError : PySem.W.exmOne K (.ref (He.ga K "BadPaper")) (.ref (He.ga K "HallError")) = some true
  e_NotShown_NotShown : PySem.W.exmOne K (.ref (He.ga K "NotShown")) (.ref (He.ga K "NotShown")) = some true
  e_NotShown_HallError : PySem.W.exmOne K (.ref (He.ga K "NotShown")) (.ref (He.ga K "HallError")) = some true
  e_BadPlace_BadPlace : PySem.W.exmOne K (.ref (He.ga K "BadPlace")) (.ref (He.ga K "BadPlace")) = some true
  e_BadPlace_HallError : PySem.W.exmOne K (.ref (He.ga K "BadPlace")) (.ref (He.ga K "HallError")) = some true
  e_BadTrace_BadTrace : PySem.W.exmOne K (.ref (He.ga K "BadTrace")) (.ref (He.ga K "BadTrace")) = some true
  e_BadTrace_HallError : PySem.W.exmOne K (.ref (He.ga K "BadTrace")) (.ref (He.ga K "HallError")) = some true
  e_TooMany_TooMany : PySem.W.exmOne K (.ref (He.ga K "TooMany")) (.ref (He.ga K "TooMany")) = some true
  e_TooMany_HallError : PySem.W.exmOne K (.ref (He.ga K "TooMany")) (.ref (He.ga K "HallError")) = some true
  kd_ARMS : ∃ es n, KDict K w (He.ga K "ARMS") es n
  v_ARMS : He.valsB K (He.ga K "ARMS") kv_ARMS = true
  m_ARMS : (miss_ARMS.all fun x => He.eqO (PySem.W.nsIn K (He.ga K "ARMS") x) (some none)) = true
  kd_GIVEN : ∃ es n, KDict K w (He.ga K "GIVEN") es n
  v_GIVEN : He.valsB K (He.ga K "GIVEN") kv_GIVEN = true
  m_GIVEN : (miss_GIVEN.all fun x => He.eqO (PySem.W.nsIn K (He.ga K "GIVEN") x) (some none)) = true
  kx_TooMany : Ov.excKB K (He.ga K "TooMany") [(.ref (He.ga K "BadProgram"), false), (.ref (He.ga K "BadNumber"), false), (.ref (He.ga K "BadTree"), false), (.ref (He.ga K "BadRoom"), false), (.ref (He.ga K "BadFunction"), false), (.ref (He.ga K "BadPaper"), false), (.ref (He.ga K "NotShown"), false), (.ref (He.ga K "BadPlace"), false), (.ref (He.ga K "BadTrace"), false), (.ref (He.ga K "TooMany"), true), (.ref (He.ga K "BadText"), false), (.type "ValueError", true)] = true
theorem Txt.of {w : World} {K : PySem.W.Frag} {h : Heap} {mg : Str → Option Value} (X : K.In h) (G : h.Ns mainGlobals mg) (c : He.SaysX fa fn ts tf ex w h K) : Txt w K mg := by
  have e := c.more
  unfold ex at e
  simp only [Bool.and_eq_true] at e
  exact ⟨He.glo_ok X G (c.t.d.fact 0),
    He.glo_ok X G (c.t.d.fact 1),
    He.glo_ok X G (c.t.d.fact 2),
    He.glo_ok X G (c.t.d.fact 3),
    He.glo_ok X G (c.t.d.fact 4),
    He.glo_ok X G (c.t.d.fact 5),
    He.glo_ok X G (c.t.d.fact 6),
    He.glo_ok X G (c.t.d.fact 7),
    He.glo_ok X G (c.t.d.fact 8),
    He.glo_ok X G (c.t.d.fact 9),
    He.glo_ok X G (c.t.d.fact 10),
    He.glo_ok X G (c.t.d.fact 11),
    He.glo_ok X G (c.t.d.fact 12),
    He.glo_ok X G (c.t.d.fact 13),
    He.glo_ok X G (c.t.d.fact 14),
    He.glo_ok X G (c.t.d.fact 15),
    He.glo_ok X G (c.t.d.fact 16),
    He.glo_ok X G (c.t.d.fact 17),
    He.glo_ok X G (c.t.d.fact 18),
    He.glo_ok X G (c.t.d.fact 19),
    He.glo_ok X G (c.t.d.fact 20),
    He.glo_ok X G (c.t.d.fact 21),
    He.glo_ok X G (c.t.d.fact 22),
    He.glo_ok X G (c.t.d.fact 23),
    He.glo_ok X G (c.t.d.fact 24),
    He.glo_ok X G (c.t.d.fact 25),
    He.glo_ok X G (c.t.d.fact 26),
    He.glo_ok X G (c.t.d.fact 27),
    He.glo_ok X G (c.t.d.fact 28),
    He.glo_ok X G (c.t.d.fact 29),
    He.glo_ok X G (c.t.d.fact 30),
    He.glo_ok X G (c.t.d.fact 31),
    He.glo_ok X G (c.t.d.fact 32),
    He.glo_ok X G (c.t.d.fact 33),
    He.glo_ok X G (c.t.d.fact 34),
    He.glo_ok X G (c.t.d.fact 35),
    He.glo_ok X G (c.t.d.fact 36),
    He.glo_ok X G (c.t.d.fact 37),
    He.glo_ok X G (c.t.d.fact 38),
    He.glo_ok X G (c.t.d.fact 39),
    He.glo_ok X G (c.t.d.fact 40),
    He.glo_ok X G (c.t.d.fact 41),
    He.glo_ok X G (c.t.d.fact 42),
    He.glo_ok X G (c.t.d.fact 43),
    He.glo_ok X G (c.t.d.fact 44),
    He.glo_ok X G (c.t.d.fact 45),
    He.glo_ok X G (c.t.d.fact 46),
    He.glo_ok X G (c.t.d.fact 47),
    He.glo_ok X G (c.t.d.fact 48),
    He.glo_ok X G (c.t.d.fact 49),
    He.glo_ok X G (c.t.d.fact 50),
    He.glo_ok X G (c.t.d.fact 51),
    He.glo_ok X G (c.t.d.fact 52),
    He.glo_ok X G (c.t.d.fact 53),
    He.glo_ok X G (c.t.d.fact 54),
    He.glo_ok X G (c.t.d.fact 55),
    He.glo_ok X G (c.t.d.fact 56),
    He.glo_ok X G (c.t.d.fact 57),
    He.glo_ok X G (c.t.d.fact 58),
    He.glo_ok X G (c.t.d.fact 59),
    He.glo_ok X G (c.t.d.fact 60),
    He.glo_ok X G (c.t.d.fact 61),
    He.glo_ok X G (c.t.d.fact 62),
    He.glo_ok X G (c.t.d.fact 63),
    He.free_ok X G (c.t.d.fact 64),
    He.free_ok X G (c.t.d.fact 65),
    He.free_ok X G (c.t.d.fact 66),
    He.free_ok X G (c.t.d.fact 67),
    He.free_ok X G (c.t.d.fact 68),
    He.free_ok X G (c.t.d.fact 69),
    He.free_ok X G (c.t.d.fact 70),
    He.free_ok X G (c.t.d.fact 71),
    He.free_ok X G (c.t.d.fact 72),
    He.free_ok X G (c.t.d.fact 73),
    He.free_ok X G (c.t.d.fact 74),
    He.free_ok X G (c.t.d.fact 75),
    He.free_ok X G (c.t.d.fact 76),
    He.free_ok X G (c.t.d.fact 77),
    He.free_ok X G (c.t.d.fact 78),
    He.free_ok X G (c.t.d.fact 79),
    He.free_ok X G (c.t.d.fact 80),
    He.int_ok X G (c.t.d.fact 81),
    He.int_ok X G (c.t.d.fact 82),
    He.int_ok X G (c.t.d.fact 83),
    He.int_ok X G (c.t.d.fact 84),
    He.int_ok X G (c.t.d.fact 85),
    He.int_ok X G (c.t.d.fact 86),
    He.int_ok X G (c.t.d.fact 87),
    He.int_ok X G (c.t.d.fact 88),
    (c.t.d.def_ 0 (d := d_between)).elim fun _ F => fdOf_eq F,
    (c.t.d.def_ 1 (d := d_given_of)).elim fun _ F => fdOf_eq F,
    (c.t.d.def_ 2 (d := d_arms_of)).elim fun _ F => fdOf_eq F,
    (c.t.d.def_ 3 (d := d_words_of)).elim fun _ F => fdOf_eq F,
    (c.t.d.def_ 4 (d := d_add_word)).elim fun _ F => fdOf_eq F,
    (c.t.d.def_ 5 (d := d_check_program)).elim fun _ F => fdOf_eq F,
    (c.t.d.def_ 6 (d := d_check_function)).elim fun _ F => fdOf_eq F,
    (c.t.d.def_ 7 (d := d_function_fits)).elim fun _ F => fdOf_eq F,
    (c.t.d.def_ 8 (d := d_word_fits)).elim fun _ F => fdOf_eq F,
    (c.t.d.def_ 9 (d := d_given_fits)).elim fun _ F => fdOf_eq F,
    (c.t.d.def_ 10 (d := d_check_tree)).elim fun _ F => fdOf_eq F,
    (c.t.d.def_ 11 (d := d_parts_fit)).elim fun _ F => fdOf_eq F,
    (c.t.d.def_ 12 (d := d_part_fits)).elim fun _ F => fdOf_eq F,
    (c.t.d.def_ 13 (d := d_rises)).elim fun _ F => fdOf_eq F,
    (c.t.d.def_ 14 (d := d_stands_fit)).elim fun _ F => fdOf_eq F,
    (c.t.d.def_ 15 (d := d_has_end)).elim fun _ F => fdOf_eq F,
    (c.t.d.def_ 16 (d := d_parts_below)).elim fun _ F => fdOf_eq F,
    (c.t.d.def_ 17 (d := d_size_of)).elim fun _ F => fdOf_eq F,
    (c.t.d.def_ 18 (d := d_begins)).elim fun _ F => fdOf_eq F,
    (c.t.d.def_ 19 (d := d_firsts_of)).elim fun _ F => fdOf_eq F,
    (c.t.d.def_ 20 (d := d_end_of)).elim fun _ F => fdOf_eq F,
    (c.t.d.def_ 21 (d := d_way_of)).elim fun _ F => fdOf_eq F,
    (c.t.d.def_ 22 (d := d_trees_of)).elim fun _ F => fdOf_eq F,
    (c.t.d.def_ 23 (d := d_stands_of)).elim fun _ F => fdOf_eq F,
    (c.t.d.def_ 24 (d := d_partitions)).elim fun _ F => fdOf_eq F,
    (c.t.d.def_ 25 (d := d_with_function)).elim fun _ F => fdOf_eq F,
    (c.t.d.def_ 26 (d := d_check_room)).elim fun _ F => fdOf_eq F,
    (c.t.d.def_ 27 (d := d_layouts)).elim fun _ F => fdOf_eq F,
    (c.t.d.def_ 28 (d := d_cheapest)).elim fun _ F => fdOf_eq F,
    (c.t.d.def_ 29 (d := d_check_trace)).elim fun _ F => fdOf_eq F,
    (c.t.d.def_ 30 (d := d_bare)).elim fun _ F => fdOf_eq F,
    (c.t.d.def_ 31 (d := d_brought_by)).elim fun _ F => fdOf_eq F,
    (c.t.d.def_ 32 (d := d_law_mix)).elim fun _ F => fdOf_eq F,
    (c.t.d.def_ 33 (d := d_law_next)).elim fun _ F => fdOf_eq F,
    (c.t.d.def_ 34 (d := d_law_alike)).elim fun _ F => fdOf_eq F,
    (c.t.d.def_ 35 (d := d_law_leaf)).elim fun _ F => fdOf_eq F,
    (c.t.d.def_ 36 (d := d_law_call)).elim fun _ F => fdOf_eq F,
    (c.t.d.def_ 37 (d := d_law_less)).elim fun _ F => fdOf_eq F,
    (c.t.d.def_ 38 (d := d_law_body)).elim fun _ F => fdOf_eq F,
    (c.t.d.def_ 39 (d := d_law_words)).elim fun _ F => fdOf_eq F,
    (c.t.d.def_ 40 (d := d_law_program)).elim fun _ F => fdOf_eq F,
    (c.t.d.def_ 41 (d := d_law_tree)).elim fun _ F => fdOf_eq F,
    (c.t.d.def_ 42 (d := d_law_laid)).elim fun _ F => fdOf_eq F,
    (c.t.d.def_ 43 (d := d_law_kind)).elim fun _ F => fdOf_eq F,
    (c.t.d.def_ 44 (d := d_law_cost)).elim fun _ F => fdOf_eq F,
    (c.t.d.def_ 45 (d := d_law_forests)).elim fun _ F => fdOf_eq F,
    (c.t.d.def_ 46 (d := d_law_parts)).elim fun _ F => fdOf_eq F,
    (c.t.d.def_ 47 (d := d_law_due)).elim fun _ F => fdOf_eq F,
    (c.t.d.def_ 48 (d := d_law)).elim fun _ F => fdOf_eq F,
    He.cls_ok (c.t.d.fact 89),
    He.mkr_ok (c.t.d.fact 90),
    He.meth_ok (c.t.d.fact 91),
    He.meth_ok (c.t.d.fact 92),
    He.meth_ok (c.t.d.fact 93),
    He.meth_ok (c.t.d.fact 94),
    He.meth_ok (c.t.d.fact 95),
    He.meth_ok (c.t.d.fact 96),
    He.noat_ok (c.t.d.fact 97),
    He.noat_ok (c.t.d.fact 98),
    He.noat_ok (c.t.d.fact 99),
    He.noat_ok (c.t.d.fact 100),
    (c.t.d.def_ 49 (d := d_Hall_init)).elim fun _ F => fdOf_eq F,
    (c.t.d.def_ 50 (d := d_Hall_look)).elim fun _ F => fdOf_eq F,
    (c.t.d.def_ 51 (d := d_Hall_there)).elim fun _ F => fdOf_eq F,
    (c.t.d.def_ 52 (d := d_Hall_cells)).elim fun _ F => fdOf_eq F,
    (c.t.d.def_ 53 (d := d_Hall_brought)).elim fun _ F => fdOf_eq F,
    (c.t.d.def_ 54 (d := d_Hall_has_part)).elim fun _ F => fdOf_eq F,
    (c.t.d.def_ 55 (d := d_Hall_bring)).elim fun _ F => fdOf_eq F,
    He.exc_ok (c.t.d.fact 101),
    He.exc_ok (c.t.d.fact 102),
    He.exc_ok (c.t.d.fact 103),
    He.exc_ok (c.t.d.fact 104),
    He.exc_ok (c.t.d.fact 105),
    He.exc_ok (c.t.d.fact 106),
    He.exc_ok (c.t.d.fact 107),
    He.exc_ok (c.t.d.fact 108),
    He.exc_ok (c.t.d.fact 109),
    He.exc_ok (c.t.d.fact 110),
    He.exm_ok (c.t.d.fact 111),
    He.exm_ok (c.t.d.fact 112),
    He.exm_ok (c.t.d.fact 113),
    He.exm_ok (c.t.d.fact 114),
    He.exm_ok (c.t.d.fact 115),
    He.exm_ok (c.t.d.fact 116),
    He.exm_ok (c.t.d.fact 117),
    He.exm_ok (c.t.d.fact 118),
    He.exm_ok (c.t.d.fact 119),
    He.exm_ok (c.t.d.fact 120),
    He.exm_ok (c.t.d.fact 121),
    He.exm_ok (c.t.d.fact 122),
    He.exm_ok (c.t.d.fact 123),
    He.exm_ok (c.t.d.fact 124),
    He.exm_ok (c.t.d.fact 125),
    He.exm_ok (c.t.d.fact 126),
    He.exm_ok (c.t.d.fact 127),
    He.exm_ok (c.t.d.fact 128),
    He.exm_ok (c.t.d.fact 129),
    c.t.tab 0,
    e.1.1.1,
    rfl,
    c.t.tab 1,
    e.1.1.2,
    e.1.2,
    e.2⟩
theorem Txt.kp_between {w : World} {K : PySem.W.Frag} {mg : Str → Option Value} (T : Txt w K mg) : PySem.W.keepIn K (.ref (He.ga K "between")) = true := T.F_between.kp
theorem Txt.b_between {w : World} {K : PySem.W.Frag} {mg : Str → Option Value} (T : Txt w K mg) : Binds K (fdOf K d_between) ["value", "low", "high"] [] := T.F_between.bindsN fun _ _ _ _ _ _ us hl => match us, hl with | [_, _, _], _ => rfl
theorem Txt.kp_given_of {w : World} {K : PySem.W.Frag} {mg : Str → Option Value} (T : Txt w K mg) : PySem.W.keepIn K (.ref (He.ga K "given_of")) = true := T.F_given_of.kp
theorem Txt.b_given_of {w : World} {K : PySem.W.Frag} {mg : Str → Option Value} (T : Txt w K mg) : Binds K (fdOf K d_given_of) ["word"] [] := T.F_given_of.bindsN fun _ _ _ _ _ _ us hl => match us, hl with | [_], _ => rfl
theorem Txt.kp_arms_of {w : World} {K : PySem.W.Frag} {mg : Str → Option Value} (T : Txt w K mg) : PySem.W.keepIn K (.ref (He.ga K "arms_of")) = true := T.F_arms_of.kp
theorem Txt.b_arms_of {w : World} {K : PySem.W.Frag} {mg : Str → Option Value} (T : Txt w K mg) : Binds K (fdOf K d_arms_of) ["word"] [] := T.F_arms_of.bindsN fun _ _ _ _ _ _ us hl => match us, hl with | [_], _ => rfl
theorem Txt.kp_words_of {w : World} {K : PySem.W.Frag} {mg : Str → Option Value} (T : Txt w K mg) : PySem.W.keepIn K (.ref (He.ga K "words_of")) = true := T.F_words_of.kp
theorem Txt.b_words_of {w : World} {K : PySem.W.Frag} {mg : Str → Option Value} (T : Txt w K mg) : Binds K (fdOf K d_words_of) ["body"] [] := T.F_words_of.bindsN fun _ _ _ _ _ _ us hl => match us, hl with | [_], _ => rfl
theorem Txt.kp_add_word {w : World} {K : PySem.W.Frag} {mg : Str → Option Value} (T : Txt w K mg) : PySem.W.keepIn K (.ref (He.ga K "add_word")) = true := T.F_add_word.kp
theorem Txt.b_add_word {w : World} {K : PySem.W.Frag} {mg : Str → Option Value} (T : Txt w K mg) : Binds K (fdOf K d_add_word) ["rows", "word"] [] := T.F_add_word.bindsN fun _ _ _ _ _ _ us hl => match us, hl with | [_, _], _ => rfl
theorem Txt.kp_check_program {w : World} {K : PySem.W.Frag} {mg : Str → Option Value} (T : Txt w K mg) : PySem.W.keepIn K (.ref (He.ga K "check_program")) = true := T.F_check_program.kp
theorem Txt.b_check_program {w : World} {K : PySem.W.Frag} {mg : Str → Option Value} (T : Txt w K mg) : Binds K (fdOf K d_check_program) ["program"] [] := T.F_check_program.bindsN fun _ _ _ _ _ _ us hl => match us, hl with | [_], _ => rfl
theorem Txt.kp_check_function {w : World} {K : PySem.W.Frag} {mg : Str → Option Value} (T : Txt w K mg) : PySem.W.keepIn K (.ref (He.ga K "check_function")) = true := T.F_check_function.kp
theorem Txt.b_check_function {w : World} {K : PySem.W.Frag} {mg : Str → Option Value} (T : Txt w K mg) : Binds K (fdOf K d_check_function) ["function", "functions"] [] := T.F_check_function.bindsN fun _ _ _ _ _ _ us hl => match us, hl with | [_, _], _ => rfl
theorem Txt.kp_function_fits {w : World} {K : PySem.W.Frag} {mg : Str → Option Value} (T : Txt w K mg) : PySem.W.keepIn K (.ref (He.ga K "function_fits")) = true := T.F_function_fits.kp
theorem Txt.b_function_fits {w : World} {K : PySem.W.Frag} {mg : Str → Option Value} (T : Txt w K mg) : Binds K (fdOf K d_function_fits) ["function", "functions"] [] := T.F_function_fits.bindsN fun _ _ _ _ _ _ us hl => match us, hl with | [_, _], _ => rfl
theorem Txt.kp_word_fits {w : World} {K : PySem.W.Frag} {mg : Str → Option Value} (T : Txt w K mg) : PySem.W.keepIn K (.ref (He.ga K "word_fits")) = true := T.F_word_fits.kp
theorem Txt.b_word_fits {w : World} {K : PySem.W.Frag} {mg : Str → Option Value} (T : Txt w K mg) : Binds K (fdOf K d_word_fits) ["word", "functions", "around"] [] := T.F_word_fits.bindsN fun _ _ _ _ _ _ us hl => match us, hl with | [_, _, _], _ => rfl
theorem Txt.kp_given_fits {w : World} {K : PySem.W.Frag} {mg : Str → Option Value} (T : Txt w K mg) : PySem.W.keepIn K (.ref (He.ga K "given_fits")) = true := T.F_given_fits.kp
theorem Txt.b_given_fits {w : World} {K : PySem.W.Frag} {mg : Str → Option Value} (T : Txt w K mg) : Binds K (fdOf K d_given_fits) ["kind", "given", "functions"] [] := T.F_given_fits.bindsN fun _ _ _ _ _ _ us hl => match us, hl with | [_, _, _], _ => rfl
theorem Txt.kp_check_tree {w : World} {K : PySem.W.Frag} {mg : Str → Option Value} (T : Txt w K mg) : PySem.W.keepIn K (.ref (He.ga K "check_tree")) = true := T.F_check_tree.kp
theorem Txt.b_check_tree {w : World} {K : PySem.W.Frag} {mg : Str → Option Value} (T : Txt w K mg) : Binds K (fdOf K d_check_tree) ["program", "tree"] [] := T.F_check_tree.bindsN fun _ _ _ _ _ _ us hl => match us, hl with | [_, _], _ => rfl
theorem Txt.kp_parts_fit {w : World} {K : PySem.W.Frag} {mg : Str → Option Value} (T : Txt w K mg) : PySem.W.keepIn K (.ref (He.ga K "parts_fit")) = true := T.F_parts_fit.kp
theorem Txt.b_parts_fit {w : World} {K : PySem.W.Frag} {mg : Str → Option Value} (T : Txt w K mg) : Binds K (fdOf K d_parts_fit) ["parts", "functions"] [] := T.F_parts_fit.bindsN fun _ _ _ _ _ _ us hl => match us, hl with | [_, _], _ => rfl
theorem Txt.kp_part_fits {w : World} {K : PySem.W.Frag} {mg : Str → Option Value} (T : Txt w K mg) : PySem.W.keepIn K (.ref (He.ga K "part_fits")) = true := T.F_part_fits.kp
theorem Txt.b_part_fits {w : World} {K : PySem.W.Frag} {mg : Str → Option Value} (T : Txt w K mg) : Binds K (fdOf K d_part_fits) ["part", "functions"] [] := T.F_part_fits.bindsN fun _ _ _ _ _ _ us hl => match us, hl with | [_, _], _ => rfl
theorem Txt.kp_rises {w : World} {K : PySem.W.Frag} {mg : Str → Option Value} (T : Txt w K mg) : PySem.W.keepIn K (.ref (He.ga K "rises")) = true := T.F_rises.kp
theorem Txt.b_rises {w : World} {K : PySem.W.Frag} {mg : Str → Option Value} (T : Txt w K mg) : Binds K (fdOf K d_rises) ["row"] [] := T.F_rises.bindsN fun _ _ _ _ _ _ us hl => match us, hl with | [_], _ => rfl
theorem Txt.kp_stands_fit {w : World} {K : PySem.W.Frag} {mg : Str → Option Value} (T : Txt w K mg) : PySem.W.keepIn K (.ref (He.ga K "stands_fit")) = true := T.F_stands_fit.kp
theorem Txt.b_stands_fit {w : World} {K : PySem.W.Frag} {mg : Str → Option Value} (T : Txt w K mg) : Binds K (fdOf K d_stands_fit) ["stands", "parts"] [] := T.F_stands_fit.bindsN fun _ _ _ _ _ _ us hl => match us, hl with | [_, _], _ => rfl
theorem Txt.kp_has_end {w : World} {K : PySem.W.Frag} {mg : Str → Option Value} (T : Txt w K mg) : PySem.W.keepIn K (.ref (He.ga K "has_end")) = true := T.F_has_end.kp
theorem Txt.b_has_end {w : World} {K : PySem.W.Frag} {mg : Str → Option Value} (T : Txt w K mg) : Binds K (fdOf K d_has_end) ["stands", "part"] [] := T.F_has_end.bindsN fun _ _ _ _ _ _ us hl => match us, hl with | [_, _], _ => rfl
theorem Txt.kp_parts_below {w : World} {K : PySem.W.Frag} {mg : Str → Option Value} (T : Txt w K mg) : PySem.W.keepIn K (.ref (He.ga K "parts_below")) = true := T.F_parts_below.kp
theorem Txt.b_parts_below {w : World} {K : PySem.W.Frag} {mg : Str → Option Value} (T : Txt w K mg) : Binds K (fdOf K d_parts_below) ["stands", "part"] [] := T.F_parts_below.bindsN fun _ _ _ _ _ _ us hl => match us, hl with | [_, _], _ => rfl
theorem Txt.kp_size_of {w : World} {K : PySem.W.Frag} {mg : Str → Option Value} (T : Txt w K mg) : PySem.W.keepIn K (.ref (He.ga K "size_of")) = true := T.F_size_of.kp
theorem Txt.b_size_of {w : World} {K : PySem.W.Frag} {mg : Str → Option Value} (T : Txt w K mg) : Binds K (fdOf K d_size_of) ["program", "part"] [] := T.F_size_of.bindsN fun _ _ _ _ _ _ us hl => match us, hl with | [_, _], _ => rfl
theorem Txt.kp_begins {w : World} {K : PySem.W.Frag} {mg : Str → Option Value} (T : Txt w K mg) : PySem.W.keepIn K (.ref (He.ga K "begins")) = true := T.F_begins.kp
theorem Txt.b_begins {w : World} {K : PySem.W.Frag} {mg : Str → Option Value} (T : Txt w K mg) : Binds K (fdOf K d_begins) ["program", "tree"] [] := T.F_begins.bindsN fun _ _ _ _ _ _ us hl => match us, hl with | [_, _], _ => rfl
theorem Txt.kp_firsts_of {w : World} {K : PySem.W.Frag} {mg : Str → Option Value} (T : Txt w K mg) : PySem.W.keepIn K (.ref (He.ga K "firsts_of")) = true := T.F_firsts_of.kp
theorem Txt.b_firsts_of {w : World} {K : PySem.W.Frag} {mg : Str → Option Value} (T : Txt w K mg) : Binds K (fdOf K d_firsts_of) ["program", "tree"] [] := T.F_firsts_of.bindsN fun _ _ _ _ _ _ us hl => match us, hl with | [_, _], _ => rfl
theorem Txt.kp_end_of {w : World} {K : PySem.W.Frag} {mg : Str → Option Value} (T : Txt w K mg) : PySem.W.keepIn K (.ref (He.ga K "end_of")) = true := T.F_end_of.kp
theorem Txt.b_end_of {w : World} {K : PySem.W.Frag} {mg : Str → Option Value} (T : Txt w K mg) : Binds K (fdOf K d_end_of) ["program", "tree"] [] := T.F_end_of.bindsN fun _ _ _ _ _ _ us hl => match us, hl with | [_, _], _ => rfl
theorem Txt.kp_way_of {w : World} {K : PySem.W.Frag} {mg : Str → Option Value} (T : Txt w K mg) : PySem.W.keepIn K (.ref (He.ga K "way_of")) = true := T.F_way_of.kp
theorem Txt.b_way_of {w : World} {K : PySem.W.Frag} {mg : Str → Option Value} (T : Txt w K mg) : Binds K (fdOf K d_way_of) ["tree", "function"] [] := T.F_way_of.bindsN fun _ _ _ _ _ _ us hl => match us, hl with | [_, _], _ => rfl
theorem Txt.kp_trees_of {w : World} {K : PySem.W.Frag} {mg : Str → Option Value} (T : Txt w K mg) : PySem.W.keepIn K (.ref (He.ga K "trees_of")) = true := T.F_trees_of.kp
theorem Txt.b_trees_of {w : World} {K : PySem.W.Frag} {mg : Str → Option Value} (T : Txt w K mg) : Binds K (fdOf K d_trees_of) ["functions"] [] := T.F_trees_of.bindsN fun _ _ _ _ _ _ us hl => match us, hl with | [_], _ => rfl
theorem Txt.kp_stands_of {w : World} {K : PySem.W.Frag} {mg : Str → Option Value} (T : Txt w K mg) : PySem.W.keepIn K (.ref (He.ga K "stands_of")) = true := T.F_stands_of.kp
theorem Txt.b_stands_of {w : World} {K : PySem.W.Frag} {mg : Str → Option Value} (T : Txt w K mg) : Binds K (fdOf K d_stands_of) ["parts"] [] := T.F_stands_of.bindsN fun _ _ _ _ _ _ us hl => match us, hl with | [_], _ => rfl
theorem Txt.kp_partitions {w : World} {K : PySem.W.Frag} {mg : Str → Option Value} (T : Txt w K mg) : PySem.W.keepIn K (.ref (He.ga K "partitions")) = true := T.F_partitions.kp
theorem Txt.b_partitions {w : World} {K : PySem.W.Frag} {mg : Str → Option Value} (T : Txt w K mg) : Binds K (fdOf K d_partitions) ["functions"] [] := T.F_partitions.bindsN fun _ _ _ _ _ _ us hl => match us, hl with | [_], _ => rfl
theorem Txt.kp_with_function {w : World} {K : PySem.W.Frag} {mg : Str → Option Value} (T : Txt w K mg) : PySem.W.keepIn K (.ref (He.ga K "with_function")) = true := T.F_with_function.kp
theorem Txt.b_with_function {w : World} {K : PySem.W.Frag} {mg : Str → Option Value} (T : Txt w K mg) : Binds K (fdOf K d_with_function) ["parts", "function"] [] := T.F_with_function.bindsN fun _ _ _ _ _ _ us hl => match us, hl with | [_, _], _ => rfl
theorem Txt.kp_check_room {w : World} {K : PySem.W.Frag} {mg : Str → Option Value} (T : Txt w K mg) : PySem.W.keepIn K (.ref (He.ga K "check_room")) = true := T.F_check_room.kp
theorem Txt.b_check_room {w : World} {K : PySem.W.Frag} {mg : Str → Option Value} (T : Txt w K mg) : Binds K (fdOf K d_check_room) ["room"] [] := T.F_check_room.bindsN fun _ _ _ _ _ _ us hl => match us, hl with | [_], _ => rfl
theorem Txt.kp_layouts {w : World} {K : PySem.W.Frag} {mg : Str → Option Value} (T : Txt w K mg) : PySem.W.keepIn K (.ref (He.ga K "layouts")) = true := T.F_layouts.kp
theorem Txt.b_layouts {w : World} {K : PySem.W.Frag} {mg : Str → Option Value} (T : Txt w K mg) : Binds K (fdOf K d_layouts) ["program", "tree"] [] := T.F_layouts.bindsN fun _ _ _ _ _ _ us hl => match us, hl with | [_, _], _ => rfl
theorem Txt.kp_cheapest {w : World} {K : PySem.W.Frag} {mg : Str → Option Value} (T : Txt w K mg) : PySem.W.keepIn K (.ref (He.ga K "cheapest")) = true := T.F_cheapest.kp
theorem Txt.b_cheapest {w : World} {K : PySem.W.Frag} {mg : Str → Option Value} (T : Txt w K mg) : Binds K (fdOf K d_cheapest) ["program", "room", "trace"] [] := T.F_cheapest.bindsN fun _ _ _ _ _ _ us hl => match us, hl with | [_, _, _], _ => rfl
theorem Txt.kp_check_trace {w : World} {K : PySem.W.Frag} {mg : Str → Option Value} (T : Txt w K mg) : PySem.W.keepIn K (.ref (He.ga K "check_trace")) = true := T.F_check_trace.kp
theorem Txt.b_check_trace {w : World} {K : PySem.W.Frag} {mg : Str → Option Value} (T : Txt w K mg) : Binds K (fdOf K d_check_trace) ["program", "trace"] [] := T.F_check_trace.bindsN fun _ _ _ _ _ _ us hl => match us, hl with | [_, _], _ => rfl
theorem Txt.kp_bare {w : World} {K : PySem.W.Frag} {mg : Str → Option Value} (T : Txt w K mg) : PySem.W.keepIn K (.ref (He.ga K "bare")) = true := T.F_bare.kp
theorem Txt.b_bare {w : World} {K : PySem.W.Frag} {mg : Str → Option Value} (T : Txt w K mg) : Binds K (fdOf K d_bare) ["program"] [] := T.F_bare.bindsN fun _ _ _ _ _ _ us hl => match us, hl with | [_], _ => rfl
theorem Txt.kp_brought_by {w : World} {K : PySem.W.Frag} {mg : Str → Option Value} (T : Txt w K mg) : PySem.W.keepIn K (.ref (He.ga K "brought_by")) = true := T.F_brought_by.kp
theorem Txt.b_brought_by {w : World} {K : PySem.W.Frag} {mg : Str → Option Value} (T : Txt w K mg) : Binds K (fdOf K d_brought_by) ["program", "tree", "trace"] [] := T.F_brought_by.bindsN fun _ _ _ _ _ _ us hl => match us, hl with | [_, _, _], _ => rfl
theorem Txt.kp_law_mix {w : World} {K : PySem.W.Frag} {mg : Str → Option Value} (T : Txt w K mg) : PySem.W.keepIn K (.ref (He.ga K "_law_mix")) = true := T.F_law_mix.kp
theorem Txt.b_law_mix {w : World} {K : PySem.W.Frag} {mg : Str → Option Value} (T : Txt w K mg) : Binds K (fdOf K d_law_mix) ["_law_script", "_law_seed"] [] := T.F_law_mix.bindsN fun _ _ _ _ _ _ us hl => match us, hl with | [_, _], _ => rfl
theorem Txt.kp_law_next {w : World} {K : PySem.W.Frag} {mg : Str → Option Value} (T : Txt w K mg) : PySem.W.keepIn K (.ref (He.ga K "_law_next")) = true := T.F_law_next.kp
theorem Txt.b_law_next {w : World} {K : PySem.W.Frag} {mg : Str → Option Value} (T : Txt w K mg) : Binds K (fdOf K d_law_next) ["_law_h", "_law_many"] [] := T.F_law_next.bindsN fun _ _ _ _ _ _ us hl => match us, hl with | [_, _], _ => rfl
theorem Txt.kp_law_alike {w : World} {K : PySem.W.Frag} {mg : Str → Option Value} (T : Txt w K mg) : PySem.W.keepIn K (.ref (He.ga K "_law_alike")) = true := T.F_law_alike.kp
theorem Txt.b_law_alike {w : World} {K : PySem.W.Frag} {mg : Str → Option Value} (T : Txt w K mg) : Binds K (fdOf K d_law_alike) ["_law_found", "_law_due_here"] [] := T.F_law_alike.bindsN fun _ _ _ _ _ _ us hl => match us, hl with | [_, _], _ => rfl
theorem Txt.kp_law_leaf {w : World} {K : PySem.W.Frag} {mg : Str → Option Value} (T : Txt w K mg) : PySem.W.keepIn K (.ref (He.ga K "_law_leaf")) = true := T.F_law_leaf.kp
theorem Txt.b_law_leaf {w : World} {K : PySem.W.Frag} {mg : Str → Option Value} (T : Txt w K mg) : Binds K (fdOf K d_law_leaf) ["_law_h", "_law_e", "_law_kind_here"] [] := T.F_law_leaf.bindsN fun _ _ _ _ _ _ us hl => match us, hl with | [_, _, _], _ => rfl
theorem Txt.kp_law_call {w : World} {K : PySem.W.Frag} {mg : Str → Option Value} (T : Txt w K mg) : PySem.W.keepIn K (.ref (He.ga K "_law_call")) = true := T.F_law_call.kp
theorem Txt.b_law_call {w : World} {K : PySem.W.Frag} {mg : Str → Option Value} (T : Txt w K mg) : Binds K (fdOf K d_law_call) ["_law_h", "_law_e", "_law_deep"] [] := T.F_law_call.bindsN fun _ _ _ _ _ _ us hl => match us, hl with | [_, _, _], _ => rfl
theorem Txt.kp_law_less {w : World} {K : PySem.W.Frag} {mg : Str → Option Value} (T : Txt w K mg) : PySem.W.keepIn K (.ref (He.ga K "_law_less")) = true := T.F_law_less.kp
theorem Txt.b_law_less {w : World} {K : PySem.W.Frag} {mg : Str → Option Value} (T : Txt w K mg) : Binds K (fdOf K d_law_less) ["_law_h", "_law_e", "_law_deep"] [] := T.F_law_less.bindsN fun _ _ _ _ _ _ us hl => match us, hl with | [_, _, _], _ => rfl
theorem Txt.kp_law_body {w : World} {K : PySem.W.Frag} {mg : Str → Option Value} (T : Txt w K mg) : PySem.W.keepIn K (.ref (He.ga K "_law_body")) = true := T.F_law_body.kp
theorem Txt.b_law_body {w : World} {K : PySem.W.Frag} {mg : Str → Option Value} (T : Txt w K mg) : Binds K (fdOf K d_law_body) ["_law_h", "_law_e", "_law_kind_here", "_law_deep"] [] := T.F_law_body.bindsN fun _ _ _ _ _ _ us hl => match us, hl with | [_, _, _, _], _ => rfl
theorem Txt.kp_law_words {w : World} {K : PySem.W.Frag} {mg : Str → Option Value} (T : Txt w K mg) : PySem.W.keepIn K (.ref (He.ga K "_law_words")) = true := T.F_law_words.kp
theorem Txt.b_law_words {w : World} {K : PySem.W.Frag} {mg : Str → Option Value} (T : Txt w K mg) : Binds K (fdOf K d_law_words) ["_law_body_here"] [] := T.F_law_words.bindsN fun _ _ _ _ _ _ us hl => match us, hl with | [_], _ => rfl
theorem Txt.kp_law_program {w : World} {K : PySem.W.Frag} {mg : Str → Option Value} (T : Txt w K mg) : PySem.W.keepIn K (.ref (He.ga K "_law_program")) = true := T.F_law_program.kp
theorem Txt.b_law_program {w : World} {K : PySem.W.Frag} {mg : Str → Option Value} (T : Txt w K mg) : Binds K (fdOf K d_law_program) ["_law_h", "_law_most"] [] := T.F_law_program.bindsN fun _ _ _ _ _ _ us hl => match us, hl with | [_, _], _ => rfl
theorem Txt.kp_law_tree {w : World} {K : PySem.W.Frag} {mg : Str → Option Value} (T : Txt w K mg) : PySem.W.keepIn K (.ref (He.ga K "_law_tree")) = true := T.F_law_tree.kp
theorem Txt.b_law_tree {w : World} {K : PySem.W.Frag} {mg : Str → Option Value} (T : Txt w K mg) : Binds K (fdOf K d_law_tree) ["_law_h", "_law_program_here"] [] := T.F_law_tree.bindsN fun _ _ _ _ _ _ us hl => match us, hl with | [_, _], _ => rfl
theorem Txt.kp_law_laid {w : World} {K : PySem.W.Frag} {mg : Str → Option Value} (T : Txt w K mg) : PySem.W.keepIn K (.ref (He.ga K "_law_laid")) = true := T.F_law_laid.kp
theorem Txt.b_law_laid {w : World} {K : PySem.W.Frag} {mg : Str → Option Value} (T : Txt w K mg) : Binds K (fdOf K d_law_laid) ["_law_program_here", "_law_tree_here"] [] := T.F_law_laid.bindsN fun _ _ _ _ _ _ us hl => match us, hl with | [_, _], _ => rfl
theorem Txt.kp_law_kind {w : World} {K : PySem.W.Frag} {mg : Str → Option Value} (T : Txt w K mg) : PySem.W.keepIn K (.ref (He.ga K "_law_kind")) = true := T.F_law_kind.kp
theorem Txt.b_law_kind {w : World} {K : PySem.W.Frag} {mg : Str → Option Value} (T : Txt w K mg) : Binds K (fdOf K d_law_kind) ["_law_work"] [] := T.F_law_kind.bindsN fun _ _ _ _ _ _ us hl => match us, hl with | [_], _ => rfl
theorem Txt.kp_law_cost {w : World} {K : PySem.W.Frag} {mg : Str → Option Value} (T : Txt w K mg) : PySem.W.keepIn K (.ref (He.ga K "_law_cost")) = true := T.F_law_cost.kp
theorem Txt.b_law_cost {w : World} {K : PySem.W.Frag} {mg : Str → Option Value} (T : Txt w K mg) : Binds K (fdOf K d_law_cost) ["_law_program_here", "_law_tree_here", "_law_trace"] [] := T.F_law_cost.bindsN fun _ _ _ _ _ _ us hl => match us, hl with | [_, _, _], _ => rfl
theorem Txt.kp_law_forests {w : World} {K : PySem.W.Frag} {mg : Str → Option Value} (T : Txt w K mg) : PySem.W.keepIn K (.ref (He.ga K "_law_forests")) = true := T.F_law_forests.kp
theorem Txt.b_law_forests {w : World} {K : PySem.W.Frag} {mg : Str → Option Value} (T : Txt w K mg) : Binds K (fdOf K d_law_forests) ["_law_many"] [] := T.F_law_forests.bindsN fun _ _ _ _ _ _ us hl => match us, hl with | [_], _ => rfl
theorem Txt.kp_law_parts {w : World} {K : PySem.W.Frag} {mg : Str → Option Value} (T : Txt w K mg) : PySem.W.keepIn K (.ref (He.ga K "_law_parts")) = true := T.F_law_parts.kp
theorem Txt.b_law_parts {w : World} {K : PySem.W.Frag} {mg : Str → Option Value} (T : Txt w K mg) : Binds K (fdOf K d_law_parts) ["_law_many"] [] := T.F_law_parts.bindsN fun _ _ _ _ _ _ us hl => match us, hl with | [_], _ => rfl
theorem Txt.kp_law_due {w : World} {K : PySem.W.Frag} {mg : Str → Option Value} (T : Txt w K mg) : PySem.W.keepIn K (.ref (He.ga K "_law_due")) = true := T.F_law_due.kp
theorem Txt.b_law_due {w : World} {K : PySem.W.Frag} {mg : Str → Option Value} (T : Txt w K mg) : Binds K (fdOf K d_law_due) ["_law_program_here", "_law_room", "_law_trace"] [] := T.F_law_due.bindsN fun _ _ _ _ _ _ us hl => match us, hl with | [_, _, _], _ => rfl
theorem Txt.kp_law {w : World} {K : PySem.W.Frag} {mg : Str → Option Value} (T : Txt w K mg) : PySem.W.keepIn K (.ref (He.ga K "law")) = true := T.F_law.kp
theorem Txt.b_law {w : World} {K : PySem.W.Frag} {mg : Str → Option Value} (T : Txt w K mg) : Binds K (fdOf K d_law) ["_law_script"] [] := T.F_law.bindsN fun _ _ _ _ _ _ us hl => match us, hl with | [_], _ => rfl
theorem Txt.b_Hall_init {w : World} {K : PySem.W.Frag} {mg : Str → Option Value} (T : Txt w K mg) : Binds K (fdOf K d_Hall_init) ["self", "program", "tree", "room"] [] := T.F_Hall_init.bindsN fun _ _ _ _ _ _ us hl => match us, hl with | [_, _, _, _], _ => rfl
theorem Txt.b_Hall_look {w : World} {K : PySem.W.Frag} {mg : Str → Option Value} (T : Txt w K mg) : Binds K (fdOf K d_Hall_look) ["self", "function"] [] := T.F_Hall_look.bindsN fun _ _ _ _ _ _ us hl => match us, hl with | [_, _], _ => rfl
theorem Txt.b_Hall_there {w : World} {K : PySem.W.Frag} {mg : Str → Option Value} (T : Txt w K mg) : Binds K (fdOf K d_Hall_there) ["self", "function"] [] := T.F_Hall_there.bindsN fun _ _ _ _ _ _ us hl => match us, hl with | [_, _], _ => rfl
theorem Txt.b_Hall_cells {w : World} {K : PySem.W.Frag} {mg : Str → Option Value} (T : Txt w K mg) : Binds K (fdOf K d_Hall_cells) ["self"] [] := T.F_Hall_cells.bindsN fun _ _ _ _ _ _ us hl => match us, hl with | [_], _ => rfl
theorem Txt.b_Hall_brought {w : World} {K : PySem.W.Frag} {mg : Str → Option Value} (T : Txt w K mg) : Binds K (fdOf K d_Hall_brought) ["self"] [] := T.F_Hall_brought.bindsN fun _ _ _ _ _ _ us hl => match us, hl with | [_], _ => rfl
theorem Txt.b_Hall_has_part {w : World} {K : PySem.W.Frag} {mg : Str → Option Value} (T : Txt w K mg) : Binds K (fdOf K d_Hall_has_part) ["self", "part"] [] := T.F_Hall_has_part.bindsN fun _ _ _ _ _ _ us hl => match us, hl with | [_, _], _ => rfl
theorem Txt.b_Hall_bring {w : World} {K : PySem.W.Frag} {mg : Str → Option Value} (T : Txt w K mg) : Binds K (fdOf K d_Hall_bring) ["self", "part"] [] := T.F_Hall_bring.bindsN fun _ _ _ _ _ _ us hl => match us, hl with | [_, _], _ => rfl
def lawi : Nat := 79
end K16
/-! ### halls as data -/
namespace Ov
open PySem PySem.Spec PyProof.Rows L2
abbrev Cnt := Nat × Nat
abbrev Lay := List (Nat × Cnt)
def Has (ly : List (Option Cnt)) (l : Lay) : Bool := l.all fun e => decide (ly[e.1]? = some (some e.2))
def brg (ly : List (Option Cnt)) (l : Lay) : List (Option Cnt) := l.foldl (fun ly e => ly.set e.1 (some e.2)) ly
theorem brg_snoc (ly : List (Option Cnt)) (l : Lay) (e : Nat × Cnt) : brg ly (l ++ [e]) = (brg ly l).set e.1 (some e.2) := by
  unfold brg
  rw [List.foldl_append]
  rfl
theorem brg_len : ∀ (l : Lay) (ly : List (Option Cnt)), (brg ly l).length = ly.length
  | [], _ => rfl
  | e :: l, ly => by
    show (brg (ly.set e.1 (some e.2)) l).length = _
    rw [brg_len l, List.length_set]
theorem brg_out : ∀ (l : Lay) (ly : List (Option Cnt)) (c : Nat), (∀ e ∈ l, e.1 ≠ c) → (brg ly l)[c]? = ly[c]?
  | [], _, _, _ => rfl
  | e :: l, ly, c, h => by
    show (brg (ly.set e.1 (some e.2)) l)[c]? = _
    rw [brg_out l _ c fun d hd => h d (List.mem_cons_of_mem _ hd), List.getElem?_set_ne (h e List.mem_cons_self)]
theorem brg_in : ∀ (l : Lay) (ly : List (Option Cnt)) (e : Nat × Cnt), (l.map (·.1)).Nodup → (∀ e ∈ l, e.1 < ly.length) → e ∈ l → (brg ly l)[e.1]? = some (some e.2)
  | [], _, _, _, _, h => nomatch h
  | d :: l, ly, e, nd, lt, h => by
    rw [List.map_cons, List.nodup_cons] at nd
    show (brg (ly.set d.1 (some d.2)) l)[e.1]? = _
    rcases List.mem_cons.mp h with rfl | h
    · rw [brg_out l _ e.1 fun z hz ez => nd.1 (List.mem_map.mpr ⟨z, hz, ez⟩), List.getElem?_set_self (lt e List.mem_cons_self)]
    · exact brg_in l _ e nd.2 (fun z hz => by rw [List.length_set]; exact lt z (List.mem_cons_of_mem _ hz)) h
def Apart (l m : Lay) : Prop := ∀ e ∈ l, ∀ d ∈ m, e.1 ≠ d.1
theorem Apart.symm {l m : Lay} (h : Apart l m) : Apart m l := fun e he d hd z => h d hd e he z.symm
theorem has_iff {ly : List (Option Cnt)} {l : Lay} : Has ly l = true ↔ ∀ e ∈ l, ly[e.1]? = some (some e.2) := by
  unfold Has
  rw [List.all_eq_true]
  exact ⟨fun h e he => of_decide_eq_true (h e he), fun h e he => decide_eq_true (h e he)⟩
def lyr (L : List Lay) (q : Nat) : Lay := L[q]?.getD []
/-- a hall's ways and layouts -/
structure HlOk (wy : List (List Nat)) (L : List Lay) (far : Nat) : Prop where
  nd : ∀ q, ((lyr L q).map (·.1)).Nodup
  lt : ∀ q, ∀ e ∈ lyr L q, e.1 < far
  ln : ∀ q, (lyr L q).length ≤ 64
  cnt : wy.length ≤ 8 ∧ L.length ≤ 8
  wl : ∀ w ∈ wy, w.length ≤ 8 ∧ ∀ q ∈ w, q < L.length
  ap : ∀ w ∈ wy, w.Pairwise fun q r => q ≠ r ∧ Apart (lyr L q) (lyr L r)
def mis (ly : List (Option Cnt)) (L : List Lay) (w : List Nat) : List Nat := w.filter fun q => !Has ly (lyr L q)
def brgs (ly : List (Option Cnt)) (L : List Lay) (ms : List Nat) : List (Option Cnt) := ms.foldl (fun ly q => brg ly (lyr L q)) ly
def siz (L : List Lay) (ms : List Nat) : Nat := (ms.map fun q => (lyr L q).length).sum
def thr (ly : List (Option Cnt)) (L : List Lay) (w : List Nat) : Bool := w.all fun q => Has ly (lyr L q)
theorem brgs_snoc (ly : List (Option Cnt)) (L : List Lay) (ms : List Nat) (q : Nat) : brgs ly L (ms ++ [q]) = brg (brgs ly L ms) (lyr L q) := by
  unfold brgs
  rw [List.foldl_append]
  rfl
theorem siz_snoc (L : List Lay) (ms : List Nat) (q : Nat) : siz L (ms ++ [q]) = siz L ms + (lyr L q).length := by
  unfold siz
  rw [List.map_append, List.sum_append]
  simp
theorem brgs_len (L : List Lay) : ∀ (ms : List Nat) (ly : List (Option Cnt)), (brgs ly L ms).length = ly.length
  | [], _ => rfl
  | q :: ms, ly => by
    show (brgs (brg ly (lyr L q)) L ms).length = _
    rw [brgs_len L ms, brg_len]
/-! ### the layouts and ways of a tree -/
def layP (pr : List (Int × W)) (cs : List Int) (p : List Nat) : Lay := p.flatMap fun f => (List.range (fsz pr f).toNat).map fun n => ((cs[f]?.getD 0).toNat + n, (f, n))
theorem layP_snoc {pr : List (Int × W)} {cs : List Int} {p : List Nat} {f : Nat} : layP pr cs (p ++ [f]) = layP pr cs p ++ (List.range (fsz pr f).toNat).map fun n => ((cs[f]?.getD 0).toNat + n, (f, n)) := by
  unfold layP
  rw [List.flatMap_append]
  simp
theorem range_plus (a b : Nat) : List.range (a + b) = List.range a ++ (List.range b).map (a + ·) := by
  induction b with
  | zero => simp
  | succ b ih => rw [← Nat.add_assoc, List.range_succ, ih, List.range_succ, List.map_append, List.append_assoc]; rfl
theorem fsz_pos {pr : List (Int × W)} (ok : PrOk pr) {f : Nat} (h : f < pr.length) : 1 ≤ fsz pr f ∧ fsz pr f ≤ 8 := by
  unfold fsz
  rw [List.getElem?_eq_getElem h]
  have z := ok.f _ (List.getElem_mem h)
  exact ⟨z.1, z.2.1⟩
theorem psz_nn {pr : List (Int × W)} (ok : PrOk pr) : ∀ {p : List Nat}, (∀ x ∈ p, x < pr.length) → (p.length : Int) ≤ psz pr p ∧ psz pr p ≤ 8 * p.length
  | [], _ => ⟨Int.le_refl _, Int.le_refl _⟩
  | f :: p, h => by
    have z := psz_nn ok (p := p) fun x hx => h x (List.mem_cons_of_mem _ hx)
    have y := fsz_pos ok (h f List.mem_cons_self)
    have e : psz pr (f :: p) = fsz pr f + psz pr p := rfl
    rw [e, List.length_cons]
    omega
theorem bgn_nn {pr : List (Int × W)} (ok : PrOk pr) {ps : List (List Nat)} (hp : PInv pr.length ps) {dn : Nat → List Nat} {i : Nat} : 0 ≤ bgn pr ps dn i := by
  unfold bgn
  induction dn i with
  | nil => exact Int.le_refl _
  | cons y l ih =>
    rw [List.map_cons, List.sum_cons]
    have z : 0 ≤ psz pr (ps[y]?.getD []) := by
      cases e : ps[y]? with
      | none => exact Int.le_refl _
      | some p =>
        have := (psz_nn ok (p := p) fun x hx => hp.lt (List.mem_of_getElem? e) hx).1
        show 0 ≤ psz pr p
        omega
    omega
theorem lay_cells {pr : List (Int × W)} (ok : PrOk pr) {ps : List (List Nat)} (hp : PInv pr.length ps) {dn : Nat → List Nat} {cs : List Int} (hc : Cells pr ps dn cs) {i : Nat} {p : List Nat} (e : ps[i]? = some p) :
    ∀ j, j ≤ p.length → (layP pr cs (p.take j)).map (·.1) = (List.range (psz pr (p.take j)).toNat).map fun k => (bgn pr ps dn i).toNat + k
  | 0, _ => rfl
  | j + 1, hj => by
    have ih := lay_cells ok hp hc e j (by omega)
    have ef : p[j]? = some p[j] := List.getElem?_eq_getElem (by omega)
    have hf := hp.lt (List.mem_of_getElem? e) (List.mem_of_getElem? ef)
    have b0 := bgn_nn ok hp (dn := dn) (i := i)
    have p0 := (psz_nn ok (p := p.take j) fun x hx => hp.lt (List.mem_of_getElem? e) (List.mem_of_mem_take hx)).1
    have f0 := fsz_pos ok hf
    rw [List.take_add_one, ef]
    show (layP pr cs (p.take j ++ [p[j]])).map (·.1) = (List.range (psz pr (p.take j ++ [p[j]])).toNat).map _
    rw [layP_snoc, psz_snoc, List.map_append, ih, Int.toNat_add (by omega) (by omega), range_plus, List.map_append, List.map_map, List.map_map]
    congr 1
    refine List.map_congr_left fun n _ => ?_
    show ((cs[p[j]]?.getD 0).toNat + n) = (bgn pr ps dn i).toNat + ((psz pr (p.take j)).toNat + n)
    rw [hc.2 i p j _ e ef]
    show (bgn pr ps dn i + psz pr (p.take j)).toNat + n = _
    rw [Int.toNat_add b0 (by omega)]
    omega
/-- the part of a function -/
def prt (ps : List (List Nat)) (f : Nat) : Nat := ps.findIdx fun p => decide (f ∈ p)
theorem prt_eq {n : Nat} {ps : List (List Nat)} (h : PInv n ps) {f i : Nat} {p : List Nat} (e : ps[i]? = some p) (hf : f ∈ p) : prt ps f = i := by
  have ex : ∃ x ∈ ps, decide (f ∈ x) = true := ⟨p, List.mem_of_getElem? e, decide_eq_true hf⟩
  have lt := List.findIdx_lt_length.mpr ex
  have hm : decide (f ∈ ps[ps.findIdx fun p => decide (f ∈ p)]) = true := List.findIdx_getElem (w := lt)
  obtain ⟨j, hj⟩ := List.mem_iff_getElem?.mp (of_decide_eq_true hm)
  obtain ⟨j', hj'⟩ := List.mem_iff_getElem?.mp hf
  exact (h.uniq (List.getElem?_eq_getElem lt) hj e hj').1
def wayF (ps : List (List Nat)) (dn : Nat → List Nat) (f : Nat) : List Nat := dn (prt ps f) ++ [prt ps f]
def waysF (n : Nat) (ps : List (List Nat)) (dn : Nat → List Nat) : List (List Nat) := (List.range n).map (wayF ps dn)
def laysF (pr : List (Int × W)) (cs : List Int) (ps : List (List Nat)) : List Lay := ps.map (layP pr cs)
theorem Dn.clos {n : Nat} {ps : List (List Nat)} {st : List Int} {dn : Nat → List Nat} (hd : Dn n ps st dn) : ∀ {x : Nat} {l : List Nat}, Down st x l → (∀ q ∈ l, q < ps.length) → ∀ q ∈ l, ∀ r ∈ dn q, r ∈ l := by
  intro x l h
  induction h with
  | base _ => exact fun _ q hq => nomatch hq
  | @step x y l e h2 ih =>
    intro hl q hq r hr
    rcases List.mem_append.mp hq with hq | hq
    · exact List.mem_append_left _ (ih (fun q hq => hl q (List.mem_append_left _ hq)) q hq r hr)
    · obtain rfl := List.mem_singleton.mp hq
      have hy := hl q (List.mem_append_right _ hq)
      rw [(hd.down q hy).uniq h2] at hr
      exact List.mem_append_left _ hr
/-- who lies on a way has its way on it -/
theorem Dn.sub {n : Nat} {ps : List (List Nat)} {st : List Int} {dn : Nat → List Nat} (hd : Dn n ps st dn) {i q : Nat} (hi : i < ps.length) (hq : q ∈ dn i ++ [i]) {r : Nat} (hr : r ∈ dn q ++ [q]) : r ∈ dn i ++ [i] := by
  rcases List.mem_append.mp hr with hr | hr
  · rcases List.mem_append.mp hq with hq | hq
    · exact List.mem_append_left _ (hd.clos (hd.down i hi) (hd.lt i hi) q hq r hr)
    · obtain rfl := List.mem_singleton.mp hq
      exact List.mem_append_left _ hr
  · obtain rfl := List.mem_singleton.mp hr
    exact hq
theorem Dn.order {pr : List (Int × W)} (ok : PrOk pr) {ps : List (List Nat)} (hp : PInv pr.length ps) {st : List Int} {dn : Nat → List Nat} (hd : Dn pr.length ps st dn) : ∀ {x : Nat} {l : List Nat}, Down st x l → x < ps.length → (∀ q ∈ l, q < ps.length) →
    (l ++ [x]).Pairwise fun q r => bgn pr ps dn q + psz pr (ps[q]?.getD []) ≤ bgn pr ps dn r := by
  intro x l h
  induction h with
  | base _ => exact fun _ _ => List.pairwise_singleton _ _
  | @step x y l e h2 ih =>
    intro hx hl
    have hy := hl y (List.mem_append_right _ (List.mem_singleton.mpr rfl))
    have z := ih hy fun q hq => hl q (List.mem_append_left _ hq)
    have ex : bgn pr ps dn x = bgn pr ps dn y + psz pr (ps[y]?.getD []) := by
      have e1 := (hd.down x hx).uniq (.step e h2)
      have e2 := (hd.down y hy).uniq h2
      unfold bgn
      rw [e1, e2, List.map_append, List.sum_append]
      simp
    have y0 : 0 ≤ psz pr (ps[y]?.getD []) := by
      rw [List.getElem?_eq_getElem hy]
      have := (psz_nn ok (p := ps[y]) fun x hx => hp.lt (List.getElem_mem hy) hx).1
      show 0 ≤ psz pr ps[y]
      omega
    rw [List.pairwise_append] at z ⊢
    refine ⟨?_, List.pairwise_singleton _ _, fun q hq r hr => ?_⟩
    · rw [List.pairwise_append]
      exact z
    · obtain rfl := List.mem_singleton.mp hr
      rw [ex]
      rcases List.mem_append.mp hq with hq | hq
      · have := z.2.2 q hq y (List.mem_singleton.mpr rfl)
        omega
      · obtain rfl := List.mem_singleton.mp hq
        exact Int.le_refl _
theorem lyr_lays {pr : List (Int × W)} {cs : List Int} {ps : List (List Nat)} {q : Nat} : lyr (laysF pr cs ps) q = layP pr cs (ps[q]?.getD []) := by
  unfold lyr laysF
  rw [List.getElem?_map]
  cases ps[q]? <;> rfl
theorem lay_pos {pr : List (Int × W)} (ok : PrOk pr) {ps : List (List Nat)} (hp : PInv pr.length ps) {dn : Nat → List Nat} {cs : List Int} (hc : Cells pr ps dn cs) {q : Nat} : (lyr (laysF pr cs ps) q).map (·.1) = (List.range (psz pr (ps[q]?.getD [])).toNat).map fun k => (bgn pr ps dn q).toNat + k := by
  rw [lyr_lays]
  cases e : ps[q]? with
  | none => rfl
  | some p =>
    have z := lay_cells ok hp hc e p.length (Nat.le_refl _)
    rw [List.take_length] at z
    exact z
theorem lay_len {pr : List (Int × W)} (ok : PrOk pr) {ps : List (List Nat)} (hp : PInv pr.length ps) {dn : Nat → List Nat} {cs : List Int} (hc : Cells pr ps dn cs) {q : Nat} : ((lyr (laysF pr cs ps) q).length : Int) = psz pr (ps[q]?.getD []) := by
  have z := congrArg List.length (lay_pos ok hp hc (q := q))
  rw [List.length_map, List.length_map, List.length_range] at z
  have p0 : 0 ≤ psz pr (ps[q]?.getD []) := by
    cases e : ps[q]? with
    | none => exact Int.le_refl _
    | some p =>
      have := (psz_nn ok (p := p) fun x hx => hp.lt (List.mem_of_getElem? e) hx).1
      show 0 ≤ psz pr p
      omega
  omega
theorem hall_ok {pr : List (Int × W)} (ok : PrOk pr) {ps : List (List Nat)} {st : List Int} (ht : TrOk pr.length ps st) {dn : Nat → List Nat} (hd : Dn pr.length ps st dn) {cs : List Int} (hc : Cells pr ps dn cs) {m : Int} (hm : Far pr ps dn m) : HlOk (waysF pr.length ps dn) (laysF pr cs ps) m.toNat := by
  have hp := ht.p
  have pos : ∀ q e, e ∈ lyr (laysF pr cs ps) q → (bgn pr ps dn q).toNat ≤ e.1 ∧ (e.1 : Int) < bgn pr ps dn q + psz pr (ps[q]?.getD []) := fun q e he => by
    have h1 := List.mem_map_of_mem (f := fun x : Nat × Cnt => x.1) he
    rw [lay_pos ok hp hc] at h1
    obtain ⟨k, hk, ek⟩ := List.mem_map.mp h1
    have hk := List.mem_range.mp hk
    have b0 := bgn_nn ok hp (dn := dn) (i := q)
    have ek : (bgn pr ps dn q).toNat + k = e.1 := ek
    omega
  have pne : ∀ q, q < ps.length → 1 ≤ psz pr (ps[q]?.getD []) ∧ psz pr (ps[q]?.getD []) ≤ 64 := fun q hq => by
    rw [List.getElem?_eq_getElem hq]
    have h1 := psz_nn ok (p := ps[q]) fun x hx => hp.lt (List.getElem_mem hq) hx
    have h2 := List.length_pos_iff.mpr (hp.ne _ (List.getElem_mem hq))
    have h3 := hp.plen (List.getElem_mem hq)
    have h4 := ok.l8
    show 1 ≤ psz pr ps[q] ∧ psz pr ps[q] ≤ 64
    omega
  have hw : ∀ w ∈ waysF pr.length ps dn, ∃ i, i < ps.length ∧ w = dn i ++ [i] := fun w hw => by
    obtain ⟨f, hf, rfl⟩ := List.mem_map.mp hw
    obtain ⟨i, p, j, e1, e2⟩ := hp.stands (List.mem_range.mp hf)
    refine ⟨i, (List.getElem?_eq_some_iff.mp e1).1, ?_⟩
    unfold wayF
    rw [prt_eq hp e1 (List.mem_of_getElem? e2)]
  have l8 := ok.l8
  have pc := hp.count
  refine ⟨fun q => ?_, fun q e he => ?_, fun q => ?_, ⟨?_, ?_⟩, fun w h => ?_, fun w h => ?_⟩
  · rw [lay_pos ok hp hc]
    refine List.Pairwise.map _ (fun a b h z => h (by omega)) List.nodup_range
  · have h1 := pos q e he
    have hq : q < ps.length := by
      refine Nat.lt_of_not_le fun z => ?_
      rw [lyr_lays, List.getElem?_eq_none z] at he
      exact nomatch he
    have h2 := hm.2 q ps[q] (List.getElem?_eq_getElem hq)
    rw [List.getElem?_eq_getElem hq] at h1
    have h3 : (e.1 : Int) < bgn pr ps dn q + psz pr ps[q] := h1.2
    omega
  · have h1 := lay_len ok hp hc (q := q)
    by_cases hq : q < ps.length
    · have := pne q hq
      omega
    · rw [lyr_lays, List.getElem?_eq_none (by omega)]
      exact Nat.zero_le _
  · unfold waysF
    rw [List.length_map, List.length_range]
    exact l8
  · unfold laysF
    rw [List.length_map]
    omega
  · obtain ⟨i, hi, rfl⟩ := hw w h
    have h1 := hd.len i hi
    refine ⟨by rw [List.length_append, List.length_singleton]; omega, fun q hq => ?_⟩
    unfold laysF
    rw [List.length_map]
    rcases List.mem_append.mp hq with hq | hq
    · exact hd.lt i hi q hq
    · obtain rfl := List.mem_singleton.mp hq
      exact hi
  · obtain ⟨i, hi, rfl⟩ := hw w h
    refine List.Pairwise.imp_of_mem (fun {q r} hq hr z => ?_) (hd.order ok hp (hd.down i hi) hi (hd.lt i hi))
    have hq' : q < ps.length := by
      rcases List.mem_append.mp hq with hq | hq
      · exact hd.lt i hi q hq
      · obtain rfl := List.mem_singleton.mp hq
        exact hi
    have h1 := pne q hq'
    have b0 := bgn_nn ok hp (dn := dn) (i := q)
    have b1 := bgn_nn ok hp (dn := dn) (i := r)
    refine ⟨fun e => ?_, fun e he d hd' ed => ?_⟩
    · subst e
      omega
    · have h2 := pos q e he
      have h3 := pos r d hd'
      omega
end Ov
/-! ### a hall at a heap -/
namespace Ov
open PySem PySem.Spec PyProof.Rows L2
structure HA where
  a : Addr
  dx : Addr
  wy : Addr
  lo : Addr
  ly : Addr
def hallFs (x : HA) (mv : Int) : List (Str × V) := [("ways", .ref x.wy), ("layouts", .ref x.lo), ("lying", .ref x.ly), ("moved", .int mv)]
def CntAt (H : Hp) (v : V) (c : Cnt) : Prop := ∃ u, v = .ref u ∧ H u = some (.tup [.int (c.1 : Int), .int (c.2 : Int)])
theorem CntAt.keep {H H' : Hp} (k : Keep H H') {v : V} {c : Cnt} : CntAt H v c → CntAt H' v c := fun ⟨u, e, h⟩ => ⟨u, e, k _ _ h⟩
def CellAt (H : Hp) : V → Option Cnt → Prop
  | v, none => v = .non
  | v, some c => CntAt H v c
theorem CellAt.keep {H H' : Hp} (k : Keep H H') : ∀ {v : V} {c : Option Cnt}, CellAt H v c → CellAt H' v c
  | _, none, h => h
  | _, some _, h => CntAt.keep k h
def EntL (H : Hp) (v : V) (e : Nat × Cnt) : Prop := ∃ t u, v = .ref t ∧ H t = some (.tup [.int (e.1 : Int), u]) ∧ CntAt H u e.2
theorem EntL.keep {H H' : Hp} (k : Keep H H') {v : V} {e : Nat × Cnt} : EntL H v e → EntL H' v e := fun ⟨t, u, e1, h, c⟩ => ⟨t, u, e1, k _ _ h, c.keep k⟩
def LayAt (H : Hp) (b : Addr) (l : Lay) : Prop := ∃ vs, H b = some (.lst vs) ∧ Paired (EntL H) vs l
structure HallAt (K : PySem.W.Frag) (H0 H : Hp) (x : HA) (wys : List (List Nat)) (L : List Lay) (lc : List (Option Cnt)) (mv : Int) : Prop where
  ob : H x.a = some (.ins (He.ga K "Hall") x.dx (hallFs x mv))
  wy : ∃ ws : List Addr, H x.wy = some (.lst (ws.map V.ref)) ∧ Paired (fun b w => H b = some (.lst (nV w)) ∧ H0 b = none ∧ b ≠ x.ly) ws wys
  lo : ∃ ls : List Addr, H x.lo = some (.lst (ls.map V.ref)) ∧ Paired (fun b l => LayAt H b l ∧ H0 b = none ∧ b ≠ x.ly) ls L
  ly : ∃ vs, H x.ly = some (.lst vs) ∧ Paired (CellAt H) vs lc
  fa : H0 x.a = none
  fw : H0 x.wy = none ∧ x.wy ≠ x.ly
  fl : H0 x.lo = none ∧ x.lo ≠ x.ly
  fy : H0 x.ly = none
theorem paired_set {α β : Type} {R : α → β → Prop} {x : α} {y : β} : ∀ {l : List α} {m : List β}, Paired R l m → R x y → ∀ k : Nat, Paired R (l.set k x) (m.set k y)
  | _, _, .nil, _, _ => .nil
  | _, _, .cons _ r, h, 0 => .cons h r
  | _, _, .cons h1 r, h, k + 1 => .cons h1 (paired_set r h k)
section
variable {K : PySem.W.Frag} {H0 H H' H1 : Hp} {x : HA} {wys : List (List Nat)} {L : List Lay} {lc : List (Option Cnt)} {mv : Int}
theorem HallAt.keepF (h : HallAt K H0 H x wys L lc mv) (k : ∀ b o, H0 b = none → H b = some o → H' b = some o) (kt : Keep H H') : HallAt K H0 H' x wys L lc mv := by
  obtain ⟨h1, ⟨ws, h2, h3⟩, ⟨ls, h4, h5⟩, ⟨vs, h6, h7⟩, f1, f2, f3, f4⟩ := h
  exact ⟨k _ _ f1 h1, ⟨ws, k _ _ f2.1 h2, L2.Paired.mapP h3 fun b w z => ⟨k _ _ z.2.1 z.1, z.2⟩⟩, ⟨ls, k _ _ f3.1 h4, L2.Paired.mapP h5 fun b l z => by
    obtain ⟨⟨us, z1, z2⟩, z3⟩ := z
    exact ⟨⟨us, k _ _ z3.1 z1, L2.Paired.mapP z2 fun _ _ y => y.keep kt⟩, z3⟩⟩, ⟨vs, k _ _ f4 h6, L2.Paired.mapP h7 fun _ _ y => y.keep kt⟩, f1, f2, f3, f4⟩
theorem HallAt.same (h : HallAt K H0 H x wys L lc mv) (s : Same H H') : HallAt K H0 H' x wys L lc mv := h.keepF (fun b o _ e => s _ _ e) (Keep.same s)
theorem HallAt.but {p c : Addr} (h : HallAt K H0 H x wys L lc mv) (d0 : Dr H0 p c) (d : Dr H p c) (b : But p c H H') : HallAt K H0 H' x wys L lc mv := h.keepF (fun a o n e => b a o (fun z => by
    obtain ⟨m, k, ns, h1, h2, _⟩ := d0
    rw [z, h1] at n
    cases n) (fun z => by
    obtain ⟨m, k, ns, h1, h2, _⟩ := d0
    rw [z, h2] at n
    cases n) e) (Keep.but b d)
/-- all but the hall stays -/
def ButHl (x : HA) (H H' : Hp) : Prop := ∀ b o, b ≠ x.a → b ≠ x.ly → H b = some o → H' b = some o
theorem ButHl.refl : ButHl x H H := fun _ _ _ _ e => e
theorem ButHl.trans (p : ButHl x H H1) (q : ButHl x H1 H') : ButHl x H H' := fun b o n1 n2 e => q b o n1 n2 (p b o n1 n2 e)
theorem ButHl.same (s : Same H H') : ButHl x H H' := fun b o _ _ e => s b o e
theorem ButHl.keep (h : HallAt K H0 H x wys L lc mv) (b : ButHl x H H') : Keep H H' := fun a xs e => by
  obtain ⟨vs, h6, _⟩ := h.ly
  exact b a _ (ne_of e h.ob (by intro z; cases z)) (ne_of e h6 (by intro z; cases z)) e
theorem ButHl.s0 (h : HallAt K H0 H x wys L lc mv) (s : Same H0 H) (b : ButHl x H H') : Same H0 H' := fun a o e => b a o (ne_of_none e h.fa) (ne_of_none e h.fy) (s a o e)
theorem HallAt.setc (h : HallAt K H0 H x wys L lc mv) {vs : List V} (hl : H x.ly = some (.lst vs)) {v : V} {c : Cnt} (hv : CntAt H v c) (k : Nat) : HallAt K H0 (upd H x.ly (.lst (vs.set k v))) x wys L (lc.set k (some c)) mv ∧ ButHl x H (upd H x.ly (.lst (vs.set k v))) := by
  have kt := Keep.updL (ys := vs.set k v) hl
  obtain ⟨h1, ⟨ws, h2, h3⟩, ⟨ls, h4, h5⟩, ⟨us, h6, h7⟩, f1, f2, f3, f4⟩ := h
  obtain rfl : us = vs := by
    have z := h6.symm.trans hl
    cases z
    rfl
  refine ⟨⟨by rw [upd_ne (ne_of h1 hl (by intro z; cases z))]; exact h1, ⟨ws, by rw [upd_ne f2.2]; exact h2, L2.Paired.mapP h3 fun b w z => ⟨by rw [upd_ne z.2.2]; exact z.1, z.2⟩⟩, ⟨ls, by rw [upd_ne f3.2]; exact h4, L2.Paired.mapP h5 fun b l z => ?_⟩, ⟨us.set k v, upd_same, ?_⟩, f1, f2, f3, f4⟩, fun b o _ n e => by rw [upd_ne n]; exact e⟩
  · obtain ⟨⟨us', z1, z2⟩, z3⟩ := z
    exact ⟨⟨us', by rw [upd_ne z3.2]; exact z1, L2.Paired.mapP z2 fun _ _ y => y.keep kt⟩, z3⟩
  · have h8 := L2.Paired.mapP h7 fun _ _ y => CellAt.keep kt y
    exact paired_set h8 (show CellAt _ v (some c) from hv.keep kt) k
theorem hall_mv {m : Int} : putF "moved" (.int m) (hallFs x mv) = hallFs x m := by rfl
theorem HallAt.mvd (h : HallAt K H0 H x wys L lc mv) (m : Int) : HallAt K H0 (upd H x.a (.ins (He.ga K "Hall") x.dx (putF "moved" (.int m) (hallFs x mv)))) x wys L lc m ∧ ButHl x H (upd H x.a (.ins (He.ga K "Hall") x.dx (putF "moved" (.int m) (hallFs x mv)))) := by
  rw [hall_mv]
  obtain ⟨h1, ⟨ws, h2, h3⟩, ⟨ls, h4, h5⟩, ⟨us, h6, h7⟩, f1, f2, f3, f4⟩ := h
  have ne : ∀ {b : Addr} {l : List V}, H b = some (.lst l) → b ≠ x.a := fun e => ne_of e h1 (by intro z; cases z)
  have kt : Keep H (upd H x.a (.ins (He.ga K "Hall") x.dx (hallFs x m))) := fun b xs e => by
    rw [upd_ne (ne_of e h1 (by intro z; cases z))]
    exact e
  exact ⟨⟨upd_same, ⟨ws, by rw [upd_ne (ne h2)]; exact h2, L2.Paired.mapP h3 fun b w z => ⟨by rw [upd_ne (ne z.1)]; exact z.1, z.2⟩⟩, ⟨ls, by rw [upd_ne (ne h4)]; exact h4, L2.Paired.mapP h5 fun b l z => by
    obtain ⟨⟨us', z1, z2⟩, z3⟩ := z
    exact ⟨⟨us', by rw [upd_ne (ne z1)]; exact z1, L2.Paired.mapP z2 fun _ _ y => y.keep kt⟩, z3⟩⟩, ⟨us, by rw [upd_ne (ne h6)]; exact h6, L2.Paired.mapP h7 fun _ _ y => CellAt.keep kt y⟩, f1, f2, f3, f4⟩, fun b o n _ e => by rw [upd_ne n]; exact e⟩
end
/-- all is as it must be: the hall's own heap, its ways and layouts, as many cells -/
structure HallIn (K : PySem.W.Frag) (H0 H : Hp) (x : HA) (wys : List (List Nat)) (L : List Lay) (lc : List (Option Cnt)) (mv : Int) (far : Nat) : Prop where
  at_ : HallAt K H0 H x wys L lc mv
  ok : HlOk wys L far
  le : far ≤ lc.length ∧ lc.length ≤ 64
def spCheckRoom : Sp := fun vs H Q _ => ∃ r : Int, vs = [.int r] ∧ 1 ≤ r ∧ r ≤ 64 ∧ Q .non H
def spLayouts : Sp := fun vs H Q _ => ∃ v t pr ps st dn, vs = [v, t] ∧ preT H v t pr ps st ∧ Dn pr.length ps st dn ∧ ∀ H' p ls cs, Same H H' → H p = none → H' p = some (.lst (ls.map V.ref)) → Cells pr ps dn cs → Paired (fun b l => LayAt H' b l ∧ H b = none) ls (laysF pr cs ps) → Q (.ref p) H'
def spHallInit (K : PySem.W.Frag) : Sp := fun vs H Q _ => ∃ (H0 : Hp) (a dx : Addr) (v t : V) (pr : List (Int × W)) (ps : List (List Nat)) (st : List Int) (dn : Nat → List Nat) (far : Int) (room : Nat), vs = [.ref a, v, t, .int (room : Int)] ∧ H a = some (.ins (He.ga K "Hall") dx []) ∧ H0 a = none ∧ (∀ b, H b = none → H0 b = none) ∧ preT H v t pr ps st ∧ Dn pr.length ps st dn ∧ Far pr ps dn far ∧ far ≤ (room : Int) ∧ room ≤ 64 ∧
  ∀ H' x cs, (∀ b o, b ≠ a → H b = some o → H' b = some o) → x.a = a → x.dx = dx → Cells pr ps dn cs → HallIn K H0 H' x (waysF pr.length ps dn) (laysF pr cs ps) (List.replicate room none) 0 far.toNat → Q .non H'
def spHasPart (K : PySem.W.Frag) : Sp := fun vs H Q _ => ∃ (H0 : Hp) (x : HA) (wys : List (List Nat)) (L : List Lay) (lc : List (Option Cnt)) (mv : Int) (far : Nat) (q : Nat), vs = [.ref x.a, .int (q : Int)] ∧ HallIn K H0 H x wys L lc mv far ∧ q < L.length ∧ ∀ H', Same H H' → Q (.bl (Has lc (lyr L q))) H'
def spBring (K : PySem.W.Frag) : Sp := fun vs H Q _ => ∃ (H0 : Hp) (x : HA) (wys : List (List Nat)) (L : List Lay) (lc : List (Option Cnt)) (mv : Int) (far : Nat) (q : Nat), vs = [.ref x.a, .int (q : Int)] ∧ HallIn K H0 H x wys L lc mv far ∧ q < L.length ∧ ∀ H', ButHl x H H' → HallIn K H0 H' x wys L (brg lc (lyr L q)) (mv + ((lyr L q).length : Nat)) far → Q .non H'
def spLook (K : PySem.W.Frag) : Sp := fun vs H Q _ => ∃ (H0 : Hp) (x : HA) (wys : List (List Nat)) (L : List Lay) (lc : List (Option Cnt)) (mv : Int) (far : Nat) (f : Nat) (w : List Nat), vs = [.ref x.a, .int (f : Int)] ∧ HallIn K H0 H x wys L lc mv far ∧ wys[f]? = some w ∧
  ∀ H' r, ButHl x H H' → H r = none → r ≠ x.ly → H' r = some (.lst (nV (mis lc L w))) → HallIn K H0 H' x wys L (brgs lc L (mis lc L w)) (mv + (siz L (mis lc L w) : Nat)) far → Q (.ref r) H'
def spThere (K : PySem.W.Frag) : Sp := fun vs H Q _ => ∃ (H0 : Hp) (x : HA) (wys : List (List Nat)) (L : List Lay) (lc : List (Option Cnt)) (mv : Int) (far : Nat) (f : Nat) (w : List Nat), vs = [.ref x.a, .int (f : Int)] ∧ HallIn K H0 H x wys L lc mv far ∧ wys[f]? = some w ∧ ∀ H', Same H H' → Q (.bl (thr lc L w)) H'
def spCells (K : PySem.W.Frag) : Sp := fun vs H Q _ => ∃ (H0 : Hp) (x : HA) (wys : List (List Nat)) (L : List Lay) (lc : List (Option Cnt)) (mv : Int) (far : Nat), vs = [.ref x.a] ∧ HallIn K H0 H x wys L lc mv far ∧ ∀ H' r us, Same H H' → H r = none → H' r = some (.lst us) → Paired (CellAt H') us lc → Q (.ref r) H'
def spBrought (K : PySem.W.Frag) : Sp := fun vs H Q _ => ∃ (H0 : Hp) (x : HA) (wys : List (List Nat)) (L : List Lay) (lc : List (Option Cnt)) (mv : Int) (far : Nat), vs = [.ref x.a] ∧ HallIn K H0 H x wys L lc mv far ∧ Q (.int mv) H
theorem cells_none {H : Hp} : ∀ n : Nat, Paired (CellAt H) (List.replicate n V.non) (List.replicate n none)
  | 0 => .nil
  | n + 1 => .cons rfl (cells_none n)
/-- a cell's data -/
def cntD (c : Cnt) : PyData := .tuple [.int (c.1 : Int), .int (c.2 : Int)]
def cellD : Option Cnt → PyData
  | none => .none
  | some c => cntD c
theorem cell_dp {K : PySem.W.Frag} {H : Hp} : ∀ {v : V} {c : Option Cnt}, CellAt H v c → Dp K H v (cellD c)
  | _, none, rfl => .non
  | _, some _, ⟨_, rfl, h⟩ => .tup (SqT.of h) (.cons (.int _) (.cons (.int _) .nil))
theorem cell_shaped : ∀ c : Option Cnt, SeqAt.shaped (cellD c) = true
  | none => by simp [cellD, SeqAt.shaped, PyData.depth, PyData.canLay0]
  | some c => pairShaped _ _
theorem cell_eqv (c : Option Cnt) (d : Cnt) : PyData.eqv (cellD c) (cellD (some d)) = decide (c = some d) := by
  cases c with
  | none => simp [cellD, cntD, PyData.eqv]
  | some c =>
    obtain ⟨a, b⟩ := c
    obtain ⟨a', b'⟩ := d
    have e : ∀ u v : Nat, ((u : Int) == (v : Int)) = decide (u = v) := fun u v => by
      rw [Bool.eq_iff_iff, beq_iff_eq, decide_eq_true_iff]
      omega
    simp [cellD, cntD, PyData.eqv, PyData.eqvAll, e]
end Ov
/-! ### what a law needs of halls -/
namespace Ov
open PySem PySem.Spec PyProof.Rows L2
theorem pig : ∀ (n : Nat) (l : List Nat), l.Nodup → (∀ x ∈ l, x < n) → l.length ≤ n
  | 0, l, _, h => by
    cases l with
    | nil => exact Nat.le_refl _
    | cons x l => exact absurd (h x List.mem_cons_self) (Nat.not_lt_zero _)
  | n + 1, l, nd, h => by
    have z := pig n (l.erase n) (nd.erase n) fun x hx => by
      have h1 := (List.Nodup.mem_erase_iff nd).mp hx
      have h2 := h x h1.2
      have h3 := h1.1
      omega
    rw [List.length_erase] at z
    split at z <;> omega
theorem psz_app (pr : List (Int × W)) (p q : List Nat) : psz pr (p ++ q) = psz pr p + psz pr q := by
  unfold psz
  rw [List.map_append, List.sum_append]
theorem psz_flat (pr : List (Int × W)) (g : Nat → List Nat) : ∀ w : List Nat, psz pr (w.flatMap g) = (w.map fun q => psz pr (g q)).sum
  | [] => rfl
  | q :: w => by rw [List.flatMap_cons, psz_app, psz_flat pr g w, List.map_cons, List.sum_cons]
theorem far_le {pr : List (Int × W)} (ok : PrOk pr) {ps : List (List Nat)} {st : List Int} (ht : TrOk pr.length ps st) {dn : Nat → List Nat} (hd : Dn pr.length ps st dn) {m : Int} (hm : Far pr ps dn m) : 1 ≤ m ∧ m ≤ 64 := by
  have hp := ht.p
  obtain ⟨i, p, e, rfl⟩ := hm.1
  have hi := (List.getElem?_eq_some_iff.mp e).1
  have pne : ∀ q, q < ps.length → 1 ≤ psz pr (ps[q]?.getD []) := fun q hq => by
    rw [List.getElem?_eq_getElem hq]
    have h1 := psz_nn ok (p := ps[q]) fun x hx => hp.lt (List.getElem_mem hq) hx
    have h2 := List.length_pos_iff.mpr (hp.ne _ (List.getElem_mem hq))
    show 1 ≤ psz pr ps[q]
    omega
  have b0 := bgn_nn ok hp (dn := dn) (i := i)
  have lt : ∀ q ∈ dn i ++ [i], q < ps.length := fun q hq => by
    rcases List.mem_append.mp hq with hq | hq
    · exact hd.lt i hi q hq
    · rw [List.mem_singleton.mp hq]
      exact hi
  have e1 : bgn pr ps dn i + psz pr p = psz pr ((dn i ++ [i]).flatMap fun q => ps[q]?.getD []) := by
    rw [psz_flat, bgn_psz, e]
    rfl
  have z := pne i hi
  rw [e] at z
  have z : 1 ≤ psz pr p := z
  refine ⟨by omega, ?_⟩
  rw [e1]
  have mem : ∀ x ∈ (dn i ++ [i]).flatMap (fun q => ps[q]?.getD []), x < pr.length := fun x hx => by
    obtain ⟨q, hq, hx⟩ := List.mem_flatMap.mp hx
    rw [List.getElem?_eq_getElem (lt q hq)] at hx
    exact hp.lt (List.getElem_mem (lt q hq)) hx
  have nd : ((dn i ++ [i]).flatMap fun q => ps[q]?.getD []).Nodup := by
    unfold List.Nodup
    rw [List.pairwise_flatMap]
    refine ⟨fun q hq => ?_, ?_⟩
    · rw [List.getElem?_eq_getElem (lt q hq)]
      exact List.Pairwise.imp (fun z => by omega) (hp.rise _ (List.getElem_mem (lt q hq)))
    · refine List.Pairwise.imp_of_mem (fun {q r} hq hr z => ?_) (hd.order ok hp (hd.down i hi) hi (hd.lt i hi))
      intro x hx y hy exy
      subst exy
      rw [List.getElem?_eq_getElem (lt q hq)] at hx
      rw [List.getElem?_eq_getElem (lt r hr)] at hy
      obtain ⟨j, hj⟩ := List.mem_iff_getElem?.mp hx
      obtain ⟨k, hk⟩ := List.mem_iff_getElem?.mp hy
      have eq := (hp.uniq (List.getElem?_eq_getElem (lt q hq)) hj (List.getElem?_eq_getElem (lt r hr)) hk).1
      subst eq
      have := pne q (lt q hq)
      omega
  have h1 := pig pr.length _ nd mem
  have h2 := (psz_nn ok mem).2
  have := ok.l8
  omega
section
variable {K : PySem.W.Frag} {H0 H H' H1 : Hp} {x : HA} {wys : List (List Nat)} {L : List Lay} {lc : List (Option Cnt)} {mv : Int} {far : Nat} {h c : Addr}
theorem HallIn.same (i : HallIn K H0 H x wys L lc mv far) (s : Same H H') : HallIn K H0 H' x wys L lc mv far := ⟨i.at_.same s, i.ok, i.le⟩
theorem HallIn.but (i : HallIn K H0 H x wys L lc mv far) (d0 : Dr H0 h c) (d : Dr H h c) (b : But h c H H') : HallIn K H0 H' x wys L lc mv far := ⟨i.at_.but d0 d b, i.ok, i.le⟩
theorem Dr.ne0 (d0 : Dr H0 h c) (i : HallIn K H0 H x wys L lc mv far) : h ≠ x.a ∧ h ≠ x.ly ∧ c ≠ x.a ∧ c ≠ x.ly := by
  obtain ⟨m, k, ns, h1, h2, _⟩ := d0
  exact ⟨ne_of_none h1 i.at_.fa, ne_of_none h1 i.at_.fy, ne_of_none h2 i.at_.fa, ne_of_none h2 i.at_.fy⟩
theorem Dr.hall (d : Dr H h c) (d0 : Dr H0 h c) (i : HallIn K H0 H x wys L lc mv far) (b : ButHl x H H') : Dr H' h c := by
  obtain ⟨n1, n2, n3, n4⟩ := Dr.ne0 d0 i
  obtain ⟨m, k, ns, h1, h2, h3⟩ := d
  exact ⟨m, k, ns, b _ _ n1 n2 h1, b _ _ n3 n4 h2, h3⟩
end
end Ov

namespace Ov
open PySem PySem.Spec PyProof.Rows L2
/-! ### list.count of flat items; isinstance of whatever error was caught -/
section
variable {X : Cx}
theorem count_eqU {x : V} : ∀ {xs : List V} {us : List Value}, Vals xs us → xs.all flatV = true → us.countP (eqU x) = xs.countP fun y => eqV y x
  | _, _, .nil, _ => rfl
  | y :: xs, u :: us, .cons r t, f => by
    rw [List.all_cons, Bool.and_eq_true] at f
    rw [List.countP_cons, List.countP_cons, eqU_of r f.1, count_eqU t f.2]
def rCntV (K : PySem.W.Frag) : V → List V → Hp → VK → Prop := fun x xs H Q => ∃ (p : Addr) (ys : List V) (y : V), x = .ref p ∧ xs = [y] ∧ SqL K H p ys ∧ flatV y = true ∧ ys.all flatV = true ∧ Q (.int (ys.countP (fun z => eqV z y) : Nat)) H
theorem mt_count : MtR X "list.count" (rCntV X.K) := by
  intro pins s σ H x xs v us Q I rx rxs h
  obtain ⟨p, ys, y, rfl, rfl, hs, fy, fys, q⟩ := h
  cases rx
  obtain ⟨u, rfl, ru⟩ := rxs.one
  obtain ⟨its, rv, ⟨⟨cls, dd, data, sl⟩, n, ho, hc, hdn, hd⟩, hlen⟩ := I.list hs
  simp only at hc hd
  subst hc hd
  refine call_meets PySem.F.slot_list_count ⟨_, ho, rfl⟩ PySem.F.entry_list_count (PySem.F.args_list_count_2 _ _)
    (SeqAt.list_countAt p its.toArray n dd sl u (eqU y)) ⟨ho, fun z hz => mem_eqAt ru fy rv fys z (by simpa using hz), ?_⟩
  have ec : its.toArray.toList.countP (eqU y) = ys.countP fun z => eqV z y := count_eqU rv fys
  refine ⟨.int (ys.countP (fun z => eqV z y) : Nat), H, I.tok _, ⟨s.toks, ?_⟩, q⟩
  show Value.int ((its.toArray.toList.countP (eqU y) : Nat) : Int) s.toks = Value.int ((ys.countP (fun z => eqV z y) : Nat) : Int) s.toks
  rw [ec]
def rIsC (K : PySem.W.Frag) (D a : Addr) (cls : Value) (d : Option Addr) : List V → Hp → VK → Prop := fun xs H Q => cls = .ref D ∧ d = none ∧ rIsE K D a xs H Q
theorem call_isC {a D : Addr} {oe : Obj} {cls : Value} {d : Option Addr} {pn : List (Addr × Obj)} (C : ExcC X.K D) (hz : Zc cls d oe) (hf : ∃ vs, oe.data = .fields vs) : CallR (X.suite a ((a, oe) :: pn)) (.builtin "isinstance") (rIsC X.K D a cls d) := by
  intro pins s σ H xs us Q I r h
  obtain ⟨rfl, rfl, h⟩ := h
  exact call_isE C hz hf pins s σ H xs us Q I r h
theorem takes_len {W W' : WX} (t : Takes X W) (h : ∀ c d (σ : L2.St) H, σ.length = X.N.length → W' c d σ H → W c d σ H) : Takes X W' := fun u s' ⟨a, B, sI, pins, σ, H, cls, d, e, I, nb, up, sky, na, os, ag, w⟩ =>
  t u s' ⟨a, B, sI, pins, σ, H, cls, d, e, I, nb, up, sky, na, os, ag, h _ _ _ _ I.len w⟩
end
/-- the wish of `_law_kind` for an error of the class C, ret being what it tells -/
def TKind (K : PySem.W.Frag) (ret : Str) : (XK → Hp → VK → Prop) → Hp → VK → Prop := fun tl H Q =>
  tl (fun cls d H' => cls = .ref (He.ga K ret) ∧ d = none ∧ ∀ H'', Same H' H'' → Q (.str ret) H'') H fun _ H' => Q (.str "") H'
end Ov

namespace Ov
open PySem PySem.Spec PyProof.Rows L2 LamX
/-! ### tables of code are kept -/
theorem tabs_keep {T : List (Addr × Str)} {H H' : Hp} (t : Tabs T H) (k : ∀ b o, H b = some o → ((∃ ps, o = .tbl ps) ∨ ∃ c q, o = CodeO c q) → H' b = some o) : Tabs T H' := fun p hp => by
  obtain ⟨ps, h1, h2, h3⟩ := t p hp
  refine ⟨ps, k _ _ h1 (.inl ⟨ps, rfl⟩), h2, fun pos cv hc => ?_⟩
  obtain ⟨c, e1, e2⟩ := h3 pos cv hc
  exact ⟨c, e1, k _ _ e2 (.inr ⟨_, _, rfl⟩)⟩
theorem not_lst {xs : List V} {o : HO} (z : (∃ ps, o = .tbl ps) ∨ ∃ c q, o = CodeO c q) (e : o = .lst xs) : False := by
  subst e
  rcases z with ⟨ps, z⟩ | ⟨c, q, z⟩
  · cases z
  · unfold CodeO at z
    cases z
theorem tabs_same {T : List (Addr × Str)} {H H' : Hp} (t : Tabs T H) (s : Same H H') : Tabs T H' := tabs_keep t fun b o e _ => s b o e
theorem tabs_but {T : List (Addr × Str)} {H H' : Hp} {h c : Addr} (t : Tabs T H) (b : But h c H H') (d : Dr H h c) : Tabs T H' := tabs_keep t fun a o e z => by
  obtain ⟨m, k, xs, g1, g2, _⟩ := d
  refine b a o (fun q => ?_) (fun q => ?_) e
  · subst q
    exact not_lst z (Option.some.inj (e.symm.trans g1))
  · subst q
    exact not_lst z (Option.some.inj (e.symm.trans g2))
theorem keep_extN {H H' : Hp} (x : ExtN H H') : Keep H H' := fun a xs e => x _ _ e (fun _ z => by cases z)
/-! ### how long a run's lists are -/
def spLawT (K : PySem.W.Frag) (T : List (Addr × Str)) : Sp := fun vs H Q _ => ∃ (a : Addr) (ns : List Int), vs = [.ref a] ∧ SqL K H a (ns.map V.int) ∧ ns.length ≤ 63 ∧ Tabs T H ∧ ∀ H', Q (.bl true) H'
end Ov

/-! ### the law's own hall (k05, k14): a dict of the program, the tree, what is laid, the cells, how many were brought -/
namespace Ov
open PySem PySem.Spec PyProof.Rows L2
section
variable {H0 H H' : Hp} {a fl ca : Addr} {pv tv : V} {pr : List (Int × W)} {ps : List (List Nat)} {dn : Nat → List Nat} {us : List V} {n : Int}
end
/-! ### looks cell by cell -/
theorem has_brg {ly : List (Option Cnt)} {l m : Lay} (a : Apart l m) : Has (brg ly m) l = Has ly l := by
  unfold Has
  rw [Bool.eq_iff_iff, List.all_eq_true, List.all_eq_true]
  have e : ∀ d ∈ l, (brg ly m)[d.1]? = ly[d.1]? := fun d hd => brg_out m ly d.1 fun c hc z => a d hd c hc z.symm
  exact ⟨fun h d hd => by rw [← e d hd]; exact h d hd, fun h d hd => by rw [e d hd]; exact h d hd⟩
section
variable {H0 H H' : Hp} {a fl ca : Addr} {pv tv : V} {pr : List (Int × W)} {ps : List (List Nat)} {st : List Int} {dn : Nat → List Nat} {cs : List Int} {lc : List (Option Cnt)} {n : Int} {far : Nat}
end
end Ov
namespace Ov
open PySem PySem.Spec PyProof.Rows L2
theorem Paired.app {α β : Type} {R : α → β → Prop} : ∀ {a : List α} {b : List β} {c : List α} {d : List β}, Paired R a b → Paired R c d → Paired R (a ++ c) (b ++ d)
  | _, _, _, _, .nil, h => h
  | _, _, _, _, .cons x r, h => .cons x (Paired.app r h)
end Ov

/-! ### what halls refuse -/
namespace Ov
open PySem PySem.Spec PyProof.Rows L2
def OutC (K : PySem.W.Frag) (n : Str) (H : Hp) (E : XK) : Prop := ∀ H', Same H H' → E (.ref (He.ga K n)) none H'
theorem OutC.same {K : PySem.W.Frag} {n : Str} {H H1 : Hp} {E : XK} (h : OutC K n H E) (s : Same H H1) : OutC K n H1 E := fun H' s' => h H' (s.trans s')
def Small9 (z : Int) : Prop := z.natAbs < 10 ^ 9
theorem Small9.log {z : Int} (h2 : Small9 z) : z.natAbs.log2 < 1920 := by
  unfold Small9 at h2
  by_cases h0 : z.natAbs = 0
  · rw [h0]
    decide
  exact (Nat.log2_lt h0).mpr (Nat.lt_trans h2 (by decide))
theorem Small9.len {z : Int} (h : Small9 z) : (PySem.Str.ofString (toString z)).length ≤ 10 := by
  have e := PySem.int_text_length_le10 (k := 9) (by decide) h
  rw [PySem.ofString_length]
  omega
def spCheckRoomX (K : PySem.W.Frag) : Sp := fun vs H _ E => ∃ z : Int, vs = [.int z] ∧ (z < 1 ∨ 64 < z) ∧ Small9 z ∧ OutC K "BadRoom" H E
def spCheckFunctionX (K : PySem.W.Frag) : Sp := fun vs H _ E => ∃ (f : Int) (n : Nat), vs = [.int f, .int (n : Int)] ∧ (f < 0 ∨ (n : Int) ≤ f) ∧ Small9 f ∧ OutC K "BadFunction" H E
def spHallX (K : PySem.W.Frag) : Sp := fun vs H _ E => ∃ (H0 : Hp) (x : HA) (wys : List (List Nat)) (L : List Lay) (lc : List (Option Cnt)) (mv : Int) (far : Nat) (f : Int), vs = [.ref x.a, .int f] ∧ HallIn K H0 H x wys L lc mv far ∧ (f < 0 ∨ (wys.length : Int) ≤ f) ∧ Small9 f ∧ OutC K "BadFunction" H E
def spCheckRoomB (K : PySem.W.Frag) : Sp := fun vs H Q E => ∃ z : Int, vs = [.int z] ∧ Small9 z ∧ (1 ≤ z → z ≤ 64 → Q .non H) ∧ (z < 1 ∨ 64 < z → OutC K "BadRoom" H E)
def spHallInitX (K : PySem.W.Frag) : Sp := fun vs H _ E => ∃ (a : V) (v t : V) (pr : List (Int × W)) (ps : List (List Nat)) (st : List Int) (dn : Nat → List Nat) (far z : Int), vs = [a, v, t, .int z] ∧ preT H v t pr ps st ∧ Dn pr.length ps st dn ∧ Far pr ps dn far ∧ (z < far ∨ 64 < z) ∧ Small9 z ∧ OutC K "BadRoom" H E
end Ov

/-! ### an object made in a lambda, where its __init__ raises -/
namespace Ov
open PySem PySem.Spec PyProof.Rows L2
section
variable {X : Cx} {CX : CXT} {k : Nat} {f C : Addr} {fd : FuncData} {ps : List Str} {sp : Sp} {E : L2.St → XK} {x : Str} {p pos : Pos} {e : Expr} {es : List Expr} {t : TA}
end
/-! ### what stays of a hall when another's places change -/
section
variable {K : PySem.W.Frag} {H0 H H' : Hp} {x : HA} {wys : List (List Nat)} {L : List Lay} {lc : List (Option Cnt)} {mv : Int} {far : Nat}
end
/-! ### places that change: all else stays -/
/-- lists, instances and dicts apart, all stays -/
def Hard (o : HO) : Prop := (∀ xs, o ≠ .lst xs) ∧ (∀ C dx fs, o ≠ .ins C dx fs) ∧ ∀ kvs, o ≠ .dK kvs
def Kp (H H' : Hp) : Prop := ∀ b o, H b = some o → Hard o → H' b = some o
def Soft (H : Hp) (p : Addr) : Prop := ∃ o, H p = some o ∧ ((∃ xs, o = .lst xs) ∨ (∃ C dx fs, o = .ins C dx fs) ∨ ∃ kvs, o = .dK kvs)
theorem Soft.ne {H : Hp} {p : Addr} (h : Soft H p) : H p ≠ none := by
  obtain ⟨o, e, _⟩ := h
  rw [e]
  intro z
  cases z
theorem Soft.not {H : Hp} {p : Addr} {o : HO} (h : Soft H p) (e : H p = some o) (n : Hard o) : False := by
  obtain ⟨o', e', k⟩ := h
  obtain rfl := Option.some.inj (e.symm.trans e')
  rcases k with ⟨xs, rfl⟩ | ⟨C, dx, fs, rfl⟩ | ⟨kvs, rfl⟩
  · exact n.1 _ rfl
  · exact n.2.1 _ _ _ rfl
  · exact n.2.2 _ rfl
theorem Kp.but {p q : Addr} {H H' : Hp} (b : But p q H H') (hp : Soft H p) (hq : Soft H q) : Kp H H' := fun x o e n => b x o (fun z => hp.not (by rw [← z]; exact e) n) (fun z => hq.not (by rw [← z]; exact e) n) e
theorem Kp.trans {H H1 H' : Hp} (a : Kp H H1) (b : Kp H1 H') : Kp H H' := fun x o e n => b x o (a x o e n) n
theorem Kp.same {H H' : Hp} (s : Same H H') : Kp H H' := fun x o e _ => s x o e
theorem hard_tup (xs : List V) : Hard (.tup xs) := by
  refine ⟨fun _ z => ?_, fun _ _ _ z => ?_, fun _ z => ?_⟩ <;> cases z
theorem Kp.keep {H H' : Hp} (k : Kp H H') : Keep H H' := fun a xs e => k a _ e (hard_tup xs)
/-! ### a side: a hall, and the law's own -/
structure Sd where
  x : HA
  a : Addr
  fl : Addr
  ca : Addr
  pv : V
  tv : V
  pr : List (Int × W)
  ps : List (List Nat)
  st : List Int
  dn : Nat → List Nat
  cs : List Int
  far : Nat
def Sd.wys (d : Sd) : List (List Nat) := waysF d.pr.length d.ps d.dn
def Sd.L (d : Sd) : List Lay := laysF d.pr d.cs d.ps
def Sd.own (d : Sd) : List Addr := [d.x.a, d.x.ly, d.a, d.ca]
section
variable {K : PySem.W.Frag} {H H' : Hp} {M : List Addr} {d : Sd} {lc lc' : List (Option Cnt)} {mv mv' : Int} {p q : Addr}
end
theorem HallAt.fresh {K : PySem.W.Frag} {H0 H H' : Hp} {x : HA} {wys : List (List Nat)} {L : List Lay} {lc lc' : List (Option Cnt)} {mv mv' : Int} {r : Addr} {o : HO} (h : HallAt K H0 H x wys L lc mv) (h' : HallAt K H0 H' x wys L lc' mv') (b : ButHl x H H') (hr : H r = none) : HallAt K (upd H0 r o) H' x wys L lc' mv' := by
  obtain ⟨g1, ⟨ws0, g2, g3⟩, ⟨ls0, g4, g5⟩, ⟨vs0, g6, g7⟩, _, _, _, _⟩ := h
  obtain ⟨h1, ⟨ws, h2, h3⟩, ⟨ls, h4, h5⟩, ⟨vs, h6, h7⟩, f1, f2, f3, f4⟩ := h'
  have ne : ∀ {b : Addr} {u : HO}, H b = some u → H0 b = none → (upd H0 r o) b = none := fun e n => by rw [upd_ne (ne_of_none e hr)]; exact n
  have ew : ws0 = ws := by
    have z := b _ _ (ne_of g2 g1 (by intro z; cases z)) f2.2 g2
    have y := HO.lst.inj (Option.some.inj (z.symm.trans h2))
    exact (List.map_inj_right (fun a b e => V.ref.inj e)).mp y
  have el : ls0 = ls := by
    have z := b _ _ (ne_of g4 g1 (by intro z; cases z)) f3.2 g4
    have y := HO.lst.inj (Option.some.inj (z.symm.trans h4))
    exact (List.map_inj_right (fun a b e => V.ref.inj e)).mp y
  subst ew el
  have old : ∀ b ∈ ws0, ∃ u, H b = some u := fun b hb => by
    obtain ⟨w, z, _⟩ := PairedMem.left g3 b hb
    exact ⟨_, z⟩
  have old2 : ∀ b ∈ ls0, ∃ u, H b = some u := fun b hb => by
    obtain ⟨w, ⟨us, z, _⟩, _⟩ := PairedMem.left g5 b hb
    exact ⟨_, z⟩
  refine ⟨h1, ⟨ws0, h2, PairedMem.map h3 fun b w hb z => ?_⟩, ⟨ls0, h4, PairedMem.map h5 fun b l hb z => ?_⟩, ⟨vs, h6, h7⟩, ne g1 f1, ⟨ne g2 f2.1, f2.2⟩, ⟨ne g4 f3.1, f3.2⟩, ne g6 f4⟩
  · obtain ⟨u, hu⟩ := old b hb
    exact ⟨z.1, ne hu z.2.1, z.2.2⟩
  · obtain ⟨u, hu⟩ := old2 b hb
    exact ⟨z.1, ne hu z.2.1, z.2.2⟩
section
variable {K : PySem.W.Frag} {T : List (Addr × Str)} {H H' : Hp} {h c S : Addr} {ds : List (Addr × Sd)} {p : Addr × Sd}
end
end Ov

/-! ### what traces cost -/
namespace Ov
open PySem PySem.Spec PyProof.Rows L2
def tstep (wys : List (List Nat)) (L : List Lay) (s : List (Option Cnt) × Nat) (f : Nat) : List (Option Cnt) × Nat := (brgs s.1 L (mis s.1 L (wys[f]?.getD [])), s.2 + siz L (mis s.1 L (wys[f]?.getD [])))
def tsum (wys : List (List Nat)) (L : List Lay) (s : List (Option Cnt) × Nat) (ns : List Nat) : List (Option Cnt) × Nat := ns.foldl (tstep wys L) s
theorem tsum_snoc (wys : List (List Nat)) (L : List Lay) (s : List (Option Cnt) × Nat) (ns : List Nat) (f : Nat) : tsum wys L s (ns ++ [f]) = tstep wys L (tsum wys L s ns) f := by
  unfold tsum
  rw [List.foldl_append]
  rfl
def costT (wys : List (List Nat)) (L : List Lay) (n : Nat) (ns : List Nat) : Nat := (tsum wys L (List.replicate n none, 0) ns).2
/-- whether these are functions that there are -/
theorem sm20 (n : Nat) (h : n ≤ 20000) : n < sizeLine := Nat.lt_of_le_of_lt h (by decide)
def goodT (n : Nat) (ns : List Int) : Bool := !ns.isEmpty && ns.all fun z => decide (0 ≤ z ∧ z ≤ (n : Int) - 1)
def spCheckTrace (K : PySem.W.Frag) : Sp := fun vs H Q E => ∃ (pa b : Addr) (vp : List V) (ns : List Int), vs = [.ref pa, .ref b] ∧ H pa = some (.tup vp) ∧ vp.length ≤ 8 ∧ H b = some (.lst (ns.map V.int)) ∧ ns.length ≤ 20000 ∧ (goodT vp.length ns = true → ∀ H', Same H H' → Q .non H') ∧ (goodT vp.length ns = false → OutC K "BadTrace" H E)
def spCheckTraceG : Sp := fun vs H Q _ => ∃ (pa b : Addr) (vp : List V) (ns : List Int), vs = [.ref pa, .ref b] ∧ H pa = some (.tup vp) ∧ vp.length ≤ 8 ∧ H b = some (.lst (ns.map V.int)) ∧ ns.length ≤ 20000 ∧ goodT vp.length ns = true ∧ ∀ H', Same H H' → Q .non H'
theorem goodT_nat {n : Nat} {ns : List Nat} (h0 : ns ≠ []) (h : ∀ x ∈ ns, x < n) : goodT n (ns.map fun (x : Nat) => (x : Int)) = true := by
  unfold goodT
  rw [Bool.and_eq_true]
  refine ⟨?_, ?_⟩
  · cases ns with
    | nil => exact absurd rfl h0
    | cons a r => rfl
  · rw [List.all_map, List.all_eq_true]
    intro x hx
    have := h x hx
    show decide ((0 : Int) ≤ (x : Int) ∧ (x : Int) ≤ (n : Int) - 1) = true
    exact decide_eq_true (by omega)
def spBroughtBy : Sp := fun vs H Q _ => ∃ v t pr ps st dn, ∃ (b : Addr) (ns : List Nat), vs = [v, t, .ref b] ∧ preT H v t pr ps st ∧ Dn pr.length ps st dn ∧ H b = some (.lst (nV ns)) ∧ (∀ x ∈ ns, x < pr.length) ∧ ∀ H' cs far, Same H H' → Cells pr ps dn cs → Far pr ps dn far → HlOk (waysF pr.length ps dn) (laysF pr cs ps) far.toNat → Q (.int (costT (waysF pr.length ps dn) (laysF pr cs ps) 64 ns : Nat)) H'
def spCheapestX (K : PySem.W.Frag) : Sp := fun vs H _ E => ∃ v pr, ∃ (z : Int) (b : Addr) (ns : List Int), vs = [v, .int z, .ref b] ∧ PrAt H v pr ∧ PrOk pr ∧ H b = some (.lst (ns.map V.int)) ∧ ns.length ≤ 20000 ∧ Small9 z ∧ (5 < pr.length ∨ (z < 1 ∨ 64 < z) ∨ goodT pr.length ns = false) ∧
  (5 < pr.length → OutC K "TooMany" H E) ∧ (pr.length ≤ 5 → (z < 1 ∨ 64 < z) → OutC K "BadRoom" H E) ∧ (pr.length ≤ 5 → 1 ≤ z → z ≤ 64 → goodT pr.length ns = false → OutC K "BadTrace" H E)
section
open LamX
end
end Ov
namespace Ov
open PySem PySem.Spec PyProof.Rows L2
/-- there is a farthest end -/
theorem far_ex {pr : List (Int × W)} (ok : PrOk pr) {ps : List (List Nat)} {st : List Int} {dn : Nat → List Nat} (ht : TrOk pr.length ps st) : ∃ m, Far pr ps dn m := by
  have h0 := ht.p.pos (by have := ok.l1; omega)
  have key : ∀ (n : Nat), n ≤ ps.length → 0 < n → ∃ m, (∃ i p, i < n ∧ ps[i]? = some p ∧ m = bgn pr ps dn i + psz pr p) ∧ ∀ i p, i < n → ps[i]? = some p → bgn pr ps dn i + psz pr p ≤ m := by
    intro n
    induction n with
    | zero => intro _ h; omega
    | succ n ih =>
      intro hn _
      obtain ⟨p, hp⟩ : ∃ p, ps[n]? = some p := ⟨_, List.getElem?_eq_getElem (by omega)⟩
      by_cases h : n = 0
      · subst h
        exact ⟨_, ⟨0, p, by omega, hp, rfl⟩, fun i q hi hq => by
          obtain rfl : i = 0 := by omega
          obtain rfl := Option.some.inj (hp.symm.trans hq)
          exact Int.le_refl _⟩
      · obtain ⟨m, ⟨i, q, hi, hq, e⟩, hm⟩ := ih (by omega) (by omega)
        by_cases c : bgn pr ps dn n + psz pr p ≤ m
        · refine ⟨m, ⟨i, q, by omega, hq, e⟩, fun j r hj hr => ?_⟩
          by_cases ej : j = n
          · subst ej
            obtain rfl := Option.some.inj (hp.symm.trans hr)
            exact c
          · exact hm j r (by omega) hr
        · refine ⟨_, ⟨n, p, by omega, hp, rfl⟩, fun j r hj hr => ?_⟩
          by_cases ej : j = n
          · subst ej
            obtain rfl := Option.some.inj (hp.symm.trans hr)
            exact Int.le_refl _
          · have := hm j r (by omega) hr
            omega
  obtain ⟨m, ⟨i, p, _, hp, e⟩, h⟩ := key ps.length (Nat.le_refl _) h0
  exact ⟨m, ⟨i, p, hp, e⟩, fun j q hq => h j q (List.getElem?_eq_some_iff.mp hq).1 hq⟩
end Ov
namespace Ov
open PySem PySem.Spec PyProof.Rows L2
/-- there are cells -/
theorem cells_ex {pr : List (Int × W)} {ps : List (List Nat)} (hp : PInv pr.length ps) {dn : Nat → List Nat} : ∃ cs, Cells pr ps dn cs := by
  have key : ∀ f, ∃ z : Int, f < pr.length → ∀ i p j, ps[i]? = some p → p[j]? = some f → z = bgn pr ps dn i + psz pr (p.take j) := fun f => by
    by_cases h : f < pr.length
    · obtain ⟨i, p, j, e1, e2⟩ := hp.stands h
      refine ⟨bgn pr ps dn i + psz pr (p.take j), fun _ i' p' j' d1 d2 => ?_⟩
      obtain ⟨rfl, rfl⟩ := hp.uniq e1 e2 d1 d2
      obtain rfl := Option.some.inj (e1.symm.trans d1)
      rfl
    · exact ⟨0, fun z => absurd z h⟩
  refine ⟨(List.range pr.length).map fun f => (key f).choose, by rw [List.length_map, List.length_range], fun i p j f d1 d2 => ?_⟩
  have hf := hp.lt (List.mem_of_getElem? d1) (List.mem_of_getElem? d2)
  rw [List.getElem?_map, List.getElem?_range hf]
  exact congrArg some ((key f).choose_spec hf i p j d1 d2)
end Ov

/-! ### costs of traces: looked at twice, longer, from a fuller room; no less than what is entered -/
namespace Ov
open PySem PySem.Spec PyProof.Rows L2
section
variable {wys : List (List Nat)} {L : List Lay} {far : Nat}
theorem tsum_cons (s : List (Option Cnt) × Nat) (f : Nat) (b : List Nat) : tsum wys L s (f :: b) = tsum wys L (tstep wys L s f) b := rfl
theorem tstep_len (s : List (Option Cnt) × Nat) (f : Nat) : (tstep wys L s f).1.length = s.1.length := by
  unfold tstep
  exact brgs_len L _ _
theorem tsum_len : ∀ (ns : List Nat) (s : List (Option Cnt) × Nat), (tsum wys L s ns).1.length = s.1.length
  | [], s => rfl
  | f :: r, s => by
    rw [tsum_cons, tsum_len r, tstep_len]
theorem way_or (f : Nat) : (wys[f]?.getD [] : List Nat) = [] ∨ (wys[f]?.getD [] : List Nat) ∈ wys := by
  cases h : wys[f]? with
  | none => exact .inl rfl
  | some w => exact .inr (List.mem_of_getElem? h)
/-- marks of different parts differ -/
def Marks (L : List Lay) : Prop := ∀ q r, ∀ e ∈ lyr L q, ∀ d ∈ lyr L r, e.2 = d.2 → q = r
end
/-! ### no less than what is entered -/
section
variable {wys : List (List Nat)} {L : List Lay} {far : Nat}
end
theorem marks_lays {pr : List (Int × W)} {ps : List (List Nat)} (hp : PInv pr.length ps) {cs : List Int} : Marks (laysF pr cs ps) := by
  have part : ∀ {q : Nat} {e : Nat × Cnt}, e ∈ lyr (laysF pr cs ps) q → prt ps e.2.1 = q := by
    intro q e he
    rw [lyr_lays] at he
    cases hq : ps[q]? with
    | none =>
      rw [hq] at he
      cases he
    | some p =>
      rw [hq] at he
      obtain ⟨f, hf, h2⟩ := List.mem_flatMap.mp he
      obtain ⟨n, _, h3⟩ := List.mem_map.mp h2
      subst h3
      exact prt_eq hp hq hf
  intro q r e he d hd z
  rw [← part he, ← part hd, z]
end Ov

/-! ### the law's own renaming (k07): promises -/
namespace Ov
open PySem PySem.Spec PyProof.Rows L2
theorem WsAt.app {H : Hp} : ∀ {us vs : List V} {ws xs : List W}, WsAt H us ws → WsAt H vs xs → WsAt H (us ++ vs) (ws ++ xs)
  | _, _, _, _, .nil, r => r
  | _, _, _, _, .cons a l, r => .cons a (WsAt.app l r)
end Ov

/-! ### the tree by other numbers, as the law sorts it (k07) -/
namespace Ov
open PySem PySem.Spec PyProof.Rows L2
section
variable {n : Nat} {ns : List Nat}
end
def intsN (q : List Nat) : List Int := q.map fun (x : Nat) => (x : Int)
section
variable {n : Nat} {ns : List Nat} {ps qs os : List (List Nat)}
section
variable {p : Nat → Nat} {st st' : List Int}
end
end
end Ov
namespace Ov
open PySem PySem.Spec PyProof.Rows L2
theorem nV_of (q : List Nat) : nV q = (intsN q).map V.int := nV_ints q
end Ov
namespace Ov
open PySem PySem.Spec PyProof.Rows L2
/-- a part, as data -/
def partD (p : List Nat) : PyData := .tuple ((intsN p).map PyData.int)
theorem part_dp {K : PySem.W.Frag} {H : Hp} {v : V} {p : List Nat} (h : PartAt H v p) : Dp K H v (partD p) := by
  obtain ⟨b, rfl, e⟩ := h
  rw [nV_of] at e
  exact .tup (SqT.of e) (dpInts _)
theorem parts_dp {K : PySem.W.Frag} {H : Hp} {vs : List V} {ps : List (List Nat)} (h : Paired (PartAt H) vs ps) : DpAll K H vs (ps.map partD) := by
  induction h with
  | nil => exact .nil
  | cons r _ ih => exact .cons (part_dp r) ih
theorem intsN_inj : ∀ {l m : List Nat}, intsN l = intsN m → l = m
  | [], [], _ => rfl
  | [], _ :: _, h => by cases h
  | _ :: _, [], h => by cases h
  | a :: l, b :: m, h => by
    obtain ⟨h1, h2⟩ := List.cons.inj (show (a : Int) :: intsN l = (b : Int) :: intsN m from h)
    rw [intsN_inj h2, Int.ofNat_inj.mp h1]
end Ov
namespace Ov
open PySem PySem.Spec PyProof.Rows L2
end Ov
namespace Ov
open PySem PySem.Spec PyProof.Rows L2
end Ov

/-! ### papers as data -/
namespace Ov
open PySem PySem.Spec PyProof.Rows L2
/-- what may be: whether a number, ways to which functions -/
abbrev Wo := Bool × List Nat
def Wo.has (a : Wo) : Wt → Prop
  | .num _ => a.1 = true
  | .way f => f ∈ a.2
def Wo.le (a b : Wo) : Prop := ∀ x, a.has x → b.has x
abbrev no : Wo := (false, [])
abbrev nu : Wo := (true, [])
def uni (a b : Wo) : Wo := (a.1 || b.1, (List.range 8).filter fun k => decide (k ∈ a.2 ∨ k ∈ b.2))
/-- rising, of functions below n -/
structure WoOk (n : Nat) (a : Wo) : Prop where
  up : a.2.Pairwise (· < ·)
  lt : ∀ k ∈ a.2, k < n
theorem no_ok (n : Nat) : WoOk n no := ⟨.nil, fun _ h => nomatch h⟩
theorem Wo.le.refl (a : Wo) : a.le a := fun _ h => h
theorem Wo.le.trans {a b c : Wo} (h : a.le b) (g : b.le c) : a.le c := fun x z => g x (h x z)
theorem sorted_sub : ∀ (m l : List Nat), l.Pairwise (· < ·) → m.Pairwise (· < ·) → (∀ x ∈ l, x ∈ m) → l.Sublist m
  | [], l, _, _, h => by
    cases l with
    | nil => exact .slnil
    | cons a l => exact absurd (h a List.mem_cons_self) (fun z => nomatch z)
  | b :: m, l, hl, hm, h => by
    cases l with
    | nil => exact List.nil_sublist _
    | cons a l =>
      have pl := List.pairwise_cons.mp hl
      have pm := List.pairwise_cons.mp hm
      by_cases e : a = b
      · subst e
        refine .cons₂ _ (sorted_sub m l pl.2 pm.2 fun x hx => ?_)
        rcases List.mem_cons.mp (h x (List.mem_cons_of_mem _ hx)) with z | z
        · have := pl.1 x hx; omega
        · exact z
      · refine .cons _ (sorted_sub m (a :: l) hl pm.2 fun x hx => ?_)
        have am : a ∈ m := by
          rcases List.mem_cons.mp (h a List.mem_cons_self) with z | z
          · exact absurd z e
          · exact z
        have ab := pm.1 a am
        rcases List.mem_cons.mp (h x hx) with z | z
        · rcases List.mem_cons.mp hx with y | y
          · rw [y]; exact am
          · have := pl.1 x y; omega
        · exact z
def Wo.sz (a : Wo) : Nat := (if a.1 then 1 else 0) + a.2.length
theorem Wo.le.sub {a b : Wo} {n : Nat} (ha : WoOk n a) (hb : WoOk n b) (h : a.le b) : a.2.Sublist b.2 := sorted_sub _ _ ha.up hb.up fun x hx => h (.way x) hx
theorem Wo.le.sz {a b : Wo} {n : Nat} (ha : WoOk n a) (hb : WoOk n b) (h : a.le b) : a.sz ≤ b.sz := by
  have h1 := (h.sub ha hb).length_le
  have h2 := h (.num 0)
  unfold Wo.sz
  simp only [Wo.has] at h2
  cases e : a.1 <;> cases e2 : b.1 <;> simp_all <;> omega
theorem Wo.le.eq {a b : Wo} {n : Nat} (ha : WoOk n a) (hb : WoOk n b) (h : a.le b) (g : b.sz ≤ a.sz) : a = b := by
  have h1 := (h.sub ha hb).length_le
  have h2 := h (.num 0)
  unfold Wo.sz at g
  simp only [Wo.has] at h2
  have e1 : a.1 = b.1 := by cases e : a.1 <;> cases e2 : b.1 <;> simp_all <;> omega
  rw [e1] at g
  exact Prod.ext e1 ((h.sub ha hb).eq_of_length_le (by omega))
theorem Wo.sz_le {a : Wo} {n : Nat} (ha : WoOk n a) (n8 : n ≤ 8) : a.sz ≤ 9 := by
  have h : a.2.Sublist (List.range 8) := sorted_sub _ _ ha.up List.pairwise_lt_range fun x hx => List.mem_range.mpr (by have := ha.lt x hx; omega)
  have := h.length_le
  rw [List.length_range] at this
  unfold Wo.sz
  split <;> omega
/-! words -/
abbrev Pap := List (Wo × Wo)
def Pap.came (p : Pap) (f : Nat) : Wo := (p.getD f (no, no)).1
def Pap.tells (p : Pap) (f : Nat) : Wo := (p.getD f (no, no)).2
structure PapOk (n : Nat) (p : Pap) : Prop where
  len : p.length = n
  ok : ∀ x ∈ p, WoOk n x.1 ∧ WoOk n x.2
theorem PapOk.came {n : Nat} {p : Pap} (h : PapOk n p) (f : Nat) : WoOk n (p.came f) := by
  unfold Pap.came
  rw [List.getD_eq_getElem?_getD]
  cases e : p[f]? with
  | none => exact no_ok n
  | some x => exact (h.ok x (List.mem_of_getElem? e)).1
theorem PapOk.tells {n : Nat} {p : Pap} (h : PapOk n p) (f : Nat) : WoOk n (p.tells f) := by
  unfold Pap.tells
  rw [List.getD_eq_getElem?_getD]
  cases e : p[f]? with
  | none => exact no_ok n
  | some x => exact (h.ok x (List.mem_of_getElem? e)).2
def unis (p : Pap) (fs : List Nat) : Wo := fs.foldl (fun t f => uni t (p.tells f)) no
/-- what a word may be, by what its arms may be -/
def wop (p : Pap) (c : Wo) (o : Op) (g : Int) (ws : List Wo) : Wo := match o with
  | .arg => c
  | .way => (false, [g.toNat])
  | .ife => uni (ws.getD 1 no) (ws.getD 2 no)
  | .thn => ws.getD 1 no
  | .call => unis p [g.toNat]
  | .through => unis p (ws.getD 0 no).2
  | _ => nu
abbrev Row := Op × Int × List Nat
/-- what the words from the b-th on may be -/
def sol (p : Pap) (c : Wo) : Nat → List Row → List Wo
  | _, [] => []
  | b, r :: rs => wop p c r.1 r.2.1 (r.2.2.map fun j => (sol p c (b + 1) rs).getD (j - (b + 1)) no) :: sol p c (b + 1) rs
/-! what is entered, what is handed on -/
def ents (full : List Wo) (r : Row) : List Nat := match r.1 with
  | .call => [r.2.1.toNat]
  | .through => (full.getD (r.2.2.getD 0 0) no).2
  | _ => []
def hand (rows : List Row) (full : List Wo) : List (Nat × Wo) := rows.flatMap fun r => (ents full r).map fun c => (c, full.getD (r.2.2.getLastD 0) no)
def step1 (cm : List Wo) (x : Nat × Wo) : List Wo := cm.set x.1 (uni (cm.getD x.1 no) x.2)
def askF (p : Pap) (st : List Wo × List Wo) (f : Nat) (b : W) : List Wo × List Wo :=
  if p.came f = no then st else
    ((hand (b.rows 0) (sol p (p.came f) 0 (b.rows 0))).foldl step1 st.1, st.2.set f ((sol p (p.came f) 0 (b.rows 0)).getD 0 no))
def askL (p : Pap) : Nat → List W → List Wo × List Wo → List Wo × List Wo
  | _, [], st => st
  | f, b :: bs, st => askL p (f + 1) bs (askF p st f b)
def asked (bs : List W) (p : Pap) : Pap := let st := askL p 0 bs ((List.replicate bs.length no).set 0 nu, List.replicate bs.length no)
  st.1.zip st.2
end Ov

/-! ### set(xs) of a list of ints, as a set that can be walked -/
namespace Ov
open PySem PySem.Spec PyProof.Rows L2
abbrev newSet (w : World) : Obj := { cls := .type "set", dict := none, data := .set #[] 0 (.fresh 0 0 (!w.params.followText "set-order")) }
abbrev hSet (w : World) (h : Heap) : Heap := h.push (newSet w)
section
variable {P : Program} {w : World} {A : Around} {E : Value → Shared → Prop} {s : Shared}
theorem hSet_at (h : Heap) : (hSet w h).get? h.objs.size = some (newSet w) := Heap.get?_push_size _ rfl
theorem hSet_old {h : Heap} {b : Addr} {o : Obj} (e : h.get? b = some o) : (hSet w h).get? b = some o := Heap.get?_push_of_some _ e
/-- what set.__init__ leaves -/
def SetDone (w : World) (s : Shared) (ns : List Int) (E : Value → Shared → Prop) : Result → Shared → Prop :=
  wants (fun r z => r = .none ∧ ∃ (h' : Heap) (tk c : Nat), z = { s with heap := h', toks := tk } ∧ SetR w h' s.heap.objs.size (fun j => decide (j ∈ ns)) c ∧ c ≤ ns.length ∧ ∀ b o, s.heap.get? b = some o → h'.get? b = some o) E
set_option maxHeartbeats 3200000 in
theorem set_init_list {l : Addr} {items : Array Value} {ns : List Int} (hh : A.handled = none) (hl : s.heap.IsList l items) (hit : IntsAre items.toList ns) (hb : ns.length + 1 < scanBound) :
    codeAny (model P w) A (.call (.builtin "set.__init__") ⟨[.ref s.heap.objs.size, .ref l], []⟩) (SetDone w s ns E) { s with heap := hSet w s.heap } := by
  have len : items.size = ns.length := by
    rw [← Array.length_toList]
    exact IntsAre.length hit
  have tyS : Shared.TypeIs { s with heap := hSet w s.heap } (.ref s.heap.objs.size) "set" := ⟨_, hSet_at s.heap, rfl⟩
  refine codeAny_call_builtin F.called_set.init.plain F.entry_set_init (check_set_init_1 tyS ?_)
  rcases hl with ⟨⟨lc, ld, lt, ls⟩, lo, lcl, nl, ldt⟩
  simp only at lcl ldt
  subst lcl ldt
  have lo2 := hSet_old (w := w) lo
  have isL : (hSet w s.heap).IsList l items := ⟨_, lo2, rfl, nl, rfl⟩
  have k1 := F.sub_list_set
  have k2 := F.sub_list_frozenset
  have k3 : (Value.type "list" == Value.type "dict") = false := by decide
  unfold Builtin.«set.__init__» noKeywords Builtin.Frozenset.updateFrom
  generalize hPI : pyIter = PI
  wp_walk
  subst hPI
  refine wpAny_pyIter_list isL (wpAny_bind (wpAny_runValue ?_))
  have ll : l < s.heap.objs.size := Heap.lt_size lo
  have sz : (hSet w s.heap).objs.size = s.heap.objs.size + 1 := Heap.size_push ..
  have hne : l ≠ (hSet w s.heap).objs.size := by
    rw [sz]
    exact Nat.ne_of_lt (Nat.lt_succ_of_lt ll)
  refine set_update_ints ((Walks.list ?hh _ l hne items).toS) s.heap.objs.size (fun z => ?_) ns len hb (fun i v hv => ?_) (items.size - 0) 0 _ (by omega) (Nat.zero_le _) ⟨⟨_, Heap.get?_push_size _ rfl, rfl, rfl⟩, isL.push _⟩ ⟨0, Nat.le_refl 0, setR_new_at (Heap.get?_push_of_some _ (hSet_at s.heap))⟩ ?_
  case hh => simp [hh]
  · rcases List.mem_cons.mp z with z | z
    · rw [sz] at z
      exact Nat.ne_of_lt (Nat.lt_succ_self _) z
    · exact Nat.ne_of_gt ll (List.mem_singleton.mp z)
  · have hi : i < ns.length := by
      rw [← len]
      exact (Array.getElem?_eq_some_iff.mp hv).1
    obtain ⟨t, e⟩ := PyProof.Rows.IntsAre.int_at hit i v (by rw [Array.getElem?_toList]; exact hv)
    refine ⟨ns[i], t, List.getElem?_eq_getElem hi, ?_⟩
    rw [e, List.getD_eq_getElem?_getD, List.getElem?_eq_getElem hi] <;> rfl
  · rintro ⟨h', g', d', tk', os'⟩ c' mv le R
    obtain rfl : g' = s.gens := mv.gens
    obtain rfl : d' = s.drawn := mv.drawn
    obtain rfl : os' = s.os := mv.os
    show wpAny _ _ _ _ _ _
    refine wpAny_pure ?_
    show wpAny _ _ (ret Value.none) _ _ _
    refine wpAny_pure ⟨rfl, h', tk', c', rfl, R, by omega, fun b o e => ?_⟩
    have lb : b < s.heap.objs.size := Heap.lt_size e
    refine mv.heap b o (fun z => ?_) (Heap.get?_push_of_some _ (hSet_old e))
    rcases List.mem_cons.mp z with z | z
    · exact Nat.ne_of_lt lb z
    · have z2 := List.mem_singleton.mp z
      rw [sz] at z2
      exact Nat.ne_of_lt (Nat.lt_succ_of_lt lb) z2
set_option maxHeartbeats 3200000 in
theorem call_set_listI {l : Addr} {items : Array Value} (ns : List Int) {Q : Value → Shared → Prop} (hh : A.handled = none) (hl : s.heap.IsList l items) (hit : IntsAre items.toList ns) (hb : ns.length + 1 < scanBound)
    (h : ∀ (h' : Heap) (tk c : Nat), SetR w h' s.heap.objs.size (fun j => decide (j ∈ ns)) c → c ≤ ns.length → (∀ b o, s.heap.get? b = some o → h'.get? b = some o) → Q (.ref s.heap.objs.size) { s with heap := h', toks := tk }) :
    wpAny (model P w) A (call (.type "set") [.ref l]) Q E s := by
  rcases F.called_set.mro with ⟨c, tl, hmro⟩
  have q1 := F.called_set.made
  have q2 := F.called_set.sub
  have q3 := F.called_set.notType
  have q4 := F.called_set.canCreate
  have q5 := F.typeCall_set_1 (.ref l)
  refine wpAny_call (codeAny_of_tree (show wpAny _ _ (callAny (.type "set") _) _ _ _ from ?_))
  refine wpAny_pure ⟨Code.quiet_builtin _ (by decide +kernel), codeAny_builtin F.entry_type_call ?_⟩
  rw [Around.under_plain (weight_type_call_type "set" [.ref l] []) rfl]
  repeat (any_goals (first | assumption | wp_step))
  refine codeAny_mono (code_set_led1 (.ref l) (E := E) (Q₁ := fun obj z => obj = .ref s.heap.objs.size ∧ z = { s with heap := hSet w s.heap }) ⟨rfl, rfl⟩) fun r z hr => ?_
  match r, hr with
  | .error e, hr => exact hr
  | .ok (.ret obj), hr =>
    obtain ⟨rfl, rfl⟩ := hr
    have tyS : Shared.TypeIs { s with heap := hSet w s.heap } (.ref s.heap.objs.size) "set" := ⟨_, hSet_at s.heap, rfl⟩
    have q6 := F.called_set.init.lookup
    have q7 := F.called_set.init.bind (.ref s.heap.objs.size)
    repeat (any_goals (first | assumption | wp_step))
    refine codeAny_mono (set_init_list (E := E) (by simp [hh]) hl hit hb) fun r2 z2 hr2 => ?_
    match r2, hr2 with
    | .error e, hr2 => exact hr2
    | .ok (.ret v), hr2 =>
      obtain ⟨rfl, h', tk, c', rfl, g1, g2, g3⟩ := hr2
      repeat (any_goals (first | assumption | wp_step))
      exact h _ _ _ g1 g2 g3
    | .ok .next, hr2 => exact hr2.elim
    | .ok .brk, hr2 => exact hr2.elim
    | .ok .cont, hr2 => exact hr2.elim
  | .ok .next, hr => exact hr.elim
  | .ok .brk, hr => exact hr.elim
  | .ok .cont, hr => exact hr.elim
end
end Ov

/-! ### papers in the heap -/
namespace Ov
open PySem PySem.Spec PyProof.Rows L2
section
variable {K : PySem.W.Frag} {H H' : Hp} {v : V}
end
/-! as data that is compared -/
section
variable {K : PySem.W.Frag} {H : Hp}
theorem nV_dp : ∀ l : List Nat, DpAll K H (nV l) (l.map fun (k : Nat) => PyData.int (k : Int))
  | [] => .nil
  | k :: l => .cons (.int _) (nV_dp l)
theorem paired_dp {α : Type} {R : V → α → Prop} {d : α → PyData} (f : ∀ v a, R v a → Dp K H v (d a)) : ∀ {vs : List V} {l : List α}, Paired R vs l → DpAll K H vs (l.map d)
  | _, _, .nil => .nil
  | _, _, .cons h r => .cons (f _ _ h) (paired_dp f r)
end
theorem canAll_map {α : Type} {d : α → PyData} (h : ∀ x, PyData.canLay0 (d x) = true) : ∀ l : List α, PyData.canLayAll0 (l.map d) = true
  | [] => by simp [PyData.canLayAll0]
  | x :: l => by
    show (PyData.canLay0 (d x) && PyData.canLayAll0 (l.map d)) = true
    rw [h, canAll_map h l]
    rfl
theorem depthAll_map {α : Type} {d : α → PyData} {k : Nat} (h : ∀ x, PyData.depth (d x) ≤ k) : ∀ l : List α, PyData.depthAll (l.map d) ≤ k
  | [] => by simp [PyData.depthAll]
  | x :: l => by
    show max (PyData.depth (d x)) (PyData.depthAll (l.map d)) ≤ k
    exact Nat.max_le.mpr ⟨h x, depthAll_map h l⟩
/-! set(xs), xs a tuple of ints -/
theorem WoOk.len {n : Nat} {a : Wo} (h : WoOk n a) (n8 : n ≤ 8) : a.2.length ≤ 8 := by
  have := Wo.sz_le h n8
  have h2 : a.2.Sublist (List.range 8) := sorted_sub _ _ h.up List.pairwise_lt_range fun x hx => List.mem_range.mpr (by have := h.lt x hx; omega)
  have := h2.length_le
  rwa [List.length_range] at this
/-! promises -/
end Ov

/-! ### papers: what is asked for rises with the paper; what comes in a run is in a paper that asks for itself -/
namespace Ov
open PySem PySem.Spec PyProof.Rows L2
def Pap.le (p q : Pap) : Prop := ∀ f, (p.came f).le (q.came f) ∧ (p.tells f).le (q.tells f)
section
variable {pr : List (Int × W)} {p q : Pap}
theorem Pap.none {n f : Nat} (hp : PapOk n p) (hf : n ≤ f) : p.came f = no ∧ p.tells f = no := by
  unfold Pap.came Pap.tells
  rw [List.getD_eq_getElem?_getD, List.getElem?_eq_none (by rw [hp.len]; exact hf)]
  exact ⟨rfl, rfl⟩
/-! the climb -/
def Pap.sz (p : Pap) : Nat := (p.map fun s => s.1.sz + s.2.sz).sum
theorem pap_sz_le : ∀ {p q : Pap} {n : Nat}, (∀ x ∈ p, WoOk n x.1 ∧ WoOk n x.2) → (∀ x ∈ q, WoOk n x.1 ∧ WoOk n x.2) → p.length = q.length → (∀ f : Nat, ((p.getD f (no, no)).1).le (q.getD f (no, no)).1 ∧ ((p.getD f (no, no)).2).le (q.getD f (no, no)).2) → p.sz ≤ q.sz ∧ (q.sz ≤ p.sz → p = q)
  | [], [], _, _, _, _, _ => ⟨Nat.le_refl _, fun _ => rfl⟩
  | [], _ :: _, _, _, _, h, _ => by cases h
  | _ :: _, [], _, _, _, h, _ => by cases h
  | x :: p, y :: q, n, hp, hq, hl, h => by
    have ih := pap_sz_le (p := p) (q := q) (n := n) (fun z hz => hp z (List.mem_cons_of_mem _ hz)) (fun z hz => hq z (List.mem_cons_of_mem _ hz)) (Nat.succ.inj hl) fun f => h (f + 1)
    have h0 : x.1.le y.1 ∧ x.2.le y.2 := h 0
    have ox := hp x List.mem_cons_self
    have oy := hq y List.mem_cons_self
    have s1 := h0.1.sz ox.1 oy.1
    have s2 := h0.2.sz ox.2 oy.2
    have ex : Pap.sz (x :: p) = (x.1.sz + x.2.sz) + Pap.sz p := by unfold Pap.sz; rw [List.map_cons, List.sum_cons]
    have ey : Pap.sz (y :: q) = (y.1.sz + y.2.sz) + Pap.sz q := by unfold Pap.sz; rw [List.map_cons, List.sum_cons]
    rw [ex, ey]
    refine ⟨by omega, fun g => ?_⟩
    rw [ih.2 (by omega), Prod.ext (h0.1.eq ox.1 oy.1 (by omega)) (h0.2.eq ox.2 oy.2 (by omega))]
theorem Pap.le.climb {n : Nat} (hp : PapOk n p) (hq : PapOk n q) (h : p.le q) (ne : q ≠ p) : p.sz < q.sz := by
  have z := pap_sz_le hp.ok hq.ok (by rw [hp.len, hq.len]) h
  rcases Nat.lt_or_ge p.sz q.sz with g | g
  · exact g
  · exact absurd (z.2 g).symm ne
end
end Ov

/-! ### a law's own papers (k09): an index, a walk of a list or a tuple; sums of tuples -/
namespace Ov
open PySem PySem.Spec PyProof.Rows L2
theorem eqvNilN (l : List Nat) : PyData.eqv (.list (l.map fun (k : Nat) => PyData.int (k : Int))) (.list []) = l.isEmpty := by
  cases l <;> simp [PyData.eqv, PyData.eqvAll]
theorem dNsL_sh (l : List Nat) : SeqAt.shaped (.list (l.map fun (k : Nat) => PyData.int (k : Int))) = true := by
  unfold SeqAt.shaped
  have d : PyData.depth (.list (l.map fun (k : Nat) => PyData.int (k : Int))) ≤ 64 := Nat.le_trans (Nat.succ_le_succ (depthAll_map (d := fun (k : Nat) => PyData.int (k : Int)) (k := 0) (fun _ => Nat.le_refl _) l)) (by decide)
  rw [show PyData.canLay0 (.list (l.map fun (k : Nat) => PyData.int (k : Int))) = true from canAll_map (fun _ => rfl) l, decide_eq_true d]
  rfl
end Ov

/-! ### what the law of k07 compares: trees as data, sums of sizes -/
namespace Ov
open PySem PySem.Spec PyProof.Rows L2
def treeD (ps : List (List Nat)) (st : List Int) : PyData := .tuple [.tuple (ps.map partD), .tuple (st.map PyData.int)]
theorem TrAt.dp {K : PySem.W.Frag} {H : Hp} {v : V} {ps : List (List Nat)} {st : List Int} (h : TrAt H v ps st) : Dp K H v (treeD ps st) := by
  obtain ⟨a, pa, sa, vs, rfl, e, e1, hp, e2⟩ := h
  exact .tup (SqT.of e) (.cons (.tup (SqT.of e1) (parts_dp hp)) (.cons (.tup (SqT.of e2) (dpInts st)) .nil))
theorem psz_range (pr : List (Int × W)) : ∀ n, n ≤ pr.length → psz pr (List.range n) = ((pr.take n).map (·.1)).sum
  | 0, _ => rfl
  | n + 1, h => by
    have e : pr[n]? = some pr[n] := List.getElem?_eq_getElem (by omega)
    rw [List.range_succ, psz_snoc, psz_range pr n (by omega), List.take_add_one, e, List.map_append, List.sum_append]
    have f : fsz pr n = pr[n].1 := by
      unfold fsz
      rw [e]
      rfl
    rw [f]
    show _ = _ + (pr[n].1 + 0)
    omega
theorem psz_whole (pr : List (Int × W)) : psz pr (List.range pr.length) = (pr.map (·.1)).sum := by
  rw [psz_range pr _ (Nat.le_refl _), List.take_length]
end Ov

/-! ### all trees of a few functions, as data (k16, k17, k21) -/
namespace Ov
open PySem PySem.Spec PyProof.Rows L2
/-- all that these parts may become by a function greater than all in them -/
def withF (ps : List (List Nat)) (f : Nat) : List (List (List Nat)) := ((List.range ps.length).map fun i => ps.set i ((ps[i]?.getD []) ++ [f])) ++ [ps ++ [[f]]]
def partN : Nat → List (List (List Nat))
  | 0 => [[]]
  | n + 1 => (partN n).flatMap fun ps => withF ps n
theorem withF_ok {ps q : List (List Nat)} {n : Nat} (h : PInv n ps) (hq : q ∈ withF ps n) : PInv (n + 1) q := by
  rcases List.mem_append.mp hq with z | z
  · obtain ⟨i, hi, rfl⟩ := List.mem_map.mp z
    have hil := List.mem_range.mp hi
    have e : ps[i]? = some ps[i] := List.getElem?_eq_getElem hil
    rw [e]
    exact h.set e
  · rw [List.mem_singleton.mp z]
    exact h.app
theorem partN_ok : ∀ (n : Nat) {ps : List (List Nat)}, ps ∈ partN n → PInv n ps
  | 0, ps, h => by
    rw [List.mem_singleton.mp h]
    exact ⟨(fun _ z => nomatch z), (fun _ z => nomatch z), List.Pairwise.nil, List.Perm.refl _⟩
  | n + 1, ps, h => by
    obtain ⟨q, hq, hp⟩ := List.mem_flatMap.mp h
    exact withF_ok (partN_ok n hq) hp
theorem withF_len {ps q : List (List Nat)} {n : Nat} (hq : q ∈ withF ps n) : q.length ≤ ps.length + 1 := by
  rcases List.mem_append.mp hq with z | z
  · obtain ⟨i, hi, rfl⟩ := List.mem_map.mp z
    rw [List.length_set]
    omega
  · rw [List.mem_singleton.mp z, List.length_append, List.length_singleton]
    exact Nat.le_refl _
theorem partN_len : ∀ (n : Nat) {ps : List (List Nat)}, ps ∈ partN n → ps.length ≤ n
  | 0, ps, h => by
    rw [List.mem_singleton.mp h]
    exact Nat.le_refl _
  | n + 1, ps, h => by
    obtain ⟨q, hq, hp⟩ := List.mem_flatMap.mp h
    have := withF_len hp
    have := partN_len n hq
    omega
theorem partN_size {n : Nat} (h : n ≤ 5) : (partN n).length ≤ 52 := by
  match n, h with
  | 0, _ => decide
  | 1, _ => decide
  | 2, _ => decide
  | 3, _ => decide
  | 4, _ => decide
  | 5, _ => decide
/-- the numbers from -1 to m - 1 -/
def stdI (m : Nat) : List Int := (List.range (m + 1)).map fun (i : Nat) => -1 + (i : Int)
def rowN (m : Nat) : Nat → List (List Int)
  | 0 => [[]]
  | k + 1 => (rowN m k).flatMap fun r => (stdI m).map fun x => r ++ [x]
theorem stdI_mem {m : Nat} {x : Int} : x ∈ stdI m ↔ -1 ≤ x ∧ x ≤ (m : Int) - 1 := by
  unfold stdI
  rw [List.mem_map]
  constructor
  · rintro ⟨i, hi, rfl⟩
    have := List.mem_range.mp hi
    omega
  · rintro ⟨h1, h2⟩
    exact ⟨(x + 1).toNat, List.mem_range.mpr (by omega), by omega⟩
theorem rowN_mem {m : Nat} : ∀ (k : Nat) {r : List Int}, r ∈ rowN m k ↔ r.length = k ∧ ∀ x ∈ r, -1 ≤ x ∧ x ≤ (m : Int) - 1
  | 0, r => by
    rw [rowN, List.mem_singleton]
    constructor
    · rintro rfl
      exact ⟨rfl, fun _ z => nomatch z⟩
    · rintro ⟨h, _⟩
      exact List.eq_nil_of_length_eq_zero h
  | k + 1, r => by
    rw [rowN, List.mem_flatMap]
    constructor
    · rintro ⟨q, hq, hr⟩
      obtain ⟨x, hx, rfl⟩ := List.mem_map.mp hr
      obtain ⟨h1, h2⟩ := (rowN_mem k).mp hq
      refine ⟨by rw [List.length_append, List.length_singleton, h1], fun y hy => ?_⟩
      rcases List.mem_append.mp hy with z | z
      · exact h2 y z
      · rw [List.mem_singleton.mp z]
        exact stdI_mem.mp hx
    · rintro ⟨h1, h2⟩
      obtain ⟨q, x, rfl⟩ : ∃ q x, r = q ++ [x] := by
        rcases List.eq_nil_or_concat r with e | ⟨q, x, e⟩
        · rw [e] at h1
          cases h1
        · exact ⟨q, x, by rw [e, List.concat_eq_append]⟩
      rw [List.length_append, List.length_singleton] at h1
      refine ⟨q, (rowN_mem k).mpr ⟨by omega, fun y hy => h2 y (List.mem_append_left _ hy)⟩, List.mem_map.mpr ⟨x, stdI_mem.mpr (h2 x (List.mem_append_right _ (List.mem_singleton.mpr rfl))), rfl⟩⟩
theorem rowN_size (m : Nat) : ∀ k, (rowN m k).length = (m + 1) ^ k
  | 0 => rfl
  | k + 1 => by
    have key : ∀ rs : List (List Int), (rs.flatMap fun r => (stdI m).map fun x => r ++ [x]).length = rs.length * (m + 1) := fun rs => by
      induction rs with
      | nil => rw [List.flatMap_nil, List.length_nil, Nat.zero_mul]
      | cons r l ih =>
        rw [List.flatMap_cons, List.length_append, ih, List.length_map, List.length_cons, Nat.succ_mul]
        unfold stdI
        rw [List.length_map, List.length_range]
        omega
    rw [rowN, key, rowN_size m k, Nat.pow_succ]
theorem rowN_few {m k : Nat} (hm : m ≤ 5) (hk : k ≤ 5) : (rowN m k).length ≤ 7776 := by
  rw [rowN_size]
  exact Nat.le_trans (Nat.pow_le_pow_left (show m + 1 ≤ 6 by omega) k) (Nat.pow_le_pow_right (show 0 < 6 by decide) hk)
/-- so many steps down from x -/
def undr (st : List Int) : Nat → Int → Int
  | 0, x => x
  | k + 1, x => undr st k (if x = -1 then -1 else st[x.toNat]?.getD (-1))
theorem undr_end (st : List Int) : ∀ k, undr st k (-1) = -1
  | 0 => rfl
  | k + 1 => by
    rw [undr, if_pos rfl]
    exact undr_end st k
theorem undr_succ (st : List Int) : ∀ (k : Nat) (x : Int), undr st (k + 1) x = if undr st k x = -1 then -1 else st[(undr st k x).toNat]?.getD (-1)
  | 0, x => rfl
  | k + 1, x => by
    rw [undr]
    exact undr_succ st k _
theorem undr_mono {st : List Int} {x : Int} {k : Nat} (h : undr st k x = -1) : ∀ j, undr st (k + j) x = -1
  | 0 => h
  | j + 1 => by
    rw [← Nat.add_assoc, undr_succ, undr_mono h j, if_pos rfl]
theorem undr_le {st : List Int} {x : Int} {k j : Nat} (h : undr st k x = -1) (hj : k ≤ j) : undr st j x = -1 := by
  obtain ⟨d, rfl⟩ := Nat.le.dest hj
  exact undr_mono h d
def fitB (st : List Int) : Bool := (List.range st.length).all fun x => decide (undr st st.length ((x : Nat) : Int) = -1)
/-- how deep x stands -/
def dep (st : List Int) : Nat → Int → Nat
  | 0, _ => 0
  | k + 1, x => if x = -1 then 0 else 1 + dep st k (st[x.toNat]?.getD (-1))
theorem dep_end (st : List Int) : ∀ k, dep st k (-1) = 0
  | 0 => rfl
  | k + 1 => by rw [dep, if_pos rfl]
theorem dep_more {st : List Int} : ∀ (k : Nat) {x : Int}, undr st k x = -1 → dep st (k + 1) x = dep st k x
  | 0, x, h => by
    have h : x = -1 := h
    rw [h, dep_end]
    rfl
  | k + 1, x, h => by
    by_cases c : x = -1
    · rw [c, dep_end, dep_end]
    · rw [undr, if_neg c] at h
      rw [dep, if_neg c, dep_more k h, dep, if_neg c]
theorem fit_ord {st : List Int} {m N : Nat} (hl : st.length = m) (hin : ∀ x ∈ st, -1 ≤ x ∧ x ≤ (m : Int) - 1) (h : ∀ x : Nat, x < m → undr st N (x : Int) = -1) : ∃ od : List Nat, od.Perm (List.range m) ∧ SInv od st := by
  have pm := List.mergeSort_perm (List.range m) fun x y => decide (dep st (N + 1) (x : Int) ≤ dep st (N + 1) (y : Int))
  have so := List.pairwise_mergeSort (le := fun (x y : Nat) => decide (dep st (N + 1) (x : Int) ≤ dep st (N + 1) (y : Int))) (fun a b c h1 h2 => by
    have := of_decide_eq_true h1
    have := of_decide_eq_true h2
    exact decide_eq_true (by omega)) (fun a b => by
    rcases Nat.le_total (dep st (N + 1) (a : Int)) (dep st (N + 1) (b : Int)) with z | z
    · rw [decide_eq_true z]
      rfl
    · rw [decide_eq_true z, Bool.or_true]) (List.range m)
  generalize (List.range m).mergeSort (fun x y => decide (dep st (N + 1) (x : Int) ≤ dep st (N + 1) (y : Int))) = od at pm so
  refine ⟨od, pm, fun t x hx => ?_⟩
  have hxm : x < m := List.mem_range.mp (pm.mem_iff.mp (List.mem_of_getElem? hx))
  have ex : st[x]? = some (st[x]'(by omega)) := List.getElem?_eq_getElem _
  obtain ⟨b1, b2⟩ := hin _ (List.getElem_mem (show x < st.length by omega))
  generalize st[x]'(by omega) = y at ex b1 b2
  by_cases c : y = -1
  · left
    rw [ex, c]
  · right
    obtain ⟨y, rfl⟩ : ∃ n : Nat, y = (n : Int) := ⟨y.toNat, by omega⟩
    have hy : y ∈ od := pm.mem_iff.mpr (List.mem_range.mpr (by omega))
    obtain ⟨j, hj⟩ := List.mem_iff_getElem?.mp hy
    refine ⟨j, y, ?_, hj, ex⟩
    have nx : ((x : Nat) : Int) ≠ -1 := by omega
    have d1 : dep st (N + 1) (x : Int) = 1 + dep st N (y : Int) := by
      rw [dep, if_neg nx, show ((x : Nat) : Int).toNat = x from rfl, ex]
      rfl
    have d2 : dep st (N + 1) (y : Int) = dep st N (y : Int) := dep_more N (h y (by omega))
    rcases Nat.lt_or_ge j t with z | z
    · exact z
    · exfalso
      obtain ⟨htl, et⟩ := List.getElem?_eq_some_iff.mp hx
      obtain ⟨hjl, ej⟩ := List.getElem?_eq_some_iff.mp hj
      rcases Nat.eq_or_lt_of_le z with e | z
      · subst e
        have : x = y := et.symm.trans ej
        subst this
        omega
      · have := of_decide_eq_true (List.pairwise_iff_getElem.mp so t j htl hjl z)
        rw [et, ej] at this
        omega
theorem down_undr {st : List Int} {x : Nat} {l : List Nat} (h : Down st x l) : undr st (l.length + 1) (x : Int) = -1 := by
  induction h with
  | base e =>
    rename_i x
    have nx : ((x : Nat) : Int) ≠ -1 := by omega
    show undr st 1 (x : Int) = -1
    rw [undr, if_neg nx, show ((x : Nat) : Int).toNat = x from rfl, e]
    rfl
  | @step x y l e _ ih =>
    have nx : ((x : Nat) : Int) ≠ -1 := by omega
    rw [List.length_append, List.length_singleton, undr, if_neg nx, show ((x : Nat) : Int).toNat = x from rfl, e]
    exact ih
/-- trees: the ways end -/
theorem fitB_iff {st : List Int} {m N : Nat} (hl : st.length = m) (hN : m ≤ N) (hin : ∀ x ∈ st, -1 ≤ x ∧ x ≤ (m : Int) - 1) : fitB st = true ↔ ∀ x : Nat, x < m → undr st N (x : Int) = -1 := by
  unfold fitB
  rw [List.all_eq_true, hl]
  constructor
  · intro h x hx
    exact undr_le (of_decide_eq_true (h x (List.mem_range.mpr hx))) hN
  · intro h x hx
    obtain ⟨od, pm, hs⟩ := fit_ord hl hin h
    obtain ⟨t, ht⟩ := List.mem_iff_getElem?.mp (pm.mem_iff.mpr hx)
    obtain ⟨l, h1, h2, _⟩ := hs.down t x ht
    have := (List.getElem?_eq_some_iff.mp ht).1
    have hlo : od.length = m := by rw [pm.length_eq, List.length_range]
    exact decide_eq_true (undr_le (down_undr h1) (by omega))
def standsN (m : Nat) : List (List Int) := (rowN m m).filter fitB
theorem standsN_mem {m : Nat} {st : List Int} : st ∈ standsN m ↔ st.length = m ∧ (∀ x ∈ st, -1 ≤ x ∧ x ≤ (m : Int) - 1) ∧ fitB st = true := by
  unfold standsN
  rw [List.mem_filter, rowN_mem, and_assoc]
theorem standsN_ok {ps : List (List Nat)} {n : Nat} {st : List Int} (hp : PInv n ps) (h : st ∈ standsN ps.length) : TrOk n ps st := by
  obtain ⟨h1, h2, h3⟩ := standsN_mem.mp h
  obtain ⟨od, a, b⟩ := fit_ord h1 h2 ((fitB_iff h1 (Nat.le_refl _) h2).mp h3)
  exact ⟨hp, h1, od, a, b⟩
def treesN (n : Nat) : List (List (List Nat) × List Int) := (partN n).flatMap fun ps => (standsN ps.length).map fun st => (ps, st)
theorem treesN_mem {n : Nat} {t : List (List Nat) × List Int} : t ∈ treesN n ↔ t.1 ∈ partN n ∧ t.2 ∈ standsN t.1.length := by
  unfold treesN
  rw [List.mem_flatMap]
  constructor
  · rintro ⟨ps, h1, h2⟩
    obtain ⟨st, h3, rfl⟩ := List.mem_map.mp h2
    exact ⟨h1, h3⟩
  · rintro ⟨h1, h2⟩
    exact ⟨t.1, h1, List.mem_map.mpr ⟨t.2, h2, rfl⟩⟩
theorem treesN_ok {n : Nat} {t : List (List Nat) × List Int} (h : t ∈ treesN n) : TrOk n t.1 t.2 := by
  obtain ⟨h1, h2⟩ := treesN_mem.mp h
  exact standsN_ok (partN_ok n h1) h2
theorem standsN_few {m : Nat} (hm : m ≤ 5) : (standsN m).length ≤ 7776 := Nat.le_trans (List.length_filter_le _ _) (rowN_few hm hm)
theorem treesN_few {n : Nat} (hn : n ≤ 5) : (treesN n).length ≤ 404352 := by
  have key : ∀ l : List (List (List Nat)), (∀ ps ∈ l, ps.length ≤ 5) → (l.flatMap fun ps => (standsN ps.length).map fun st => (ps, st)).length ≤ l.length * 7776 := fun l => by
    induction l with
    | nil => exact fun _ => Nat.zero_le _
    | cons p r ih =>
      intro h
      rw [List.flatMap_cons, List.length_append, List.length_map, List.length_cons]
      have := ih fun ps hp => h ps (List.mem_cons_of_mem _ hp)
      have := standsN_few (h p List.mem_cons_self)
      omega
  have h1 := key (partN n) fun ps hp => Nat.le_trans (partN_len n hp) hn
  have h2 := partN_size hn
  unfold treesN
  omega
end Ov

/-! ### rows[k][side] = both(rows[k][side], ..) (k08, k09, k11, k12) -/
namespace Ov
open PySem PySem.Spec PyProof.Rows L2
section
variable {K : PySem.W.Frag} {Kp : Hp → Prop} {n : Nat} {h c ra : Addr} {bs : List Addr} {H H' : Hp} {q : Pap}
theorem Dr.of {H H' : Hp} (d : Dr H h c) (st : ∀ b, b = h ∨ b = c → ∀ o, H b = some o → H' b = some o) : Dr H' h c :=
  let ⟨m, k, ns, h1, h2, h3⟩ := d
  ⟨m, k, ns, st _ (.inl rfl) _ h1, st _ (.inr rfl) _ h2, h3⟩
end
end Ov

/-! ### what is worked out without a write: values by what is true of them -/
namespace Ov
open PySem PySem.Spec PyProof.Rows L2
abbrev VP := Hp → V → Prop
section
variable {σ : L2.St} {Pre : Hp → Prop} {ta tb te : TE} {t : TA} {A B : VP} {As : List VP}
end
end Ov

/-! ### all trees in the heap; the promises of trees_of, stands_of, partitions -/
namespace Ov
open PySem PySem.Spec PyProof.Rows L2
def PtsAt (H : Hp) (v : V) (ps : List (List Nat)) : Prop := ∃ a us, v = .ref a ∧ H a = some (.tup us) ∧ Paired (PartAt H) us ps
def RowI (H : Hp) (v : V) (st : List Int) : Prop := ∃ a, v = .ref a ∧ H a = some (.tup (st.map V.int))
abbrev TreV (H : Hp) (v : V) (t : List (List Nat) × List Int) : Prop := TrAt H v t.1 t.2
theorem PtsAt.keep {H H' : Hp} {v : V} {ps : List (List Nat)} (k : Keep H H') (h : PtsAt H v ps) : PtsAt H' v ps := let ⟨a, us, e, h1, h2⟩ := h; ⟨a, us, e, k _ _ h1, L2.Paired.mapP h2 fun _ _ z => z.keep k⟩
theorem RowI.keep {H H' : Hp} {v : V} {st : List Int} (k : Keep H H') (h : RowI H v st) : RowI H' v st := let ⟨a, e, h1⟩ := h; ⟨a, e, k _ _ h1⟩
theorem TrAt.of {H : Hp} {t : Addr} {x y : V} {ps : List (List Nat)} {st : List Int} (e : H t = some (.tup [x, y])) (h1 : PtsAt H x ps) (h2 : RowI H y st) : TrAt H (.ref t) ps st := by
  obtain ⟨a, us, rfl, e1, hp⟩ := h1
  obtain ⟨b, rfl, e2⟩ := h2
  exact ⟨t, a, b, us, rfl, e, e1, hp, e2⟩
theorem smn (n : Nat) (h : n ≤ 1000000 := by omega) : n < sizeLine := Nat.lt_of_le_of_lt h (by decide)
theorem smln (n : Nat) (h : n ≤ 1000000 := by omega) : n ≤ sizeLine := Nat.le_of_lt (smn n h)
theorem cat_ld {K : PySem.W.Frag} {a b : Addr} {xs ys : List V} {H : Hp} {Q : VK} (ha : H a = some (.tup xs)) (hb : H b = some (.tup ys)) (hl : xs.length + ys.length ≤ 1000) (q : ∀ H' p, Same H H' → H' p = some (.tup (xs ++ ys)) → Q (.ref p) H') : rCatA K (.ref a) (.ref b) H Q :=
  ⟨a, b, xs, ys, rfl, rfl, SqT.of ha, SqT.of hb, sml _ hl, fun e => q H b (Same.refl H) (by rw [e]; exact hb), fun _ e => q H a (Same.refl H) (by rw [e, List.append_nil]; exact ha), fun _ _ p hp => q _ p (Same.new hp) upd_same⟩
theorem sl_to {K : PySem.W.Frag} {a : Addr} {xs : List V} {H : Hp} {Q : VK} {k : Nat} {hi : Option Int} (ehi : hi = some (k : Int)) (ha : H a = some (.tup xs)) (hk : k ≤ xs.length) (q : ∀ H' p, Same H H' → H' p = some (.tup (xs.take k)) → Q (.ref p) H') : rSlA K (.ref a) none hi H Q := by
  subst ehi
  refine ⟨a, xs, rfl, SqT.of ha, fun z => ?_, fun _ p hp => ?_⟩
  · have z := z.2
    rw [HT.sIx_nat, Nat.min_eq_left hk] at z
    exact q H a (Same.refl H) (by rw [z, List.take_length]; exact ha)
  · rw [cut_to _ _ hk]
    exact q _ p (Same.new hp) upd_same
theorem sl_from {K : PySem.W.Frag} {a : Addr} {xs : List V} {H : Hp} {Q : VK} {k : Nat} {lo : Option Int} (elo : lo = some (k : Int)) (ha : H a = some (.tup xs)) (hk : k ≤ xs.length) (q : ∀ H' p, Same H H' → H' p = some (.tup (xs.drop k)) → Q (.ref p) H') : rSlA K (.ref a) lo none H Q := by
  subst elo
  refine ⟨a, xs, rfl, SqT.of ha, fun z => ?_, fun _ p hp => ?_⟩
  · have z := z.1
    rw [HT.sIx_nat, Nat.min_eq_left hk] at z
    exact q H a (Same.refl H) (by rw [z, List.drop_zero]; exact ha)
  · rw [cut_from _ _ hk]
    exact q _ p (Same.new hp) upd_same
def spWithF : Sp := fun vs H Q _ => ∃ (v : V) (n : Nat) (ps : List (List Nat)), vs = [v, .int (n : Int)] ∧ PtsAt H v ps ∧ ps.length ≤ 8 ∧ (∀ p ∈ ps, p.length ≤ 8) ∧ ∀ H' r rs, Same H H' → H r = none → H' r = some (.lst rs) → Paired (PtsAt H') rs (withF ps n) → Q (.ref r) H'
def spPartitions : Sp := fun vs H Q _ => ∃ n : Nat, vs = [.int (n : Int)] ∧ n ≤ 5 ∧ ∀ H' r rs, Same H H' → H r = none → H' r = some (.lst rs) → Paired (PtsAt H') rs (partN n) → Q (.ref r) H'
def RgI (m : Nat) (st : List Int) : Prop := ∀ y ∈ st, -1 ≤ y ∧ y ≤ (m : Int) - 1
def spHasEndE : Sp := fun vs H Q _ => ∃ (a : Addr) (st : List Int) (x : Nat), vs = [.ref a, .int (x : Int)] ∧ H a = some (.tup (st.map V.int)) ∧ RgI st.length st ∧ x < st.length ∧ st.length ≤ 5 ∧ Q (.bl (decide (undr st st.length (x : Int) = -1))) H
def spStandsFitE : Sp := fun vs H Q _ => ∃ (v : V) (st : List Int), vs = [v, .int (st.length : Int)] ∧ RowI H v st ∧ RgI st.length st ∧ st.length ≤ 5 ∧ ∀ H', Same H H' → Q (.bl (fitB st)) H'
def spStandsOf : Sp := fun vs H Q _ => ∃ m : Nat, vs = [.int (m : Int)] ∧ m ≤ 5 ∧ ∀ H' r rs, Same H H' → H r = none → H' r = some (.lst rs) → Paired (RowI H') rs (standsN m) → Q (.ref r) H'
/-- the rows that the m-th list holds; none of them lies at S -/
def StsAt (S : Addr) (H : Hp) (v : V) (m : Nat) : Prop := ∃ a vs, v = .ref a ∧ a ≠ S ∧ H a = some (.lst vs) ∧ Paired (RowI H) vs (standsN m)
theorem StsAt.same {S : Addr} {H H' : Hp} {v : V} {m : Nat} (s : Same H H') (h : StsAt S H v m) : StsAt S H' v m := let ⟨a, vs, e, n, h1, h2⟩ := h; ⟨a, vs, e, n, s _ _ h1, L2.Paired.mapP h2 fun _ _ z => z.keep (Keep.same s)⟩
theorem StsAt.updS {S : Addr} {H : Hp} {v : V} {m : Nat} {o : HO} (k : Keep H (upd H S o)) (h : StsAt S H v m) : StsAt S (upd H S o) v m := let ⟨a, vs, e, n, h1, h2⟩ := h; ⟨a, vs, e, n, by rw [upd_ne n]; exact h1, L2.Paired.mapP h2 fun _ _ z => z.keep k⟩
def spTreesOf : Sp := fun vs H Q _ => ∃ n : Nat, vs = [.int (n : Int)] ∧ n ≤ 5 ∧ ∀ H' r rs, Same H H' → H r = none → H' r = some (.lst rs) → Paired (TreV H') rs (treesN n) → Q (.ref r) H'
theorem und_in {st : List Int} (h : RgI st.length st) : ∀ (k : Nat) {x : Int}, (-1 ≤ x ∧ x ≤ (st.length : Int) - 1) → -1 ≤ undr st k x ∧ undr st k x ≤ (st.length : Int) - 1
  | 0, _, hx => hx
  | k + 1, x, hx => by
    rw [undr]
    by_cases c : x = -1
    · rw [if_pos c]
      exact und_in h k (by omega)
    · rw [if_neg c]
      have e : st[x.toNat]? = some (st[x.toNat]'(by omega)) := List.getElem?_eq_getElem _
      rw [e]
      exact und_in h k (h _ (List.getElem_mem _))
theorem withF_size (ps : List (List Nat)) (n : Nat) : (withF ps n).length = ps.length + 1 := by
  unfold withF
  rw [List.length_append, List.length_map, List.length_range]
  rfl
theorem part_few {n : Nat} {ps : List (List Nat)} (h : PInv n ps) (h8 : n ≤ 8) : ∀ p ∈ ps, p.length ≤ 8 := fun p hp => Nat.le_trans (h.plen hp) h8
end Ov

/-! ### min(xs, default=None) and x < y of a cost and a tree (k16, k17, k21) -/
namespace Ov
open PySem PySem.Spec PyProof.Rows L2
/-- a cost and a tree -/
abbrev CT : Type := Int × (W.Tup (W.Tup Int) × W.Tup Int)
def ctO (n : Int) (t : List (List Nat) × List Int) : CT := (n, (⟨t.1.map fun p => ⟨intsN p⟩⟩, ⟨t.2⟩))
abbrev ctD (c : CT) : PyData := W.Datum.toD c
abbrev ctL (c d : CT) : Bool := W.DatumOrd.lt c d
theorem ctD_eq (n : Int) (t : List (List Nat) × List Int) : ctD (ctO n t) = .tuple [.int n, treeD t.1 t.2] := by
  show PyData.tuple [.int n, .tuple [.tuple ((t.1.map fun p => (⟨intsN p⟩ : W.Tup Int)).map W.Datum.toD), .tuple (t.2.map PyData.int)]] = _
  rw [List.map_map]
  rfl
theorem parts_back : ∀ {l m : List (List Nat)}, (l.map fun p => (⟨intsN p⟩ : W.Tup Int)) = m.map (fun p => ⟨intsN p⟩) → l = m
  | [], [], _ => rfl
  | [], _ :: _, h => by cases h
  | _ :: _, [], h => by cases h
  | p :: l, q :: m, h => by
    rw [List.map_cons, List.map_cons] at h
    obtain ⟨h1, h2⟩ := List.cons.inj h
    rw [intsN_inj (W.Tup.mk.inj h1), parts_back h2]
theorem ctO_inj {n m : Int} {t u : List (List Nat) × List Int} (h : ctO n t = ctO m u) : n = m ∧ t = u := by
  unfold ctO at h
  simp only [Prod.mk.injEq, W.Tup.mk.injEq] at h
  obtain ⟨h1, h2, h3⟩ := h
  refine ⟨h1, Prod.ext ?_ h3⟩
  exact parts_back h2
/-- min(xs, default=None) -/
def rMinCT (K : PySem.W.Frag) : List V → List V → Hp → VK → Prop := fun vs zs H Q => ∃ (a : Addr) (xs : List V) (cs : List CT), vs = [.ref a] ∧ zs = [.non] ∧ SqL K H a xs ∧ DpAll K H xs (cs.map ctD) ∧ (cs = [] → Q .non H) ∧
  ∀ (c : CT) (r : List CT) (i : Nat) (x : V), cs = c :: r → xs[i]? = some x → cs[i]? = some (W.minOf c r) → Q x H
theorem reads_nth {h : Heap} : ∀ {vs : List Value} {ds : List PyData} {as : List Addr}, ReadsAll h vs ds as → ∀ {i : Nat} {v : Value}, vs[i]? = some v → ∃ d bs, ds[i]? = some d ∧ Reads h v d bs
  | [], _, _, _, i, v, e => by cases i <;> cases e
  | u :: us, ds, as, r, i, v, e => by
    cases r with
    | cons h1 h2 =>
      cases i with
      | zero =>
        cases e
        exact ⟨_, _, rfl, h1⟩
      | succ i => exact reads_nth h2 e
theorem ct_units {cs : List CT} : PyData.depthAll (cs.map ctD) ≤ 8 := by
  induction cs with
  | nil => exact Nat.zero_le _
  | cons c r ih =>
    rw [List.map_cons]
    simp only [PyData.depthAll]
    have h : (ctD c).depth ≤ 8 := Nat.le_trans (W.Datum.depth_le c) (by decide)
    exact Nat.max_le.mpr ⟨h, ih⟩
theorem ctD_inj {c d : CT} (e : ctD c = ctD d) : c = d := by
  have h1 : PyData.eqv (ctD c) (ctD d) = decide (c = d) := W.Datum.eqv c d
  have h2 : PyData.eqv (ctD d) (ctD d) = decide (d = d) := W.Datum.eqv d d
  rw [e, h2, decide_eq_true rfl] at h1
  exact of_decide_eq_true h1.symm
theorem cr_minCT {X : Cx} (hc : X.calm = true) (hu : X.A.units + 64 < cLine) : CallRK X (.builtin "min") [Str.ofString "default"] (rMinCT X.K) := by
  intro pins s σ H vs0 zs us ws Q I r1 r2 h
  obtain ⟨a, xs, cs, rfl, rfl, ea, hd, q0, q1⟩ := h
  obtain ⟨u, rfl, ru⟩ := r1.one
  obtain ⟨w', rfl, rw'⟩ := r2.one
  obtain rfl : u = Value.ref a := ru
  obtain rfl : w' = Value.none := rw'
  obtain ⟨its, rv, hl, hz⟩ := I.list ea
  obtain ⟨as, hr⟩ := Dp.readsAll I _ _ its hd rv
  have dl := ct_units (cs := cs)
  show wpAny _ _ (PySem.call (.builtin "min") [.ref a] [(Str.ofString "default", .none)]) _ _ _
  refine W.min_list_default (I.ok.hd hc) hl.isList hr (W.alikeAll_datum cs) (by omega) (fun e h' tk k => ?_) fun y ys i v h' tk bs e ei rd k => ?_
  · exact ⟨.non, H, I.kept k, rfl, q0 (List.map_eq_nil_iff.mp e)⟩
  · obtain ⟨c, r, rfl⟩ : ∃ c r, cs = c :: r := by
      cases cs with
      | nil => cases e
      | cons c r => exact ⟨c, r, rfl⟩
    rw [List.map_cons] at e
    cases e
    have ei : its[i]? = some v := by rw [← ei]; simp
    obtain ⟨d, bs', hd', rd'⟩ := reads_nth hr ei
    have ed : d = ctD (W.minOf c r) := by
      rw [W.minD_map] at rd
      exact ((Reads.unique (W.reads_keeps k rd') _ _ rd).1)
    obtain ⟨x, hx, rx⟩ : ∃ x, xs[i]? = some x ∧ RelV x v := by
      have hil := (List.getElem?_eq_some_iff.mp ei).1
      rw [← rv.length] at hil
      refine ⟨_, List.getElem?_eq_getElem hil, ?_⟩
      obtain ⟨w2, e2, r3⟩ := rv.get (List.getElem?_eq_getElem hil)
      rw [ei] at e2
      cases e2
      exact r3
    refine ⟨x, H, I.kept k, rx, q1 c r i x rfl hx ?_⟩
    rw [List.getElem?_map] at hd'
    obtain ⟨z, hz', ez⟩ := Option.map_eq_some_iff.mp hd'
    rw [hz']
    exact congrArg some (ctD_inj (ez.trans ed))
/-- x < y -/
def rLtCT (K : PySem.W.Frag) : R2 := fun x y H Q => ∃ c d : CT, Dp K H x (ctD c) ∧ Dp K H y (ctD d) ∧ Q (.bl (ctL c d)) H
theorem op_ltCT {X : Cx} (hu : X.A.units + 64 < cLine) : OpR X (compareOp .Lt) (rLtCT X.K) := by
  intro pins s σ H x y v u Q I rx ry h
  obtain ⟨c, d, hx, hy, q⟩ := h
  obtain ⟨as, r1⟩ := Dp.reads I _ x v hx rx
  obtain ⟨bs, r2⟩ := Dp.reads I _ y u hy ry
  have hd : W.Datum.depth CT ≤ 8 := by decide
  exact W.lt_datum ⟨as, r1⟩ ⟨bs, r2⟩ (by omega) ⟨.bl (ctL c d), H, I, rfl, q⟩
end Ov

/-! ### cheapest: what is told, as data (k16, k17, k21) -/
namespace Ov
open PySem PySem.Spec PyProof.Rows L2
abbrev Tre : Type := List (List Nat) × List Int
noncomputable def dnC (n : Nat) (t : Tre) : Nat → List Nat := Classical.epsilon fun dn => Dn n t.1 t.2 dn
noncomputable def csC (pr : List (Int × W)) (t : Tre) : List Int := Classical.epsilon fun cs => Cells pr t.1 (dnC pr.length t) cs
noncomputable def farC (pr : List (Int × W)) (t : Tre) : Int := Classical.epsilon fun m => Far pr t.1 (dnC pr.length t) m
/-- what a trace costs by a tree -/
noncomputable def cstC (pr : List (Int × W)) (t : Tre) (ns : List Nat) : Nat := costT (waysF pr.length t.1 (dnC pr.length t)) (laysF pr (csC pr t) t.1) 64 ns
theorem dnC_ok {n : Nat} {t : Tre} (h : TrOk n t.1 t.2) : Dn n t.1 t.2 (dnC n t) := Classical.epsilon_spec h.dn
theorem csC_ok {pr : List (Int × W)} {t : Tre} (h : TrOk pr.length t.1 t.2) : Cells pr t.1 (dnC pr.length t) (csC pr t) := Classical.epsilon_spec (cells_ex h.p)
theorem farC_ok {pr : List (Int × W)} {t : Tre} (ok : PrOk pr) (h : TrOk pr.length t.1 t.2) : Far pr t.1 (dnC pr.length t) (farC pr t) := Classical.epsilon_spec (far_ex ok h)
theorem csC_uniq {pr : List (Int × W)} {t : Tre} {cs : List Int} (h : TrOk pr.length t.1 t.2) (hc : Cells pr t.1 (dnC pr.length t) cs) : cs = csC pr t := hc.uniq h.p (csC_ok h)
/-! the same sizes, other bodies -/
def bareP (pr : List (Int × W)) : List (Int × W) := pr.map fun e => (e.1, W.mk .arg 0 [])
theorem bareP_len (pr : List (Int × W)) : (bareP pr).length = pr.length := List.length_map _
theorem bareP_fsz (pr : List (Int × W)) : fsz (bareP pr) = fsz pr := by
  funext f
  unfold fsz bareP
  rw [List.getElem?_map]
  cases pr[f]? <;> rfl
theorem bareP_ok {pr : List (Int × W)} (ok : PrOk pr) : PrOk (bareP pr) := by
  refine ⟨by rw [bareP_len]; exact ok.l1, by rw [bareP_len]; exact ok.l8, fun e he => ?_⟩
  obtain ⟨x, hx, rfl⟩ := List.mem_map.mp he
  obtain ⟨a, b, _, _⟩ := ok.f x hx
  exact ⟨a, b, .mk rfl True.intro (fun _ h => by cases h), by rw [W.size_mk]; decide⟩
theorem bareP_cells {pr : List (Int × W)} {ps : List (List Nat)} {dn : Nat → List Nat} {cs : List Int} (h : Cells (bareP pr) ps dn cs) : Cells pr ps dn cs := by
  unfold Cells bgn psz at h ⊢
  rw [bareP_len, bareP_fsz] at h
  exact h
theorem bareP_lays (pr : List (Int × W)) (cs : List Int) (ps : List (List Nat)) : laysF (bareP pr) cs ps = laysF pr cs ps := by
  unfold laysF layP
  rw [bareP_fsz]
/-! the least -/
theorem minOf_mem (x : CT) (xs : List CT) : W.minOf x xs ∈ x :: xs := by
  unfold W.minOf
  induction xs generalizing x with
  | nil => exact List.mem_singleton.mpr rfl
  | cons y r ih =>
    rw [List.foldl_cons]
    rcases List.mem_cons.mp (ih (if W.DatumOrd.lt y x = true then y else x)) with e | e
    · rw [e]
      split
      · exact List.mem_cons_of_mem _ List.mem_cons_self
      · exact List.mem_cons_self
    · exact List.mem_cons_of_mem _ (List.mem_cons_of_mem _ e)
noncomputable def keyC (pr : List (Int × W)) (ns : List Nat) (t : Tre) : CT := ctO (cstC pr t ns : Nat) t
noncomputable def heldC (pr : List (Int × W)) (z : Int) : List Tre := (treesN pr.length).filter fun t => decide (farC pr t ≤ z)
noncomputable def bestC (pr : List (Int × W)) (z : Int) (ns : List Nat) : Option CT := match (heldC pr z).map (keyC pr ns) with
  | [] => none
  | c :: r => some (W.minOf c r)
theorem bestC_mem {pr : List (Int × W)} {z : Int} {ns : List Nat} {c : CT} (h : bestC pr z ns = some c) : ∃ t ∈ heldC pr z, c = keyC pr ns t := by
  unfold bestC at h
  split at h
  · cases h
  · rename_i c0 r e
    have m := minOf_mem c0 r
    rw [Option.some.inj h, ← e] at m
    obtain ⟨t, ht, e2⟩ := List.mem_map.mp m
    exact ⟨t, ht, e2.symm⟩
/-- what is told: a cost and a tree -/
def CtAt (H : Hp) (v : V) (n : Int) (t : Tre) : Prop := ∃ a tv, v = .ref a ∧ H a = some (.tup [.int n, tv]) ∧ TreV H tv t
theorem CtAt.keep {H H' : Hp} {v : V} {n : Int} {t : Tre} (k : Keep H H') (h : CtAt H v n t) : CtAt H' v n t := let ⟨a, tv, e, h1, h2⟩ := h; ⟨a, tv, e, k _ _ h1, h2.keep k⟩
theorem CtAt.dp {K : PySem.W.Frag} {H : Hp} {v : V} {n : Int} {t : Tre} (h : CtAt H v n t) : Dp K H v (ctD (ctO n t)) := by
  obtain ⟨a, tv, rfl, e, ht⟩ := h
  rw [ctD_eq]
  exact .tup (SqT.of e) (.cons (.int n) (.cons (TrAt.dp ht) .nil))
def BestAt (H : Hp) (v : V) (b : Option CT) : Prop := match b with
  | none => v = .non
  | some c => ∃ n t, c = ctO n t ∧ CtAt H v n t
theorem BestAt.keep {H H' : Hp} {v : V} {b : Option CT} (k : Keep H H') (h : BestAt H v b) : BestAt H' v b := by
  cases b with
  | none => exact h
  | some c => exact let ⟨n, t, e, z⟩ := h; ⟨n, t, e, z.keep k⟩
def spBare : Sp := fun vs H Q _ => ∃ (v : V) (pr : List (Int × W)), vs = [v] ∧ PrAt H v pr ∧ PrOk pr ∧ ∀ H' u, Same H H' → PrAt H' u (bareP pr) → Q u H'
def spCheapest : Sp := fun vs H Q _ => ∃ (v : V) (pr : List (Int × W)) (z : Int) (b : Addr) (ns : List Nat), vs = [v, .int z, .ref b] ∧ PrAt H v pr ∧ PrOk pr ∧ pr.length ≤ 5 ∧ 1 ≤ z ∧ z ≤ 64 ∧ H b = some (.lst (nV ns)) ∧ ns ≠ [] ∧ ns.length ≤ 20000 ∧ (∀ x ∈ ns, x < pr.length) ∧
  ∀ H' u, Same H H' → BestAt H' u (bestC pr z ns) → Q u H'
end Ov

/-! ### the order of costs and trees; the least (k16, k17) -/
namespace Ov
open PySem PySem.Spec PyProof.Rows L2
structure LinB {α : Type} (lt : α → α → Bool) : Prop where
  irr : ∀ a, lt a a = false
  tr : ∀ a b c, lt a b = true → lt b c = true → lt a c = true
  tot : ∀ a b, a ≠ b → lt a b = true ∨ lt b a = true
theorem linInt : LinB (fun a b : Int => W.DatumOrd.lt a b) := by
  refine ⟨fun a => decide_eq_false (by omega), fun a b c h1 h2 => ?_, fun a b h => ?_⟩
  · have h1 := of_decide_eq_true h1
    have h2 := of_decide_eq_true h2
    exact decide_eq_true (by omega)
  · rcases Int.lt_or_gt_of_ne h with z | z
    · exact .inl (decide_eq_true z)
    · exact .inr (decide_eq_true z)
section
variable {α β : Type} [DecidableEq α] [W.DatumOrd α] [DecidableEq β] [W.DatumOrd β]
theorem linList (h : LinB (fun a b : α => W.DatumOrd.lt a b)) : LinB (W.listLt (α := α)) := by
  refine ⟨fun a => ?_, ?_, ?_⟩
  · induction a with
    | nil => rfl
    | cons x r ih => rw [W.listLt, if_pos rfl]; exact ih
  · intro a
    induction a with
    | nil =>
      intro b c h1 h2
      cases b with
      | nil => cases h1
      | cons y s =>
        cases c with
        | nil => cases h2
        | cons z q => rfl
    | cons x r ih =>
      intro b c h1 h2
      cases b with
      | nil => cases h1
      | cons y s =>
        cases c with
        | nil => cases h2
        | cons z q =>
          rw [W.listLt] at h1 h2 ⊢
          by_cases e1 : x = y
          · rw [if_pos e1] at h1
            subst e1
            by_cases e2 : x = z
            · rw [if_pos e2] at h2 ⊢
              exact ih s q h1 h2
            · rw [if_neg e2] at h2 ⊢
              exact h2
          · rw [if_neg e1] at h1
            by_cases e2 : y = z
            · subst e2
              rw [if_neg e1]
              exact h1
            · rw [if_neg e2] at h2
              have h3 := h.tr x y z h1 h2
              by_cases e3 : x = z
              · exfalso
                have h3 : W.DatumOrd.lt x z = true := h3
                rw [e3] at h3
                have := h.irr z
                have this : W.DatumOrd.lt z z = false := this
                rw [this] at h3
                cases h3
              · rw [if_neg e3]
                exact h3
  · intro a
    induction a with
    | nil =>
      intro b hn
      cases b with
      | nil => exact absurd rfl hn
      | cons y s => exact .inl rfl
    | cons x r ih =>
      intro b hn
      cases b with
      | nil => exact .inr rfl
      | cons y s =>
        rw [W.listLt, W.listLt]
        by_cases e : x = y
        · rw [if_pos e, if_pos e.symm]
          exact ih s fun z => hn (by rw [e, z])
        · rw [if_neg e, if_neg fun z => e z.symm]
          exact h.tot x y e
theorem linTup (h : LinB (fun a b : α => W.DatumOrd.lt a b)) : LinB (fun a b : W.Tup α => W.DatumOrd.lt a b) := by
  have l := linList h
  refine ⟨fun a => l.irr a.items, fun a b c => l.tr a.items b.items c.items, fun a b hn => l.tot a.items b.items fun e => hn ?_⟩
  cases a
  cases b
  exact congrArg W.Tup.mk e
theorem linPair (h : LinB (fun a b : α => W.DatumOrd.lt a b)) (g : LinB (fun a b : β => W.DatumOrd.lt a b)) : LinB (fun a b : α × β => W.DatumOrd.lt a b) := by
  have un : ∀ a b : α × β, W.DatumOrd.lt a b = if a.1 = b.1 then W.DatumOrd.lt a.2 b.2 else W.DatumOrd.lt a.1 b.1 := fun _ _ => rfl
  refine ⟨fun a => ?_, fun a b c h1 h2 => ?_, fun a b hn => ?_⟩
  · rw [un, if_pos rfl]
    exact g.irr a.2
  · rw [un] at h1 h2 ⊢
    by_cases e1 : a.1 = b.1
    · rw [if_pos e1] at h1
      by_cases e2 : b.1 = c.1
      · rw [if_pos e2] at h2
        rw [if_pos (e1.trans e2)]
        exact g.tr _ _ _ h1 h2
      · rw [if_neg e2] at h2
        rw [if_neg (by rw [e1]; exact e2), e1]
        exact h2
    · rw [if_neg e1] at h1
      by_cases e2 : b.1 = c.1
      · rw [← e2, if_neg e1]
        exact h1
      · rw [if_neg e2] at h2
        have h3 := h.tr a.1 b.1 c.1 h1 h2
        have h3 : W.DatumOrd.lt a.1 c.1 = true := h3
        by_cases e3 : a.1 = c.1
        · exfalso
          rw [e3] at h3
          have z : W.DatumOrd.lt c.1 c.1 = false := h.irr c.1
          rw [z] at h3
          cases h3
        · rw [if_neg e3]
          exact h3
  · rw [un, un]
    by_cases e : a.1 = b.1
    · rw [if_pos e, if_pos e.symm]
      exact g.tot a.2 b.2 fun z => hn (Prod.ext e z)
    · rw [if_neg e, if_neg fun z => e z.symm]
      exact h.tot _ _ e
end
theorem linCT : LinB ctL := linPair linInt (linPair (linTup (linTup linInt)) (linTup linInt))
theorem LinB.asym {α : Type} {lt : α → α → Bool} (h : LinB lt) {a b : α} (l : lt a b = true) : lt b a = false := by
  cases e : lt b a with
  | false => rfl
  | true =>
    have := h.tr a b a l e
    rw [h.irr] at this
    cases this
/-- a is not above b, b not above c -/
theorem LinB.ge {α : Type} {lt : α → α → Bool} (h : LinB lt) {a b c : α} (l : lt b a = false) (m : lt c b = false) : lt c a = false := by
  cases e : lt c a with
  | false => rfl
  | true =>
    by_cases x : a = b
    · rw [x, m] at e
      cases e
    · rcases h.tot a b x with z | z
      · rw [h.tr c a b e z] at m
        cases m
      · rw [z] at l
        cases l
theorem minOf_le (x : CT) (xs : List CT) : ∀ y ∈ x :: xs, ctL y (W.minOf x xs) = false := by
  unfold W.minOf
  induction xs generalizing x with
  | nil =>
    intro y hy
    rw [List.mem_singleton.mp hy]
    exact linCT.irr _
  | cons a r ih =>
    intro y hy
    rw [List.foldl_cons]
    by_cases c : W.DatumOrd.lt a x = true
    · rw [if_pos c]
      have h0 := ih a a List.mem_cons_self
      rcases List.mem_cons.mp hy with e | e
      · rw [e]
        exact linCT.ge h0 (linCT.asym c)
      · exact ih a y e
    · rw [if_neg c]
      have h0 := ih x x List.mem_cons_self
      have c : ctL a x = false := by
        cases e : ctL a x with
        | false => rfl
        | true => exact absurd e c
      rcases List.mem_cons.mp hy with e | e
      · rw [e]
        exact h0
      · rcases List.mem_cons.mp e with e | e
        · rw [e]
          exact linCT.ge h0 c
        · exact ih x y (List.mem_cons_of_mem _ e)
/-- the least is one -/
theorem least_uniq {S : List CT} {a b : CT} (ha : a ∈ S) (hb : b ∈ S) (la : ∀ y ∈ S, ctL y a = false) (lb : ∀ y ∈ S, ctL y b = false) : a = b := by
  by_cases c : a = b
  · exact c
  · rcases linCT.tot a b c with z | z
    · rw [lb a ha] at z
      cases z
    · rw [la b hb] at z
      cases z
theorem bestC_le {pr : List (Int × W)} {z : Int} {ns : List Nat} {c : CT} (h : bestC pr z ns = some c) : ∀ t ∈ heldC pr z, ctL (keyC pr ns t) c = false := by
  unfold bestC at h
  split at h
  · cases h
  · rename_i c0 r e
    intro t ht
    have m := minOf_le c0 r (keyC pr ns t) (by rw [← e]; exact List.mem_map.mpr ⟨t, ht, rfl⟩)
    rw [Option.some.inj h] at m
    exact m
theorem bestC_none {pr : List (Int × W)} {z : Int} {ns : List Nat} : bestC pr z ns = none ↔ heldC pr z = [] := by
  unfold bestC
  constructor
  · intro h
    split at h
    · rename_i e
      exact List.map_eq_nil_iff.mp e
    · cases h
  · intro h
    rw [h]
    rfl
end Ov

/-! ### the law's own trees: the same ones (k16) -/
namespace Ov
open PySem PySem.Spec PyProof.Rows L2
def partL : Nat → List (List (List Nat))
  | 0 => [[]]
  | n + 1 => (partL n).flatMap fun ps => (ps ++ [[n]]) :: (List.range ps.length).map fun i => ps.set i ((ps[i]?.getD []) ++ [n])
theorem partL_mem : ∀ (n : Nat) {ps : List (List Nat)}, ps ∈ partL n ↔ ps ∈ partN n
  | 0, _ => Iff.rfl
  | n + 1, ps => by
    rw [partL, partN, List.mem_flatMap, List.mem_flatMap]
    have key : ∀ q : List (List Nat), (ps ∈ (q ++ [[n]]) :: (List.range q.length).map (fun i => q.set i ((q[i]?.getD []) ++ [n]))) ↔ ps ∈ withF q n := fun q => by
      unfold withF
      rw [List.mem_cons, List.mem_append, List.mem_singleton, or_comm]
    constructor
    · rintro ⟨q, h1, h2⟩
      exact ⟨q, (partL_mem n).mp h1, (key q).mp h2⟩
    · rintro ⟨q, h1, h2⟩
      exact ⟨q, (partL_mem n).mpr h1, (key q).mpr h2⟩
theorem partL_size {n : Nat} (h : n ≤ 5) : (partL n).length ≤ 52 := by
  match n, h with
  | 0, _ => decide
  | 1, _ => decide
  | 2, _ => decide
  | 3, _ => decide
  | 4, _ => decide
  | 5, _ => decide
def rowF (m : Nat) : Nat → List (List Int)
  | 0 => [[]]
  | k + 1 => (rowF m k).flatMap fun r => ((stdI m).filter fun x => decide (x ≠ (k : Int))).map fun x => r ++ [x]
theorem rowF_mem {m : Nat} : ∀ (k : Nat) {r : List Int}, r ∈ rowF m k ↔ r.length = k ∧ ∀ (i : Nat) (x : Int), r[i]? = some x → (-1 ≤ x ∧ x ≤ (m : Int) - 1) ∧ x ≠ (i : Int)
  | 0, r => by
    rw [rowF, List.mem_singleton]
    constructor
    · rintro rfl
      exact ⟨rfl, fun i x h => by cases i <;> cases h⟩
    · rintro ⟨h, _⟩
      exact List.eq_nil_of_length_eq_zero h
  | k + 1, r => by
    rw [rowF, List.mem_flatMap]
    constructor
    · rintro ⟨q, hq, hr⟩
      obtain ⟨x, hx, rfl⟩ := List.mem_map.mp hr
      obtain ⟨hx1, hx2⟩ := List.mem_filter.mp hx
      obtain ⟨h1, h2⟩ := (rowF_mem k).mp hq
      refine ⟨by rw [List.length_append, List.length_singleton, h1], fun i y hy => ?_⟩
      by_cases c : i < k
      · rw [List.getElem?_append_left (by omega)] at hy
        exact h2 i y hy
      · have hil := (List.getElem?_eq_some_iff.mp hy).1
        rw [List.length_append, List.length_singleton] at hil
        obtain rfl : i = k := by omega
        rw [List.getElem?_append_right (by omega), h1, Nat.sub_self] at hy
        have e : x = y := Option.some.inj hy
        rw [← e]
        exact ⟨stdI_mem.mp hx1, of_decide_eq_true hx2⟩
    · rintro ⟨h1, h2⟩
      obtain ⟨q, x, rfl⟩ : ∃ q x, r = q ++ [x] := by
        rcases List.eq_nil_or_concat r with e | ⟨q, x, e⟩
        · rw [e] at h1
          cases h1
        · exact ⟨q, x, by rw [e, List.concat_eq_append]⟩
      rw [List.length_append, List.length_singleton] at h1
      have hx := h2 k x (by rw [List.getElem?_append_right (by omega), show k - q.length = 0 by omega]; rfl)
      refine ⟨q, (rowF_mem k).mpr ⟨by omega, fun i y hy => h2 i y (by rw [List.getElem?_append_left (List.getElem?_eq_some_iff.mp hy).1]; exact hy)⟩, List.mem_map.mpr ⟨x, List.mem_filter.mpr ⟨stdI_mem.mpr hx.1, decide_eq_true hx.2⟩, rfl⟩⟩
theorem rowF_few {m : Nat} (hm : m ≤ 5) : ∀ k, k ≤ 5 → (rowF m k).length ≤ 6 ^ k
  | 0, _ => Nat.le_refl _
  | k + 1, h => by
    have key : ∀ rs : List (List Int), (rs.flatMap fun r => ((stdI m).filter fun x => decide (x ≠ (k : Int))).map fun x => r ++ [x]).length ≤ rs.length * 6 := fun rs => by
      induction rs with
      | nil => exact Nat.le_refl _
      | cons r l ih =>
        have z := List.length_filter_le (fun x => decide (x ≠ (k : Int))) (stdI m)
        have y : (stdI m).length = m + 1 := by unfold stdI; rw [List.length_map, List.length_range]
        rw [List.flatMap_cons, List.length_append, List.length_map, List.length_cons]
        omega
    have := key (rowF m k)
    have := rowF_few hm k (by omega)
    rw [rowF, Nat.pow_succ]
    omega
/-- from which the way goes on so far -/
def leftN (st : List Int) (m : Nat) : Nat → List Nat
  | 0 => (List.range m).filter fun k => decide (0 ≤ st[k]?.getD (-1))
  | t + 1 => (leftN st m t).filter fun k => decide ((st[k]?.getD (-1)) ∈ (leftN st m t).map fun (x : Nat) => (x : Int))
theorem leftN_mem {st : List Int} {m : Nat} (hl : st.length = m) (hin : ∀ x ∈ st, -1 ≤ x ∧ x ≤ (m : Int) - 1) : ∀ (t : Nat) {k : Nat}, k ∈ leftN st m t ↔ k < m ∧ undr st (t + 1) (k : Int) ≠ -1
  | 0, k => by
    rw [leftN, List.mem_filter, List.mem_range, decide_eq_true_eq]
    have nk : ((k : Nat) : Int) ≠ -1 := by omega
    have e : undr st (0 + 1) (k : Int) = st[k]?.getD (-1) := by
      rw [undr, if_neg nk, Int.toNat_natCast]
      rfl
    rw [e]
    constructor
    · rintro ⟨h1, h2⟩
      exact ⟨h1, by omega⟩
    · rintro ⟨h1, h2⟩
      refine ⟨h1, ?_⟩
      have e2 : st[k]? = some (st[k]'(by omega)) := List.getElem?_eq_getElem _
      rw [e2, Option.getD_some] at h2 ⊢
      have := hin _ (List.getElem_mem (show k < st.length by omega))
      omega
  | t + 1, k => by
    rw [leftN, List.mem_filter, decide_eq_true_eq, leftN_mem hl hin t]
    have nk : ((k : Nat) : Int) ≠ -1 := by omega
    have e : undr st (t + 1 + 1) (k : Int) = undr st (t + 1) (st[k]?.getD (-1)) := by
      rw [undr, if_neg nk, Int.toNat_natCast]
    rw [e]
    constructor
    · rintro ⟨⟨h1, _⟩, h3⟩
      obtain ⟨x, hx, e2⟩ := List.mem_map.mp h3
      rw [← e2]
      exact ⟨h1, ((leftN_mem hl hin t).mp hx).2⟩
    · rintro ⟨h1, h2⟩
      have e2 : st[k]? = some (st[k]'(by omega)) := List.getElem?_eq_getElem _
      rw [e2, Option.getD_some] at h2 ⊢
      obtain ⟨b1, b2⟩ := hin _ (List.getElem_mem (show k < st.length by omega))
      have hne : st[k]'(by omega) ≠ -1 := fun z => by
        rw [z, undr_end] at h2
        exact h2 rfl
      obtain ⟨y, hy⟩ : ∃ y : Nat, st[k]'(by omega) = (y : Int) := ⟨(st[k]'(by omega)).toNat, by omega⟩
      rw [hy] at h2 b2 ⊢
      refine ⟨⟨h1, fun z => ?_⟩, List.mem_map.mpr ⟨y, (leftN_mem hl hin t).mpr ⟨by omega, h2⟩, rfl⟩⟩
      have z2 := undr_mono z 1
      rw [show t + 1 + 1 = t + 1 + 1 from rfl, e, e2, Option.getD_some, hy] at z2
      exact h2 z2
def forestsN (m : Nat) : List (List Int) := (rowF m m).filter fun st => (leftN st m m).isEmpty
theorem forestsN_mem {m : Nat} {st : List Int} : st ∈ forestsN m ↔ st ∈ standsN m := by
  unfold forestsN
  rw [List.mem_filter, rowF_mem, standsN_mem]
  have mem_at : ∀ {x : Int}, x ∈ st → ∃ i : Nat, st[i]? = some x := fun h => List.mem_iff_getElem?.mp h
  have left_iff : st.length = m → (∀ x ∈ st, -1 ≤ x ∧ x ≤ (m : Int) - 1) → ((leftN st m m).isEmpty = true ↔ fitB st = true) := fun hl hin => by
    rw [List.isEmpty_iff, fitB_iff hl (Nat.le_succ m) hin]
    constructor
    · intro h x hx
      by_cases c : undr st (m + 1) (x : Int) = -1
      · exact c
      · have := (leftN_mem hl hin m).mpr ⟨hx, c⟩
        rw [h] at this
        cases this
    · intro h
      refine List.eq_nil_iff_forall_not_mem.mpr fun k hk => ?_
      obtain ⟨h1, h2⟩ := (leftN_mem hl hin m).mp hk
      exact h2 (h k h1)
  constructor
  · rintro ⟨⟨h1, h2⟩, h3⟩
    have hin : ∀ x ∈ st, -1 ≤ x ∧ x ≤ (m : Int) - 1 := fun x hx => by
      obtain ⟨i, hi⟩ := mem_at hx
      exact (h2 i x hi).1
    exact ⟨h1, hin, (left_iff h1 hin).mp h3⟩
  · rintro ⟨h1, h2, h3⟩
    refine ⟨⟨h1, fun i x hx => ⟨h2 x (List.mem_of_getElem? hx), fun e => ?_⟩⟩, (left_iff h1 h2).mpr h3⟩
    subst e
    have hil := (List.getElem?_eq_some_iff.mp hx).1
    have stay : ∀ t, undr st t ((i : Nat) : Int) = (i : Int) := fun t => by
      induction t with
      | zero => rfl
      | succ t ih =>
        have ni : ((i : Nat) : Int) ≠ -1 := by omega
        rw [undr, if_neg ni, Int.toNat_natCast, hx]
        exact ih
    have z := (fitB_iff h1 (Nat.le_refl m) h2).mp h3 i (by omega)
    rw [stay] at z
    omega
/-- the law's trees, in its order -/
def treesL (n : Nat) : List Tre := (partL n).flatMap fun ps => (forestsN ps.length).map fun st => (ps, st)
theorem treesL_mem {n : Nat} {t : Tre} : t ∈ treesL n ↔ t ∈ treesN n := by
  unfold treesL
  rw [treesN_mem, List.mem_flatMap]
  constructor
  · rintro ⟨ps, h1, h2⟩
    obtain ⟨st, h3, rfl⟩ := List.mem_map.mp h2
    exact ⟨(partL_mem n).mp h1, forestsN_mem.mp h3⟩
  · rintro ⟨h1, h2⟩
    exact ⟨t.1, (partL_mem n).mpr h1, List.mem_map.mpr ⟨t.2, forestsN_mem.mpr h2, rfl⟩⟩
/-- the best so far -/
noncomputable def stepB (pr : List (Int × W)) (z : Int) (ns : List Nat) (b : Option CT) (t : Tre) : Option CT :=
  if farC pr t ≤ z then (match b with
    | none => some (keyC pr ns t)
    | some c => if ctL (keyC pr ns t) c = true then some (keyC pr ns t) else some c) else b
noncomputable def bestL (pr : List (Int × W)) (z : Int) (ns : List Nat) (l : List Tre) : Option CT := l.foldl (stepB pr z ns) none
theorem bestL_snoc (pr : List (Int × W)) (z : Int) (ns : List Nat) (l : List Tre) (t : Tre) : bestL pr z ns (l ++ [t]) = stepB pr z ns (bestL pr z ns l) t := by
  unfold bestL
  rw [List.foldl_append]
  rfl
theorem bestL_ok (pr : List (Int × W)) (z : Int) (ns : List Nat) (l : List Tre) : (bestL pr z ns l = none ∧ ∀ t ∈ l, ¬ farC pr t ≤ z) ∨ ∃ c t, bestL pr z ns l = some c ∧ t ∈ l ∧ farC pr t ≤ z ∧ c = keyC pr ns t ∧ ∀ u ∈ l, farC pr u ≤ z → ctL (keyC pr ns u) c = false := by
  have rev : ∀ l : List Tre, (bestL pr z ns l.reverse = none ∧ ∀ t ∈ l.reverse, ¬ farC pr t ≤ z) ∨ ∃ c t, bestL pr z ns l.reverse = some c ∧ t ∈ l.reverse ∧ farC pr t ≤ z ∧ c = keyC pr ns t ∧ ∀ u ∈ l.reverse, farC pr u ≤ z → ctL (keyC pr ns u) c = false := fun l => by
    induction l with
    | nil => exact .inl ⟨rfl, fun _ h => nomatch h⟩
    | cons a r ih =>
      rw [List.reverse_cons, bestL_snoc]
      unfold stepB
      by_cases c : farC pr a ≤ z
      · rw [if_pos c]
        right
        rcases ih with ⟨e, h⟩ | ⟨b, t, e, ht, hf, hk, hm⟩
        · rw [e]
          refine ⟨_, a, rfl, List.mem_append_right _ (List.mem_singleton.mpr rfl), c, rfl, fun u hu hz => ?_⟩
          rcases List.mem_append.mp hu with y | y
          · exact absurd hz (h u y)
          · rw [List.mem_singleton.mp y]
            exact linCT.irr _
        · rw [e]
          by_cases d : ctL (keyC pr ns a) b = true
          · refine ⟨_, a, if_pos d, List.mem_append_right _ (List.mem_singleton.mpr rfl), c, rfl, fun u hu hz => ?_⟩
            rcases List.mem_append.mp hu with y | y
            · exact linCT.ge (linCT.asym d) (hm u y hz)
            · rw [List.mem_singleton.mp y]
              exact linCT.irr _
          · refine ⟨b, t, if_neg d, List.mem_append_left _ ht, hf, hk, fun u hu hz => ?_⟩
            rcases List.mem_append.mp hu with y | y
            · exact hm u y hz
            · rw [List.mem_singleton.mp y]
              cases e2 : ctL (keyC pr ns a) b with
              | false => rfl
              | true => exact absurd e2 d
      · rw [if_neg c]
        rcases ih with ⟨e, h⟩ | ⟨b, t, e, ht, hf, hk, hm⟩
        · refine .inl ⟨e, fun u hu => ?_⟩
          rcases List.mem_append.mp hu with y | y
          · exact h u y
          · rw [List.mem_singleton.mp y]
            exact c
        · refine .inr ⟨b, t, e, List.mem_append_left _ ht, hf, hk, fun u hu hz => ?_⟩
          rcases List.mem_append.mp hu with y | y
          · exact hm u y hz
          · rw [List.mem_singleton.mp y] at hz
            exact absurd hz c
  have h := rev l.reverse
  rw [List.reverse_reverse] at h
  exact h
/-- by the law's own order the same is the best -/
theorem bestL_eq (pr : List (Int × W)) (z : Int) (ns : List Nat) : bestL pr z ns (treesL pr.length) = bestC pr z ns := by
  have hm : ∀ t, (t ∈ treesL pr.length ∧ farC pr t ≤ z) ↔ t ∈ heldC pr z := fun t => by
    unfold heldC
    rw [List.mem_filter, treesL_mem, decide_eq_true_eq]
  rcases bestL_ok pr z ns (treesL pr.length) with ⟨e, h⟩ | ⟨c, t, e, ht, hf, hk, hl⟩
  · rw [e]
    refine (bestC_none.mpr (List.eq_nil_iff_forall_not_mem.mpr fun t ht => ?_)).symm
    obtain ⟨h1, h2⟩ := (hm t).mpr ht
    exact h t h1 h2
  · rw [e]
    have ht2 := (hm t).mp ⟨ht, hf⟩
    cases e2 : bestC pr z ns with
    | none =>
      rw [bestC_none.mp e2] at ht2
      cases ht2
    | some d =>
      obtain ⟨u, hu, rfl⟩ := bestC_mem e2
      have hle := bestC_le e2
      refine congrArg some ?_
      rw [hk]
      refine least_uniq (S := (heldC pr z).map (keyC pr ns)) (List.mem_map.mpr ⟨t, ht2, rfl⟩) (List.mem_map.mpr ⟨u, hu, rfl⟩) (fun y hy => ?_) fun y hy => ?_
      · obtain ⟨v, hv, rfl⟩ := List.mem_map.mp hy
        obtain ⟨h1, h2⟩ := (hm v).mpr hv
        rw [← hk]
        exact hl v h1 h2
      · obtain ⟨v, hv, rfl⟩ := List.mem_map.mp hy
        exact hle v hv
end Ov

/-! ### the law's own trees in the heap (k16) -/
namespace Ov
open PySem PySem.Spec PyProof.Rows L2
/-- parts as a list of tuples -/
def PlAt (N : Addr → Prop) (H : Hp) (v : V) (ps : List (List Nat)) : Prop := ∃ a us, v = .ref a ∧ N a ∧ H a = some (.lst us) ∧ Paired (PartAt H) us ps
theorem PlAt.same {N : Addr → Prop} {H H' : Hp} {v : V} {ps : List (List Nat)} (s : Same H H') (h : PlAt N H v ps) : PlAt N H' v ps := let ⟨a, us, e, n, h1, h2⟩ := h; ⟨a, us, e, n, s _ _ h1, L2.Paired.mapP h2 fun _ _ z => z.keep (Keep.same s)⟩
theorem PlAt.updD {D : Addr} {H : Hp} {v : V} {ps : List (List Nat)} {o : HO} (k : Keep H (upd H D o)) (h : PlAt (· ≠ D) H v ps) : PlAt (· ≠ D) (upd H D o) v ps := let ⟨a, us, e, n, h1, h2⟩ := h; ⟨a, us, e, n, by rw [upd_ne n]; exact h1, L2.Paired.mapP h2 fun _ _ z => z.keep k⟩
theorem PlAt.imp {N M : Addr → Prop} {H : Hp} {v : V} {ps : List (List Nat)} (f : ∀ a, N a → M a) (h : PlAt N H v ps) : PlAt M H v ps := let ⟨a, us, e, n, h1, h2⟩ := h; ⟨a, us, e, f a n, h1, h2⟩
theorem PlAt.ne {N : Addr → Prop} {D : Addr} {H : Hp} {v : V} {ps : List (List Nat)} (hD : H D = none) (h : PlAt N H v ps) : PlAt (· ≠ D) H v ps := let ⟨a, us, e, _, h1, h2⟩ := h; ⟨a, us, e, ne_of_none h1 hD, h1, h2⟩
abbrev anyA : Addr → Prop := fun _ => True
/-- what follows of one -/
def nextL (ps : List (List Nat)) (n : Nat) : List (List (List Nat)) := (ps ++ [[n]]) :: (List.range ps.length).map fun i => ps.set i ((ps[i]?.getD []) ++ [n])
theorem nextL_size (ps : List (List Nat)) (n : Nat) : (nextL ps n).length = ps.length + 1 := by
  unfold nextL
  rw [List.length_cons, List.length_map, List.length_range]
theorem partL_len {n : Nat} {ps : List (List Nat)} (h : ps ∈ partL n) : ps.length ≤ n := partN_len n ((partL_mem n).mp h)
theorem partL_few {n : Nat} {ps : List (List Nat)} (h : ps ∈ partL n) (h8 : n ≤ 8) : ∀ p ∈ ps, p.length ≤ 8 := part_few (partN_ok n ((partL_mem n).mp h)) h8
def spLawParts : Sp := fun vs H Q _ => ∃ n : Nat, vs = [.int (n : Int)] ∧ n ≤ 5 ∧ ∀ H' r rs, Same H H' → H r = none → H' r = some (.lst rs) → Paired (PlAt anyA H') rs (partL n) → Q (.ref r) H'
def spForests : Sp := fun vs H Q _ => ∃ m : Nat, vs = [.int (m : Int)] ∧ m ≤ 5 ∧ ∀ H' r rs, Same H H' → H r = none → H' r = some (.lst rs) → Paired (RowI H') rs (forestsN m) → Q (.ref r) H'
end Ov
namespace Ov
open PySem PySem.Spec PyProof.Rows L2
theorem inVint (z : Int) (p : List Nat) : inV (.int z) (nV p) = decide (z ∈ p.map fun (x : Nat) => (x : Int)) := by
  unfold inV nV
  rw [List.any_map, Bool.eq_iff_iff, List.any_eq_true, decide_eq_true_iff, List.mem_map]
  constructor
  · rintro ⟨y, hy, e⟩
    exact ⟨y, hy, by simpa [eqV] using e⟩
  · rintro ⟨y, hy, e⟩
    exact ⟨y, hy, by simp [eqV, e]⟩
theorem leftN_sub {st : List Int} {m : Nat} : ∀ (t : Nat) {k : Nat}, k ∈ leftN st m t → k < m
  | 0, k, h => List.mem_range.mp (List.mem_filter.mp h).1
  | t + 1, k, h => leftN_sub t (List.mem_filter.mp h).1
theorem leftN_len {st : List Int} {m : Nat} : ∀ (t : Nat), (leftN st m t).length ≤ m
  | 0 => by
    rw [leftN]
    exact Nat.le_trans (List.length_filter_le _ _) (by rw [List.length_range]; exact Nat.le_refl _)
  | t + 1 => by
    rw [leftN]
    exact Nat.le_trans (List.length_filter_le _ _) (leftN_len t)
end Ov

/-! ### the law's own cost: a dict of which part lies in a cell (k16) -/
namespace Ov
open PySem PySem.Spec PyProof.Rows L2
section
variable {X : Cx} {pins : List (Addr × Obj)} {σ : L2.St} {H : Hp} {s : Shared} {a b : Addr} {kvs more : List (Key × V)} {A : Around} {E : Value → Shared → Prop}
theorem smh (n : Nat) (h : n ≤ 100000) : n ≤ sizeLine := Nat.le_trans h (by decide)
theorem d_updateN {Q : Value → Shared → Prop} (I : Inv X pins σ H s) (ea : H a = some (.dK kvs)) (eb : H b = some (.dK more)) (ne : a ≠ b) (hz : kvs.length + more.length ≤ 100000) (h : ∀ s', Inv X pins σ (upd H a (.dK (mergeK kvs more))) s' → Q .none s') :
    wpAny (model X.prog X.w) A (call (.builtin "dict.update") [.ref a, .ref b]) Q E s := by
  obtain ⟨z, hd, vs, rel, dd⟩ := dk_of I.hok ea
  obtain ⟨z', hd', ws, rel', dd'⟩ := dk_of I.hok eb
  have l1 := rel.length
  have l2 := rel'.length
  refine call_meetsIn PySem.F.slot_dict_update dd.typeIs PySem.F.entry_dict_update (PySem.F.args_dict_update_2 _ _) (meets_dict_update (mixKind X.prog X.w) a b ne hd') ⟨vs, ws, dd, dd', Nat.le_trans (by omega) (smh _ hz), fun h' d1 d2 hs => h _ ?_⟩
  have he : ∃ q, h'.get? a = some q := let ⟨q, _, _, hq, _⟩ := d1; ⟨q, hq⟩
  have lk := KV.merge rel' rel
  have ll : (mergeK kvs more).length ≤ sizeLine := by
    rw [lk.length]
    exact Nat.le_trans (merged_length_le vs ws) (Nat.le_trans (by omega) (smh _ hz))
  exact d_write (t' := s.toks) I (by rw [ea]; exact True.intro) hs he (dk_new ll hd lk d1)
end
def rDUpdN : V → List V → Hp → VK → Prop := fun x vs H Q => ∃ (a b : Addr) (kvs more : List (Key × V)), x = .ref a ∧ vs = [.ref b] ∧ H a = some (.dK kvs) ∧ H b = some (.dK more) ∧ a ≠ b ∧ kvs.length + more.length ≤ 100000 ∧ Q .non (upd H a (.dK (mergeK kvs more)))
theorem mt_dupdN {X : Cx} : MtR X "dict.update" rDUpdN := by
  intro pins s σ H x vs v us Q I rx rv h
  obtain ⟨a, b, kvs, more, rfl, rfl, ea, eb, ne, hz, q⟩ := h
  obtain rfl : v = Value.ref a := rx
  cases rv with
  | cons r1 rest =>
    cases rest
    cases (show _ = Value.ref b from r1)
    exact d_updateN I ea eb ne hz fun s' I' => ⟨.non, _, I', rfl, q⟩
/-! the dict as data -/
def DL (kvs : List (Key × V)) (L : Int → Int) : Prop := ∀ c : Int, valV kvs (.inl c) = if L c = -1 then none else some (.int (L c))
def putL (L : Int → Int) (cs : List Int) (q : Int) : Int → Int := fun c => if c ∈ cs then q else L c
theorem DL.nil : DL [] fun _ => -1 := fun _ => rfl
def liesK (cs : List Int) (q : Int) : List (Key × V) := cs.map fun c => (.inl c, .int q)
theorem valV_merge (v : V) : ∀ (more kvs : List (Key × V)), (∀ p ∈ more, p.2 = v) → ∀ j : Key, (j ∈ more.map (fun p : Key × V => p.1) → valV (mergeK kvs more) j = some v) ∧ (j ∉ more.map (fun p : Key × V => p.1) → valV (mergeK kvs more) j = valV kvs j)
  | [], kvs, _, j => ⟨fun h => (nomatch h), fun _ => rfl⟩
  | p :: r, kvs, h, j => by
    have ih := valV_merge v r (putK kvs p.1 p.2) (fun q hq => h q (List.mem_cons_of_mem _ hq)) j
    have hv := h p List.mem_cons_self
    constructor
    · intro hj
      show valV (mergeK (putK kvs p.1 p.2) r) j = _
      by_cases c1 : j ∈ r.map (fun p : Key × V => p.1)
      · exact ih.1 c1
      · rw [ih.2 c1, valV_put, hv]
        rcases List.mem_cons.mp hj with e | e
        · rw [if_pos e]
        · exact absurd e c1
    · intro hj
      show valV (mergeK (putK kvs p.1 p.2) r) j = _
      rw [ih.2 fun z => hj (List.mem_cons_of_mem _ z), valV_put, if_neg fun z => hj (by rw [z]; exact List.mem_cons_self)]
theorem DL.put {kvs : List (Key × V)} {L : Int → Int} (h : DL kvs L) {cs : List Int} {q : Int} (hq : q ≠ -1) : DL (mergeK kvs (liesK cs q)) (putL L cs q) := fun c => by
  have m := valV_merge (.int q) (liesK cs q) kvs (fun p hp => by
    obtain ⟨d, _, rfl⟩ := List.mem_map.mp hp
    rfl) (.inl c)
  have e : (Sum.inl c : Key) ∈ (liesK cs q).map (fun p : Key × V => p.1) ↔ c ∈ cs := by
    unfold liesK
    rw [List.map_map, List.mem_map]
    constructor
    · rintro ⟨d, hd, e⟩
      rw [← Sum.inl.inj e]
      exact hd
    · exact fun hc => ⟨c, hc, rfl⟩
  unfold putL
  by_cases hc : c ∈ cs
  · rw [m.1 (e.mpr hc), if_pos hc, if_neg hq]
  · rw [m.2 fun z => hc (e.mp z), if_neg hc]
    exact h c
theorem DL.get {kvs : List (Key × V)} {L : Int → Int} (h : DL kvs L) (c : Int) : (valV kvs (.inl c)).getD (.int (-1)) = .int (L c) := by
  rw [h c]
  by_cases e : L c = -1
  · rw [if_pos e, e]
    rfl
  · rw [if_neg e]
    rfl
/-! the same as a hall -/
section
variable {wys : List (List Nat)} {L : List Lay} {far : Nat}
def LRel (L : List Lay) (K : Int → Int) (lc : List (Option Cnt)) : Prop := ∀ q, ∀ e ∈ lyr L q, lc[e.1]? = some (some e.2) ↔ K (e.1 : Int) = (q : Int)
def cellsI (L : List Lay) (q : Nat) : List Int := (lyr L q).map fun e => (e.1 : Int)
theorem LRel.new (L : List Lay) (n : Nat) : LRel L (fun _ => -1) (List.replicate n none) := fun q e _ => by
  constructor
  · intro h
    rw [List.getElem?_replicate] at h
    split at h <;> cases h
  · intro h
    have : (-1 : Int) = (q : Int) := h
    omega
theorem LRel.has {K : Int → Int} {lc : List (Option Cnt)} (r : LRel L K lc) (q : Nat) : Has lc (lyr L q) = true ↔ ∀ c ∈ cellsI L q, K c = (q : Int) := by
  rw [has_iff]
  unfold cellsI
  constructor
  · intro h c hc
    obtain ⟨e, he, rfl⟩ := List.mem_map.mp hc
    exact (r q e he).mp (h e he)
  · intro h e he
    exact (r q e he).mpr (h _ (List.mem_map.mpr ⟨e, he, rfl⟩))
theorem LRel.put (mk : Marks L) (ok : HlOk wys L far) {K : Int → Int} {lc : List (Option Cnt)} (lf : far ≤ lc.length) (r : LRel L K lc) (q0 : Nat) : LRel L (putL K (cellsI L q0) (q0 : Int)) (brg lc (lyr L q0)) := fun q e he => by
  have hlt : e.1 < lc.length := Nat.lt_of_lt_of_le (ok.lt q e he) lf
  unfold putL
  by_cases hc : (e.1 : Int) ∈ cellsI L q0
  · rw [if_pos hc]
    unfold cellsI at hc
    obtain ⟨d, hd, hde⟩ := List.mem_map.mp hc
    have hde : d.1 = e.1 := by omega
    have hin := brg_in (lyr L q0) lc d (ok.nd q0) (fun x hx => Nat.lt_of_lt_of_le (ok.lt q0 x hx) lf) hd
    rw [← hde, hin]
    constructor
    · intro h
      have h : d.2 = e.2 := Option.some.inj (Option.some.inj h)
      rw [mk q0 q d hd e he h]
    · intro h
      have h : q0 = q := by omega
      subst h
      have nd := ok.nd q0
      have : d = e := by
        obtain ⟨i, hi⟩ := List.mem_iff_getElem?.mp hd
        obtain ⟨j, hj⟩ := List.mem_iff_getElem?.mp he
        obtain ⟨hil, ei⟩ := List.getElem?_eq_some_iff.mp hi
        obtain ⟨hjl, ej⟩ := List.getElem?_eq_some_iff.mp hj
        have hij : i = j := (List.getElem_inj (h₀ := by rw [List.length_map]; exact hil) (h₁ := by rw [List.length_map]; exact hjl) nd).mp (by rw [List.getElem_map, List.getElem_map, ei, ej, hde])
        subst hij
        exact ei.symm.trans ej
      rw [this]
  · rw [if_neg hc, brg_out _ _ _ fun d hd z => hc (List.mem_map.mpr ⟨d, hd, by rw [z]⟩)]
    exact r q e he
/-- one part after the other -/
def hstep (L : List Lay) (s : List (Option Cnt) × Nat) (q : Nat) : List (Option Cnt) × Nat := if Has s.1 (lyr L q) = true then s else (brg s.1 (lyr L q), s.2 + (lyr L q).length)
theorem hsteps {L : List Lay} : ∀ (w : List Nat) (s : List (Option Cnt) × Nat), (w.Pairwise fun q r => q ≠ r ∧ Apart (lyr L q) (lyr L r)) → w.foldl (hstep L) s = (brgs s.1 L (mis s.1 L w), s.2 + siz L (mis s.1 L w))
  | [], s, _ => rfl
  | q :: w, s, pw => by
    rw [List.pairwise_cons] at pw
    rw [List.foldl_cons, hsteps w _ pw.2]
    unfold hstep
    by_cases c : Has s.1 (lyr L q) = true
    · rw [if_pos c]
      have e : mis s.1 L (q :: w) = mis s.1 L w := by
        unfold mis
        rw [List.filter_cons_of_neg (by rw [c]; exact Bool.false_ne_true)]
      rw [e]
    · rw [if_neg c]
      have c' : Has s.1 (lyr L q) = false := by simpa using c
      have e : mis s.1 L (q :: w) = q :: mis s.1 L w := by
        unfold mis
        rw [List.filter_cons_of_pos (by rw [c']; rfl)]
      have e2 : mis (brg s.1 (lyr L q)) L w = mis s.1 L w := by
        unfold mis
        refine List.filter_congr fun r hr => ?_
        rw [has_brg (pw.1 r hr).2.symm]
      rw [e]
      show (brgs (brg s.1 (lyr L q)) L (mis (brg s.1 (lyr L q)) L w), s.2 + (lyr L q).length + siz L (mis (brg s.1 (lyr L q)) L w)) = _
      rw [e2]
      refine Prod.ext rfl ?_
      show s.2 + (lyr L q).length + siz L (mis s.1 L w) = s.2 + siz L (q :: mis s.1 L w)
      unfold siz
      rw [List.map_cons, List.sum_cons]
      omega
theorem way_pw (ok : HlOk wys L far) (f : Nat) : (wys[f]?.getD [] : List Nat).Pairwise fun q r => q ≠ r ∧ Apart (lyr L q) (lyr L r) := by
  rcases way_or (wys := wys) f with e | e
  · rw [e]
    exact List.Pairwise.nil
  · exact ok.ap _ e
theorem tstep_seq (ok : HlOk wys L far) (s : List (Option Cnt) × Nat) (f : Nat) : tstep wys L s f = (wys[f]?.getD []).foldl (hstep L) s := by
  rw [hsteps _ _ (way_pw ok f)]
  rfl
end
end Ov
namespace Ov
open PySem PySem.Spec PyProof.Rows L2
def spLawCost : Sp := fun vs H Q _ => ∃ (v t : V) (pr : List (Int × W)) (ps : List (List Nat)) (st : List Int) (dn : Nat → List Nat) (b : Addr) (ns : List Nat), vs = [v, t, .ref b] ∧ preT H v t pr ps st ∧ Dn pr.length ps st dn ∧ H b = some (.lst (nV ns)) ∧ ns.length ≤ 24 ∧ (∀ x ∈ ns, x < pr.length) ∧
  ∀ H' cs far, Same H H' → Cells pr ps dn cs → Far pr ps dn far → Q (.int (costT (waysF pr.length ps dn) (laysF pr cs ps) 64 ns : Nat)) H'
/-- a part's cells, as the law has them -/
theorem cellsI_rg {pr : List (Int × W)} (ok : PrOk pr) {ps : List (List Nat)} (hp : PInv pr.length ps) {dn : Nat → List Nat} {cs : List Int} (hc : Cells pr ps dn cs) (q : Nat) : (cellsI (laysF pr cs ps) q).map V.int = rgV (bgn pr ps dn q) (bgn pr ps dn q + psz pr (ps[q]?.getD [])) := by
  have b0 := bgn_nn ok hp (dn := dn) (i := q)
  have e := lay_pos ok hp hc (q := q) (dn := dn)
  unfold cellsI rgV
  rw [show ((lyr (laysF pr cs ps) q).map fun e => (e.1 : Int)) = ((lyr (laysF pr cs ps) q).map (·.1)).map fun (x : Nat) => (x : Int) by rw [List.map_map]; rfl, e, List.map_map, List.map_map]
  rw [show (bgn pr ps dn q + psz pr (ps[q]?.getD []) - bgn pr ps dn q) = psz pr (ps[q]?.getD []) by omega]
  refine List.map_congr_left fun k _ => ?_
  show V.int (((bgn pr ps dn q).toNat + k : Nat) : Int) = V.int (bgn pr ps dn q + (k : Int))
  congr 1
  omega
theorem cellsI_nd {L : List Lay} {wys : List (List Nat)} {far : Nat} (ok : HlOk wys L far) (q : Nat) : (cellsI L q).Nodup := by
  unfold cellsI
  rw [show ((lyr L q).map fun e => (e.1 : Int)) = ((lyr L q).map (·.1)).map fun (x : Nat) => (x : Int) by rw [List.map_map]; rfl]
  exact List.pairwise_map.mpr ((ok.nd q).imp fun h e => h (by omega))
theorem merge_lies {cs : List Int} {q : Int} (nd : cs.Nodup) : mergeK [] (liesK cs q) = liesK cs q := by
  rw [mergeK_fresh _ _ (by
    unfold liesK
    rw [List.nil_append, List.map_map]
    exact List.pairwise_map.mpr (nd.imp fun h e => h (Sum.inl.inj e)))]
  rfl
end Ov
namespace Ov
open PySem PySem.Spec PyProof.Rows L2
/-- the rows that the m-th list holds; none of them lies at S -/
def StfAt (S : Addr) (H : Hp) (v : V) (m : Nat) : Prop := ∃ a vs, v = .ref a ∧ a ≠ S ∧ H a = some (.lst vs) ∧ Paired (RowI H) vs (forestsN m)
theorem StfAt.same {S : Addr} {H H' : Hp} {v : V} {m : Nat} (s : Same H H') (h : StfAt S H v m) : StfAt S H' v m := let ⟨a, vs, e, n, h1, h2⟩ := h; ⟨a, vs, e, n, s _ _ h1, L2.Paired.mapP h2 fun _ _ z => z.keep (Keep.same s)⟩
theorem StfAt.updS {S : Addr} {H : Hp} {v : V} {m : Nat} {o : HO} (k : Keep H (upd H S o)) (h : StfAt S H v m) : StfAt S (upd H S o) v m := let ⟨a, vs, e, n, h1, h2⟩ := h; ⟨a, vs, e, n, by rw [upd_ne n]; exact h1, L2.Paired.mapP h2 fun _ _ z => z.keep k⟩
def spLawDue : Sp := fun vs H Q _ => ∃ (v : V) (pr : List (Int × W)) (z : Int) (b : Addr) (ns : List Nat), vs = [v, .int z, .ref b] ∧ PrAt H v pr ∧ PrOk pr ∧ pr.length ≤ 5 ∧ H b = some (.lst (nV ns)) ∧ ns.length ≤ 24 ∧ (∀ x ∈ ns, x < pr.length) ∧
  ∀ H' u, Same H H' → BestAt H' u (bestC pr z ns) → Q u H'
theorem forests_ok {ps : List (List Nat)} {n : Nat} {st : List Int} (h : ps ∈ partL n) (hs : st ∈ forestsN ps.length) : TrOk n (ps, st).1 (ps, st).2 := standsN_ok (partN_ok n ((partL_mem n).mp h)) (forestsN_mem.mp hs)
end Ov
namespace Ov
open PySem PySem.Spec PyProof.Rows L2
theorem al_part {H : Hp} {d : Nat} {u v : V} {p : List Nat} (h : PartAt H u p) (g : PartAt H v p) (hl : p.length ≤ 9000) : Al H (d + 2) u v := by
  obtain ⟨a, rfl, e⟩ := h
  obtain ⟨b, rfl, e2⟩ := g
  rw [nV_ints] at e e2
  exact .inr (.inr ⟨a, b, _, _, rfl, rfl, e, e2, by rw [List.length_map, List.length_map]; exact hl, Al.ints _⟩)
theorem al_parts {H : Hp} {d : Nat} : ∀ {us vs : List V} {ps : List (List Nat)}, Paired (PartAt H) us ps → Paired (PartAt H) vs ps → (∀ p ∈ ps, p.length ≤ 9000) → Paired (Al H (d + 2)) us vs
  | _, _, _, .nil, .nil, _ => .nil
  | _, _, _, .cons h hs, .cons g gs, hl => .cons (al_part h g (hl _ List.mem_cons_self)) (al_parts hs gs fun p hp => hl p (List.mem_cons_of_mem _ hp))
theorem al_tree {H : Hp} {u v : V} {n : Nat} {t : Tre} (h : TreV H u t) (g : TreV H v t) (ok : TrOk n t.1 t.2) (h8 : n ≤ 8) : Al H 4 u v := by
  have few := part_few ok.p h8
  have hc := ok.p.count
  have hl := ok.len
  obtain ⟨a, pa, sa, us, rfl, e1, e2, e3, e4⟩ := h
  obtain ⟨b, pb, sb, vs, rfl, f1, f2, f3, f4⟩ := g
  have hul := Paired.length e3
  refine .inr (.inr ⟨a, b, _, _, rfl, rfl, e1, f1, by show 2 ≤ 9000; decide, .cons ?_ (.cons ?_ .nil)⟩)
  · exact .inr (.inr ⟨pa, pb, _, _, rfl, rfl, e2, f2, by omega, al_parts e3 f3 fun p hp => Nat.le_trans (few p hp) (by decide)⟩)
  · exact .inr (.inr ⟨sa, sb, _, _, rfl, rfl, e4, f4, by rw [List.length_map]; omega, Al.ints _⟩)
theorem best_al {H : Hp} {u v : V} {pr : List (Int × W)} {z : Int} {ns : List Nat} (h8 : pr.length ≤ 8) (h : BestAt H u (bestC pr z ns)) (g : BestAt H v (bestC pr z ns)) : Al H 5 u v := by
  cases e : bestC pr z ns with
  | none =>
    rw [e] at h g
    obtain rfl : u = .non := h
    obtain rfl : v = .non := g
    exact .inl ⟨rfl, rfl⟩
  | some c =>
    rw [e] at h g
    obtain ⟨t0, ht0, hk⟩ := bestC_mem e
    obtain ⟨n, t, rfl, a, tv, rfl, ea, ht⟩ := h
    obtain ⟨m, s, ec, b, sv, rfl, eb, hs⟩ := g
    obtain ⟨rfl, rfl⟩ := ctO_inj ec
    obtain ⟨_, rfl⟩ := ctO_inj hk
    have ok := treesN_ok (List.mem_filter.mp ht0).1
    exact .inr (.inr ⟨a, b, _, _, rfl, rfl, ea, eb, by show 2 ≤ 9000; decide, .cons (.inl ⟨rfl, rfl⟩) (.cons (al_tree ht hs ok h8) .nil)⟩)
end Ov

/-! ### a room for all: just what a trace names is brought in, once (k17) -/
namespace Ov
open PySem PySem.Spec PyProof.Rows L2
section
variable {od : List Nat} {n : Nat}
end
/-- a drawn program has no more functions than told -/
def spProgramL : Sp := fun vs H Q _ => ∃ h c m, vs = [.ref h, .int m] ∧ Dr H h c ∧ 1 ≤ m ∧ m ≤ 8 ∧ ∀ v H' p, But h c H H' → Dr H' h c → PrAt H' v p → PrOk p → (p.length : Int) ≤ m → Q v H'
end Ov

namespace K16
open PySem PySem.Spec PyProof.Rows L2 Ov
section
variable {P : Program} {w : World} {K : PySem.W.Frag} {mg : Str → Option Value} {base : Heap}
theorem sc_law_next : FnScope ["_law_h", "_law_many", "_law_at", "_law_cell"] ["_law_h", "_law_many"] (defScope s_law_next) := ⟨rfl, rfl, rfl, by decide +kernel, rfl, by decide +kernel, by decide +kernel⟩
-- 0 _law_h, 1 _law_many, 2 _law_at, 3 _law_cell
theorem ok_law_next (T : Txt w K mg) : FnOk P w K mg base CX0 1 (He.ga K "_law_next") (fdOf K d_law_next) ["_law_h", "_law_many"] spNext := by
  refine T.F_law_next.ok sc_law_next (fun vs H Q E h => ?_) (fun cdv A outer s H vs Q E hr h => ?_)
  · obtain ⟨h, c, n, rfl, _⟩ := h
    rfl
  obtain ⟨h, c, n, rfl, ⟨m, k, xs, hh, hc, h63⟩, n0, n1, q⟩ := h
  have nhc : h ≠ c := Dr.ne ⟨m, k, xs, hh, hc, h63⟩
  refine ⟨_, PSs.nox (pss_cons (ps_set (i := 2) sc_law_next.nd rfl (by first | exact Or.inl rfl | exact Or.inr rfl) (pe_op op_mod (pe_ix (r := rIxL K) ix_list (pv 0) pe_int (fun _ _ => rfl)) (pe_callB (call_max2 rfl) (by rfl) T.z_max (by decide +kernel) (pa_cons pe_int (pa_cons (pe_callB (r := Evl.rLenS K) call_len_seq (by rfl) T.z_len PySem.boot_len (pa_cons (pe_ix (r := rIxL K) ix_list (pv 0) pe_int (fun _ _ => rfl)) pa_nil)) pa_nil)))))
      (Evl.pss_cut (ps_set (i := 3) sc_law_next.nd rfl (by first | exact Or.inl rfl | exact Or.inr rfl) (pe_ifExp (pt_cmpR (r := rNeD K) (op_neD hr.units) (pe_ix (r := rIxL K) ix_list (pv 0) pe_int (fun _ _ => rfl)) (pe_lst pa_nil) (nomark _)) (pe_ix (r := rIxL K) ix_list (pe_ix (r := rIxL K) ix_list (pv 0) pe_int (fun _ _ => rfl)) (pv 2) (fun _ _ => rfl)) pe_int))
      (pss_cons (ps_if (pt_cmpR op_ge (pv 3) (pe_op op_pow pe_int pe_int) (nomark _)) (pss_cons (ps_asg (pe_op op_fdiv (pv 3) (pv 1)) (pg_sub (pe_ix (r := rIxL K) ix_list (pv 0) pe_int (fun _ _ => rfl)) (pv 2) set_list))
      (pss_one (ps_ret (pe_op op_mod (pv 3) (pv 1))))) pss_nil)
      (pss_cons (ps_asg (pe_op op_mod (pe_op op_add (pe_op op_add (pe_op op_mul (pe_ix (r := rIxL K) ix_list (pv 0) pe_int (fun _ _ => rfl)) pe_int) (pe_op op_mul (pv 3) pe_int)) pe_int) pe_int) (pg_sub (pv 0) pe_int set_list))
      (pss_cons (ps_asg (pe_op op_add (pe_ix (r := rIxL K) ix_list (pv 0) pe_int (fun _ _ => rfl)) pe_int) (pg_sub (pv 0) pe_int set_list))
      (pss_one (ps_ret (pe_op op_mod (pe_op op_fdiv (pe_ix (r := rIxL K) ix_list (pv 0) pe_int (fun _ _ => rfl)) pe_int) (pv 1))))))))), ?_⟩
  have hm : (0 : Int) < (if ((xs.map V.int).length : Int) > 1 then ((xs.map V.int).length : Int) else 1) := by split <;> omega
  refine ⟨_, rfl, h, _, 2, .int k, rfl, rfl, SqL.of hh, rfl, _, rfl, h, _, 1, .ref c, rfl, rfl, SqL.of hh, rfl, c, _, rfl, .inl (SqL.of hc), 1, _, rfl, k, _, rfl, rfl, hm, ?_⟩
  have ht : xs ≠ [] → ∃ (j : Nat) (z : Int), k % (if ((xs.map V.int).length : Int) > 1 then ((xs.map V.int).length : Int) else 1) = (j : Int) ∧ j < xs.length ∧ xs[j]? = some z := fun ne => by
    have l1 : 0 < xs.length := (by cases xs with | nil => exact absurd rfl ne | cons _ _ => exact Nat.succ_pos _)
    have b0 := Int.emod_nonneg k (Int.ne_of_gt hm)
    have b1 := Int.emod_lt_of_pos k hm
    generalize k % (if ((xs.map V.int).length : Int) > 1 then ((xs.map V.int).length : Int) else 1) = t at b0 b1
    have b2 : t < (xs.length : Int) := by
      rw [List.length_map] at b1
      split at b1 <;> omega
    have b3 : t.toNat < xs.length := by omega
    exact ⟨t.toNat, xs[t.toNat], by omega, b3, List.getElem?_eq_getElem b3⟩
  show Evl.tCut _ _ _ ([some (.ref h), some (.int n), some (.int (k % (if ((xs.map V.int).length : Int) > 1 then ((xs.map V.int).length : Int) else 1))), none] : L2.St) _
  generalize k % (if ((xs.map V.int).length : Int) > 1 then ((xs.map V.int).length : Int) else 1) = t at ht
  refine ⟨fun σ' H' => ∃ z : Int, σ' = [some (.ref h), some (.int n), some (.int t), some (.int z)] ∧ H' h = some (.lst [.int m, .ref c, .int k]) ∧ H' c = some (.lst (xs.map V.int)) ∧ But h c H H' ∧ (z ≠ 0 → ∃ j : Nat, t = (j : Int) ∧ j < xs.length), ?_, ?_⟩
  · refine ⟨_, rfl, h, _, 1, .ref c, rfl, rfl, SqL.of hh, rfl, sml 0, fun p hp => ?_⟩
    have ph : h ≠ p := ne_of_none hh hp
    have pc : c ≠ p := ne_of_none hc hp
    have hh1 : upd H p (.lst []) h = some (.lst [.int m, .ref c, .int k]) := by rw [upd_ne ph]; exact hh
    have hc1 : upd H p (.lst []) c = some (.lst (xs.map V.int)) := by rw [upd_ne pc]; exact hc
    refine ⟨.list (xs.map PyData.int), .list [], .lst (SqL.of hc1) (dpInts xs), .lst (SqL.of upd_same) .nil, intsShaped xs, intsShaped [], _, rfl, ?_⟩
    rw [eqvNil]
    by_cases e : xs = []
    · have e1 : xs.isEmpty = true := by rw [e]; rfl
      rw [e1]
      refine iteF ?_
      exact ⟨0, rfl, hh1, hc1, But.new hp, fun h => absurd rfl h⟩
    · have e1 : xs.isEmpty = false := by
        cases xs with
        | nil => exact absurd rfl e
        | cons _ _ => rfl
      rw [e1]
      refine iteT ?_
      obtain ⟨j, z, ej, hj, hz⟩ := ht e
      refine ⟨_, rfl, h, _, 1, .ref c, rfl, rfl, SqL.of hh1, rfl, _, rfl, c, _, t, .int z, rfl, rfl, SqL.of hc1, by rw [ej]; exact atI_nat (by rw [List.getElem?_map, hz]; rfl), ?_⟩
      exact ⟨z, rfl, hh1, hc1, But.new hp, fun _ => ⟨j, ej, hj⟩⟩
  rintro σ1 H1 ⟨z, rfl, hh1, hc1, b1, hz⟩
  refine ⟨_, rfl, 10, 18, rfl, rfl, (by refine ⟨by decide, by decide, by decide⟩), z, _, rfl, rfl, _, rfl, ite2 (fun e => ?_) (fun e => ?_)⟩
  · have e1 : (10 : Int) ^ (18 : Int).toNat ≤ z := of_decide_eq_true e
    have e2 : (0 : Int) < (10 : Int) ^ (18 : Int).toNat := by decide
    obtain ⟨j, ej, hj⟩ := hz (by omega)
    refine ⟨_, rfl, _, rfl, z, n, rfl, rfl, ⟨n0, by omega⟩, ?_⟩
    refine ⟨_, rfl, h, _, 1, .ref c, rfl, rfl, SqL.of hh1, rfl, _, rfl, c, _, t, j, rfl, rfl, hc1, ?_, ?_⟩
    · rw [ej]
      unfold ixN
      rw [List.length_map, if_pos (by omega), if_pos (by omega)]
      simp
    refine ⟨_, rfl, _, rfl, z, n, rfl, rfl, n0, ?_⟩
    refine q _ _ (Int.emod_nonneg _ (by omega)) (Int.emod_lt_of_pos _ n0) (b1.trans But.updc) ⟨m, k, xs.set j (z / n), ?_, ?_, ?_⟩
    · rw [upd_ne nhc]; exact hh1
    · rw [upd_same, List.map_set]
    · rw [List.length_set]; exact h63
  · refine ⟨_, rfl, h, _, 0, .int m, rfl, rfl, SqL.of hh1, rfl, m, 48271, rfl, rfl, .inr (by decide), _, rfl, z, 69621, rfl, rfl, .inr (by decide), _, _, rfl, rfl, _, 11, rfl, rfl, _, 2147483647, rfl, rfl, (by show (0 : Int) < 2147483647; decide), ?_⟩
    refine ⟨_, rfl, h, _, 0, 0, rfl, rfl, hh1, rfl, ?_⟩
    refine ⟨_, rfl, h, _, 2, .int k, rfl, rfl, SqL.of upd_same, rfl, k, 1, rfl, rfl, _, rfl, h, _, 2, 2, rfl, rfl, upd_same, rfl, ?_⟩
    refine ⟨_, rfl, h, _, 0, .int ((m * 48271 + z * 69621 + 11) % 2147483647), rfl, rfl, SqL.of upd_same, rfl, _, 7, rfl, rfl, ⟨by decide, by decide⟩, _, rfl, _, n, rfl, rfl, n0, ?_⟩
    refine q _ _ (Int.emod_nonneg _ (by omega)) (Int.emod_lt_of_pos _ n0) (b1.trans (But.updh.trans But.updh)) ⟨(m * 48271 + z * 69621 + 11) % 2147483647, k + 1, xs, upd_same, ?_, h63⟩
    rw [upd_ne nhc.symm, upd_ne nhc.symm]
    exact hc1
theorem sc_law_mix : FnScope ["_law_script", "_law_seed", "_law_mixed", "_law_cell"] ["_law_script", "_law_seed"] (defScope s_law_mix) := ⟨rfl, rfl, rfl, by decide +kernel, rfl, by decide +kernel, by decide +kernel⟩
-- 0 _law_script, 1 _law_seed, 2 _law_mixed, 3 _law_cell
theorem ok_law_mix (T : Txt w K mg) : FnOk P w K mg base CX0 1 (He.ga K "_law_mix") (fdOf K d_law_mix) ["_law_script", "_law_seed"] (spMix K) := by
  refine T.F_law_mix.ok sc_law_mix (fun vs H Q E h => ?_) (fun cdv A outer s H vs Q E hr h => ?_)
  · obtain ⟨a, ns, z, rfl, _⟩ := h
    rfl
  obtain ⟨a, ns, z, rfl, hS, h63, z0, z1, q⟩ := h
  refine ⟨_, PSs.nox (pss_cons (ps_set (i := 2) sc_law_mix.nd rfl (by first | exact Or.inl rfl | exact Or.inr rfl) (pv 1))
      (pss_cons (ps_for PassesOwn.never rfl (Ov.pi_listK (K := K) rfl (pv 0)) (pg_name (i := 3) sc_law_mix.nd rfl (by first | exact Or.inl rfl | exact Or.inr rfl)) (pss_one (ps_set (i := 2) sc_law_mix.nd rfl (by first | exact Or.inl rfl | exact Or.inr rfl) (pe_op op_mod (pe_op op_add (pe_op op_add (pe_op op_mul (pv 2) pe_int) (pe_op op_mod (pv 3) pe_int)) pe_int) pe_int))))
      (pss_one (ps_ret (pe_lst (pa_cons (pv 2) (pa_cons (pe_callTy (r := Evl.rListS K) call_list_of (by rfl) T.z_list (by decide +kernel) (pa_cons (pv 0) pa_nil)) (pa_cons pe_int pa_nil)))))))), ?_⟩
  refine ⟨_, rfl, _, rfl, a, rfl, ⟨_, hS⟩, for_list (K := K) (a := a) (xs := ns.map V.int) (fun _ σ H' => ∃ (y : Int) (v : Option V), σ = [some (.ref a), some (.int z), some (.int y), v] ∧ H' = H) ⟨z, none, rfl, rfl⟩ (fun i σ H' _ ⟨_, _, _, e⟩ => by rw [e]; exact hS) ?_ ?_⟩
  · rintro i x σ H' hi ⟨y, v, rfl, rfl⟩
    obtain ⟨u, rfl⟩ : ∃ u, x = V.int u := by
      rw [List.getElem?_map] at hi
      cases e : ns[i]? with
      | none => rw [e] at hi; cases hi
      | some u => rw [e] at hi; exact ⟨u, (Option.some.inj hi).symm⟩
    refine ⟨_, rfl, y, 48271, rfl, rfl, .inr (by decide), _, rfl, u, 2147483629, rfl, rfl, (by show (0 : Int) < 2147483629; decide), _, _, rfl, rfl, _, 1, rfl, rfl, _, 2147483647, rfl, rfl, (by show (0 : Int) < 2147483647; decide), ?_⟩
    exact ⟨_, _, rfl, rfl⟩
  · rintro σ H' ⟨y, v, rfl, rfl⟩
    refine ⟨_, rfl, _, rfl, a, _, rfl, .inl hS, fun c hc => ⟨sml 3, fun h hh => ?_⟩⟩
    have nc : c ≠ h := fun e => by rw [e, upd_same] at hh; cases hh
    have hh0 : H' h = none := by rw [upd_ne nc.symm] at hh; exact hh
    refine q h c _ hh0 hc ((Same.new hc).trans (Same.new hh)) ⟨y, 0, ns, upd_same, ?_, h63⟩
    rw [upd_ne nc, upd_same]
end
end K16

namespace K16
open PySem PySem.Spec PyProof.Rows L2 Ov
section
variable {P : Program} {w : World} {K : PySem.W.Frag} {mg : Str → Option Value} {base : Heap}
theorem sc_law_leaf : FnScope ["_law_h", "_law_e", "_law_kind_here", "_law_some", "_law_k"] ["_law_h", "_law_e", "_law_kind_here"] (defScope s_law_leaf) := ⟨rfl, rfl, rfl, by decide +kernel, rfl, by decide +kernel, by decide +kernel⟩
-- 0 _law_h, 1 _law_e, 2 _law_kind_here, 3 _law_some, 4 _law_k
theorem ok_law_leaf (T : Txt w K mg) {n : Nat} : FnOk P w K mg base CX0 2 (He.ga K "_law_leaf") (fdOf K d_law_leaf) ["_law_h", "_law_e", "_law_kind_here"] (spWord n 1 (preLeaf n)) := by
  have G_law_next := ok_law_next (P := P) (base := base) T
  refine T.F_law_leaf.ok sc_law_leaf (fun vs H Q E h => ?_) (fun cdv A outer s H vs Q E hr h => ?_)
  · obtain ⟨h, c, ⟨e, k, rfl, _⟩, _⟩ := h
    rfl
  obtain ⟨h, c, ⟨e, k, rfl, kk, came, pl, kl, ps, ks, x⟩, dr, q⟩ := h
  refine ⟨_, PSs.nox (Evl.pss_cut (ps_set (i := 3) sc_law_leaf.nd rfl (by first | exact Or.inl rfl | exact Or.inr rfl) (pe_op op_rep (pe_op op_rep (pe_lst (pa_cons (pe_tup (pa_cons pe_str pa_nil)) pa_nil)) pe_int) (pe_callTy call_int1 (by rfl) T.z_int (by decide +kernel) (pa_cons (pe_cmpR op_eq (pe_dget (hu_of hr) (pv 1) pe_str (fun _ _ => rfl)) (pv 2) (nomark _)) pa_nil))))
      (Evl.pss_cut (ps_if (pt_cmpR op_eq (pv 2) pe_str (nomark _)) (pss_one (ps_set (i := 3) sc_law_leaf.nd rfl (by first | exact Or.inl rfl | exact Or.inr rfl) (pe_op op_cat (pv 3) (pe_lst (pa_cons (pe_tup (pa_cons pe_str (pa_cons (pe_ix (r := rIxL K) ix_list (pe_lst (pa_cons (pe_call G_law_next (hr.mono (by omega)) (by rfl) T.g_law_next T.kp_law_next T.b_law_next .nil pass0 (pa_cons (pv 0) (pa_cons pe_int pa_nil))) (pa_cons (pe_call G_law_next (hr.mono (by omega)) (by rfl) T.g_law_next T.kp_law_next T.b_law_next .nil pass0 (pa_cons (pv 0) (pa_cons pe_int pa_nil))) pa_nil))) (pe_call G_law_next (hr.mono (by omega)) (by rfl) T.g_law_next T.kp_law_next T.b_law_next .nil pass0 (pa_cons (pv 0) (pa_cons pe_int pa_nil))) (fun _ _ => rfl)) pa_nil))) pa_nil))))) (pss_one (ps_set (i := 3) sc_law_leaf.nd rfl (by first | exact Or.inl rfl | exact Or.inr rfl) (pe_op op_cat (pv 3) (pe_lc (own := [("_law_k", 4)]) rfl sc_law_leaf.nd (pi_range1 (by rfl) T.z_range (pa_cons pe_int pa_nil)) (blkOk_by (own := [("_law_k", 4)]) (N := ["_law_h", "_law_e", "_law_kind_here", "_law_some", "_law_k"]) (sc := defScope s_law_leaf) (by decide +kernel)) (fun _ _ _ _ _ => (pg_name (i := 4) sc_law_leaf.nd rfl (by first | exact Or.inl rfl | exact Or.inr rfl))) (fun _ _ _ _ _ => pts_nil) (fun _ _ _ _ _ => (pe_tup (pa_cons pe_str (pa_cons (pe_ix (r := rIxL K) ix_list (pe_dget (hu_of hr) (pv 1) pe_str (fun _ _ => rfl)) (pe_call G_law_next (hr.mono (by omega)) (by rfl) T.g_law_next T.kp_law_next T.b_law_next .nil pass0 (pa_cons (pv 0) (pa_cons (pe_callB (r := Evl.rLenS K) call_len_seq (by rfl) T.z_len PySem.boot_len (pa_cons (pe_dget (hu_of hr) (pv 1) pe_str (fun _ _ => rfl)) pa_nil)) pa_nil))) (fun _ _ => rfl)) pa_nil)))))))))
      (pss_one (ps_ret (pe_ix (r := rIxL K) ix_list (pv 3) (pe_call G_law_next (hr.mono (by omega)) (by rfl) T.g_law_next T.kp_law_next T.b_law_next .nil pass0 (pa_cons (pv 0) (pa_cons (pe_callB (r := Evl.rLenS K) call_len_seq (by rfl) T.z_len PySem.boot_len (pa_cons (pv 3) pa_nil)) pa_nil))) (fun _ _ => rfl)))))), ?_⟩
  have hk0 : Keep H H := Keep.refl H
  refine ⟨fun σ' H' => ∃ (l : Addr) (xs : List V), σ' = [some (.ref h), some (.ref e), some (.str k), some (.ref l), none] ∧ Same H H' ∧ H l = none ∧ H' l = some (.lst xs) ∧ xs.length ≤ 3 ∧ ∀ v ∈ xs, Wd H' n 1 v, ?_, ?_⟩
  · refine ⟨sml 1, fun t ht => ⟨sml 1, fun l hl => ⟨l, 3, _, rfl, rfl, upd_same, by decide, by decide, (by show 1 * 3 ≤ sizeLine; decide), fun p1 hp1 => ?_⟩⟩⟩
    have ntl : t ≠ l := fun z => by rw [z] at ht; rw [z, upd_same] at hl; cases hl
    have ntp : t ≠ p1 := fun z => by rw [z, upd_ne ((fun y => by rw [y, upd_same] at hp1; cases hp1) : p1 ≠ l), upd_same] at hp1; cases hp1
    have s1 : Same H (upd (upd (upd H t (.tup [.str "argument"])) l (.lst [.ref t])) p1 (.lst (List.replicate (3 : Int).toNat [V.ref t]).flatten)) := (Same.new ht).trans ((Same.new hl).trans (Same.new hp1))
    refine ⟨_, rfl, e, .str came, rfl, DGet.k (k := Sum.inr "came") (s1 _ _ x.e), _, rfl, rfl, .inr ⟨_, rfl, ?_⟩⟩
    refine ⟨p1, _, _, rfl, rfl, upd_same, ?_, ?_, ?_, fun p2 hp2 => ?_⟩
    · split <;> decide
    · split <;> decide
    · split
      · show 3 * 1 ≤ sizeLine
        decide
      · show 3 * 0 ≤ sizeLine
        decide
    refine ⟨p2, _, rfl, s1.trans (Same.new hp2), s1.free hp2, upd_same, ?_, fun v hv => ?_⟩
    · split
      · exact Nat.le_refl 3
      · exact Nat.zero_le 3
    · have ev : v = .ref t := by
        split at hv
        · have hv2 : v ∈ [V.ref t, .ref t, .ref t] := hv
          simpa using hv2
        · cases hv
      rw [ev]
      refine wd0 (d := 0) .arg 0 ?_ trivial
      have np2 : t ≠ p2 := fun z => by
        rw [← z, upd_ne ntp, upd_ne ntl, upd_same] at hp2
        cases hp2
      rw [upd_ne np2, upd_ne ntp, upd_ne ntl, upd_same]
      rfl
  rintro σ1 H1 ⟨l, xs, rfl, s1, hl0, hl, hx3, hw⟩
  have d1 : Dr H1 h c := dr.same s1
  have x1 := x.same s1
  have lh := (Dr.new dr hl0)
  have b1 : But h c H H1 := .same s1
  refine ⟨fun σ' H' => ∃ (l : Addr) (xs : List V), σ' = [some (.ref h), some (.ref e), some (.str k), some (.ref l), none] ∧ But h c H H' ∧ Dr H' h c ∧ l ≠ h ∧ l ≠ c ∧ H' l = some (.lst xs) ∧ xs ≠ [] ∧ xs.length ≤ 9 ∧ ∀ v ∈ xs, Wd H' n 1 v, ?_, ?_⟩
  · refine ⟨_, rfl, rfl, _, rfl, ite2 (fun ek => ?_) (fun ek => ?_)⟩
    · refine ⟨_, rfl, _, rfl, h, c, 4, rfl, d1, by decide, by decide, fun r1 H2 r10 r11 b2 d2 => ?_⟩
      refine ⟨_, rfl, h, c, 100, rfl, d2, by decide, by decide, fun r2 H3 r20 r21 b3 d3 => ⟨sml 2, fun l2 hl2 => ?_⟩⟩
      have d3' : Dr (upd H3 l2 (.lst [.int r1, .int r2])) h c := d3.same (Same.new hl2)
      refine ⟨_, rfl, h, c, 2, rfl, d3', by decide, by decide, fun r3 H4 r30 r31 b4 d4 => ?_⟩
      have n2 := Dr.new d3 hl2
      refine ⟨l2, _, r3, _, rfl, rfl, SqL.of (b4 _ _ n2.1 n2.2 upd_same), two_at _ _ r30 r31, ?_⟩
      refine ⟨sml 2, fun t ht => ⟨sml 1, fun l3 hl3 => ?_⟩⟩
      have b14 : But h c H1 H4 := b2.trans (b3.trans ((But.new hl2).trans b4))
      have hl4 : H4 l = some (.lst xs) := b14 _ _ lh.1 lh.2 hl
      have s46 : Same H4 (upd (upd H4 t (.tup [.str "num", if r3 = 0 then .int r1 else .int r2])) l3 (.lst [.ref t])) := (Same.new ht).trans (Same.new hl3)
      refine ⟨l, l3, xs, _, rfl, rfl, s46 _ _ hl4, upd_same, sml _ (by rw [List.length_singleton]; omega), fun p hp => ?_⟩
      have s7 := s46.trans (Same.new (o := .lst (xs ++ [.ref t])) hp)
      have np := Dr.new (d4.same s46) hp
      have ntl3 : t ≠ l3 := fun z => by rw [z, upd_same] at hl3; cases hl3
      have ntp : t ≠ p := fun z => by rw [← z, upd_ne ntl3, upd_same] at hp; cases hp
      refine ⟨p, _, rfl, b1.trans (b14.trans (.same s7)), d4.same s7, np.1, np.2, upd_same, by simp, by rw [List.length_append, List.length_singleton]; omega, wds_app (wds_keep ((Keep.but b14 d1).trans (Keep.same s7)) hw) (wds_one ?_)⟩
      refine wd0 (d := 0) .num (if r3 = 0 then r1 else r2) ?_ (by split <;> exact ⟨by omega, by omega⟩)
      rw [upd_ne ntp, upd_ne ntl3, upd_same]
      split <;> rfl
    · refine ⟨_, rfl, 2, rfl, by decide, by decide, fun D hD => ?_⟩
      have nD := Dr.new d1 hD
      refine lc_rangeY (lo := 0) (n := 2) (fun i H' => ∃ acc, But h c H1 H' ∧ Dr H' h c ∧ H' D = some (.lst acc) ∧ acc.length = i ∧ ∀ v ∈ acc, Wd H' n 1 v) ⟨[], But.new hD, d1.same (Same.new hD), upd_same, rfl, fun _ h => by cases h⟩ ?_ ?_
      · rintro i H2 hi ⟨acc, b2, d2, hacc, hlen, hwa⟩
        have x2 := x1.but d1 b2
        refine ⟨rfl, ?_⟩
        refine ⟨_, rfl, e, .ref pl, rfl, DGet.k (k := Sum.inr "plain") x2.e, ?_⟩
        refine ⟨_, rfl, _, rfl, e, .ref pl, rfl, DGet.k (k := Sum.inr "plain") x2.e, pl, _, rfl, .inl (SqL.of x2.p), ?_⟩
        refine ⟨h, c, _, rfl, d2, (by rw [List.length_map]; have := List.length_pos_iff.mpr x2.p0; omega), (by rw [List.length_map]; have := x2.p8; omega), fun r H3 r0 r1 b3 d3 => ?_⟩
        have x3 := x2.but d2 b3
        rw [List.length_map] at r1
        obtain ⟨z, hz, ez⟩ := int_at (P := fun x => 0 ≤ x ∧ x < n) x3.pn r0 r1
        refine ⟨pl, _, r, .int z, rfl, rfl, SqL.of x3.p, ez, sml 2, fun t ht => ?_⟩
        have hacc3 : H3 D = some (.lst acc) := b3 _ _ nD.1 nD.2 hacc
        have d4 : Dr (upd H3 t (.tup [.str "way", .int z])) h c := d3.same (Same.new ht)
        have ntD : D ≠ t := ne_of_none hacc3 ht
        have k24 : Keep H2 (upd H3 t (.tup [.str "way", .int z])) := (Keep.but b3 d2).trans (Keep.same (Same.new ht))
        have hD4 : (upd H3 t (.tup [.str "way", .int z])) D = some (.lst acc) := by rw [upd_ne ntD]; exact hacc3
        have hw4 : ∀ v ∈ acc ++ [V.ref t], Wd (upd H3 t (.tup [.str "way", .int z])) n 1 v := wds_app (wds_keep k24 hwa) (wds_one (wd0 (d := 0) .way z upd_same hz))
        exact ⟨acc, hD4, sm _, acc ++ [.ref t], ((b2.trans b3).trans (But.new ht)).updn hD, d4.upd nD.1 nD.2, upd_same, by rw [List.length_append, List.length_singleton, hlen], wds_keep (Keep.updL hD4) hw4⟩
      · rintro H2 ⟨acc, b2, d2, hacc, hlen, hwa⟩
        have hl2 : H2 l = some (.lst xs) := b2 _ _ lh.1 lh.2 hl
        refine ⟨l, D, xs, acc, rfl, rfl, hl2, hacc, sml _, fun p hp => ?_⟩
        have np := Dr.new d2 hp
        refine ⟨p, _, rfl, b1.trans (b2.trans (But.new hp)), d2.same (Same.new hp), np.1, np.2, upd_same, ?_, by rw [List.length_append]; omega, wds_keep (Keep.same (Same.new hp)) (wds_app (wds_keep (Keep.but b2 d1) hw) hwa)⟩
        intro z
        have z2 := congrArg List.length z
        rw [List.length_append, hlen] at z2
        simp at z2
  rintro σ2 H2 ⟨l, xs, rfl, b2, d2, lh, lc, hl, hx0, hx9, hw⟩
  have hx1 : 0 < xs.length := List.length_pos_iff.mpr hx0
  refine ⟨_, rfl, _, rfl, _, rfl, l, _, rfl, .inl (SqL.of hl), h, c, _, rfl, d2, by omega, by omega, fun r H3 r0 r1 b3 d3 => ?_⟩
  obtain ⟨v, hv, ev⟩ := val_at hw r0 r1
  exact ⟨l, _, r, v, rfl, rfl, SqL.of (b3 _ _ lh lc hl), ev, q v H3 (b2.trans b3) d3 (hv.keep (Keep.but b3 d2))⟩
end
end K16

namespace K16
open PySem PySem.Spec PyProof.Rows L2 Ov
section
variable {P : Program} {w : World} {K : PySem.W.Frag} {mg : Str → Option Value} {base : Heap}
theorem sc_law_less : FnScope ["_law_h", "_law_e", "_law_deep"] ["_law_h", "_law_e", "_law_deep"] (defScope s_law_less) := ⟨rfl, rfl, rfl, by decide +kernel, rfl, by decide +kernel, by decide +kernel⟩
-- 0 _law_h, 1 _law_e, 2 _law_deep
theorem ok_law_less (T : Txt w K mg) {n m : Nat} (G_law_body : FnOk P w K mg base CX0 (3 * m + 3) (He.ga K "_law_body") (fdOf K d_law_body) ["_law_h", "_law_e", "_law_kind_here", "_law_deep"] (spWord n (m + 2) (preBody n m))) :
    FnOk P w K mg base CX0 (3 * m + 4) (He.ga K "_law_less") (fdOf K d_law_less) ["_law_h", "_law_e", "_law_deep"] (spWord n (m + 2) (preDeep n m)) := by
  have G_law_next := ok_law_next (P := P) (base := base) T
  refine T.F_law_less.ok sc_law_less (fun vs H Q E h => ?_) (fun cdv A outer s H vs Q E hr h => ?_)
  · obtain ⟨h, c, ⟨e, z, rfl, _⟩, _⟩ := h
    rfl
  obtain ⟨h, c, ⟨e, z, rfl, ez, x⟩, dr, q⟩ := h
  have x' := x
  obtain ⟨came, pl, kl, ps, ks, xe⟩ := x'
  refine ⟨_, PSs.nox (pss_cons (ps_if (PW.pt (pw_and (pt_cmpR op_eq (pe_dget (hu_of hr) (pv 1) pe_str (fun _ _ => rfl)) pe_str (nomark _)) (pw_and1 (pt_cmpR op_gt (pe_call G_law_next (hr.mono (by omega)) (by rfl) T.g_law_next T.kp_law_next T.b_law_next .nil pass0 (pa_cons (pv 0) (pa_cons pe_int pa_nil))) pe_int (nomark _))))) (pss_one (ps_ret (pe_tup (pa_cons pe_str (pa_cons (pe_tup (pa_cons pe_str pa_nil)) (pa_cons (pe_tup (pa_cons pe_str (pa_cons pe_int pa_nil))) pa_nil)))))) pss_nil)
      (pss_one (ps_ret (pe_call G_law_body (hr.mono (by omega)) (by rfl) T.g_law_body T.kp_law_body T.b_law_body .nil pass0 (pa_cons (pv 0) (pa_cons (pv 1) (pa_cons pe_str (pa_cons (pv 2) pa_nil)))))))), ?_⟩
  have go : ∀ H', But h c H H' → Dr H' h c → spWord n (m + 2) (preBody n m) [.ref h, .ref e, .str "number", .int z] H' Q E := fun H' b d => ⟨h, c, ⟨e, _, z, rfl, ez, kindN, x.but dr b⟩, d, fun v H2 b2 d2 hv => q v H2 (b.trans b2) d2 hv⟩
  refine ⟨_, rfl, e, .str came, rfl, DGet.k (k := Sum.inr "came") xe.e, rfl, _, rfl, ite2 (fun a => ?_) (fun a => ?_)⟩
  · refine ⟨_, rfl, h, c, 4, rfl, dr, by decide, by decide, fun r H2 r0 r1 b2 d2 => ⟨_, 0, rfl, rfl, _, rfl, ite2 (fun _ => ?_) (fun _ => ?_)⟩⟩
    · refine ⟨sml 1, fun t1 h1 => ⟨sml 2, fun t2 h2 => ⟨sml 3, fun t3 h3 => ?_⟩⟩⟩
      have s3 := (Same.new (o := .tup [.str "argument"]) h1).trans ((Same.new (o := .tup [.str "num", .int 1]) h2).trans (Same.new (o := .tup [.str "less", .ref t1, .ref t2]) h3))
      have n12 : t1 ≠ t2 := ne_of_none upd_same h2
      have n13 : t1 ≠ t3 := ne_of_none (by rw [upd_ne n12]; exact upd_same) h3
      have n23 : t2 ≠ t3 := ne_of_none upd_same h3
      refine q _ _ (b2.trans (.same s3)) (d2.same s3) (Wd.mono (wd2 (d := 1) .less 0 upd_same trivial (wd0 (d := 0) .arg 0 ?_ trivial) (wd0 (d := 0) .num 1 ?_ ⟨by decide, by decide⟩)) (by omega))
      · rw [upd_ne n13, upd_ne n12, upd_same]; rfl
      · rw [upd_ne n23, upd_same]; rfl
    · exact ⟨_, rfl, _, rfl, _, rfl, go H2 b2 d2⟩
  · exact ⟨_, rfl, _, rfl, _, rfl, go H (But.refl H) dr⟩
theorem sc_law_call : FnScope ["_law_h", "_law_e", "_law_deep", "_law_called", "_law_kind_here", "_law_arm"] ["_law_h", "_law_e", "_law_deep"] (defScope s_law_call) := ⟨rfl, rfl, rfl, by decide +kernel, rfl, by decide +kernel, by decide +kernel⟩
-- 0 _law_h, 1 _law_e, 2 _law_deep, 3 _law_called, 4 _law_kind_here, 5 _law_arm
theorem ok_law_call (T : Txt w K mg) {n m : Nat} (G_law_body : FnOk P w K mg base CX0 (3 * m + 3) (He.ga K "_law_body") (fdOf K d_law_body) ["_law_h", "_law_e", "_law_kind_here", "_law_deep"] (spWord n (m + 2) (preBody n m))) :
    FnOk P w K mg base CX0 (3 * m + 5) (He.ga K "_law_call") (fdOf K d_law_call) ["_law_h", "_law_e", "_law_deep"] (spWord n (m + 3) (preDeep n (m + 1))) := by
  have G_law_next := ok_law_next (P := P) (base := base) T
  have G_law_less := ok_law_less (P := P) (base := base) T G_law_body
  refine T.F_law_call.ok sc_law_call (fun vs H Q E h => ?_) (fun cdv A outer s H vs Q E hr h => ?_)
  · obtain ⟨h, c, ⟨e, z, rfl, _⟩, _⟩ := h
    rfl
  obtain ⟨h, c, ⟨e, z, rfl, ez, x⟩, dr, q⟩ := h
  have ez1 : z - 1 = (m : Int) := by omega
  refine ⟨_, PSs.nox (pss_cons (ps_if (pt_cmpR op_eq (pe_call G_law_next (hr.mono (by omega)) (by rfl) T.g_law_next T.kp_law_next T.b_law_next .nil pass0 (pa_cons (pv 0) (pa_cons pe_int pa_nil))) pe_int (nomark _)) (pss_one (ps_ret (pe_tup (pa_cons pe_str (pa_cons (pe_call G_law_body (hr.mono (by omega)) (by rfl) T.g_law_body T.kp_law_body T.b_law_body .nil pass0 (pa_cons (pv 0) (pa_cons (pv 1) (pa_cons pe_str (pa_cons (pe_op op_sub (pv 2) pe_int) pa_nil))))) (pa_cons (pe_call G_law_less (hr.mono (by omega)) (by rfl) T.g_law_less T.kp_law_less T.b_law_less .nil pass0 (pa_cons (pv 0) (pa_cons (pv 1) (pa_cons (pe_op op_sub (pv 2) pe_int) pa_nil)))) pa_nil)))))) pss_nil)
      (pss_cons (ps_set (i := 3) sc_law_call.nd rfl (by first | exact Or.inl rfl | exact Or.inr rfl) (pe_call G_law_next (hr.mono (by omega)) (by rfl) T.g_law_next T.kp_law_next T.b_law_next .nil pass0 (pa_cons (pv 0) (pa_cons (pe_callB (r := Evl.rLenS K) call_len_seq (by rfl) T.z_len PySem.boot_len (pa_cons (pe_dget (hu_of hr) (pv 1) pe_str (fun _ _ => rfl)) pa_nil)) pa_nil))))
      (pss_cons (ps_set (i := 4) sc_law_call.nd rfl (by first | exact Or.inl rfl | exact Or.inr rfl) (pe_ix (r := rIxL K) ix_list (pe_dget (hu_of hr) (pv 1) pe_str (fun _ _ => rfl)) (pv 3) (fun _ _ => rfl)))
      (Evl.pss_cut (ps_if (pt_cmpR op_eq (pe_call G_law_next (hr.mono (by omega)) (by rfl) T.g_law_next T.kp_law_next T.b_law_next .nil pass0 (pa_cons (pv 0) (pa_cons pe_int pa_nil))) pe_int (nomark _)) (pss_one (ps_set (i := 4) sc_law_call.nd rfl (by first | exact Or.inl rfl | exact Or.inr rfl) (pe_ix (r := rIxL K) ix_list (pe_lst (pa_cons pe_str (pa_cons pe_str pa_nil))) (pe_call G_law_next (hr.mono (by omega)) (by rfl) T.g_law_next T.kp_law_next T.b_law_next .nil pass0 (pa_cons (pv 0) (pa_cons pe_int pa_nil))) (fun _ _ => rfl)))) pss_nil)
      (pss_cons (ps_set (i := 5) sc_law_call.nd rfl (by first | exact Or.inl rfl | exact Or.inr rfl) (pe_ifExp (pt_cmpR op_eq (pv 4) pe_str (nomark _)) (pe_call G_law_less (hr.mono (by omega)) (by rfl) T.g_law_less T.kp_law_less T.b_law_less .nil pass0 (pa_cons (pv 0) (pa_cons (pv 1) (pa_cons (pe_op op_sub (pv 2) pe_int) pa_nil)))) (pe_call G_law_body (hr.mono (by omega)) (by rfl) T.g_law_body T.kp_law_body T.b_law_body .nil pass0 (pa_cons (pv 0) (pa_cons (pv 1) (pa_cons pe_str (pa_cons (pe_op op_sub (pv 2) pe_int) pa_nil)))))))
      (pss_one (ps_ret (pe_tup (pa_cons pe_str (pa_cons (pv 3) (pa_cons (pv 5) pa_nil))))))))))), ?_⟩
  refine ⟨_, rfl, h, c, 3, rfl, dr, by decide, by decide, fun r H2 r0 r1 b2 d2 => ⟨rfl, _, rfl, ite2 (fun _ => ?_) (fun _ => ?_)⟩⟩
  · refine ⟨_, rfl, _, rfl, _, rfl, z, 1, rfl, rfl, h, c, ⟨e, _, _, rfl, ez1, kindW, x.but dr b2⟩, d2, fun v1 H3 b3 d3 w1 => ?_⟩
    refine ⟨_, rfl, _, rfl, _, rfl, z, 1, rfl, rfl, h, c, ⟨e, _, rfl, ez1, (x.but dr b2).but d2 b3⟩, d3, fun v2 H4 b4 d4 w2 => ?_⟩
    refine ⟨sml 3, fun t ht => ?_⟩
    have k4 := Keep.same (Same.new (o := .tup [.str "through", v1, v2]) ht)
    exact q _ _ (b2.trans (b3.trans (b4.trans (But.new ht)))) (d4.same (Same.new ht)) (wd2 .through 0 upd_same trivial (w1.keep ((Keep.but b4 d3).trans k4)) (w2.keep k4))
  · obtain ⟨came, pl, kl, ps, ks, xe⟩ := x.but dr b2
    refine ⟨_, rfl, _, rfl, e, .ref kl, rfl, DGet.k (k := Sum.inr "kinds") xe.e, kl, _, rfl, .inl (SqL.of xe.k), ?_⟩
    refine ⟨h, c, _, rfl, d2, (by rw [List.length_map, xe.kn]; have := xe.n1; omega), (by rw [List.length_map, xe.kn]; have := xe.n8; omega), fun r3 H3 r30 r31 b3 d3 => ?_⟩
    rw [List.length_map] at r31
    have xe3 := xe.but d2 b3
    obtain ⟨kd, hkd, ekd⟩ := kind_at xe3.kk r30 r31
    refine ⟨_, rfl, e, .ref kl, rfl, DGet.k (k := Sum.inr "kinds") xe3.e, _, rfl, kl, _, r3, .str kd, rfl, rfl, SqL.of xe3.k, ekd, ?_⟩
    have x3 : preE n h c e H3 := ⟨came, pl, kl, ps, ks, xe3⟩
    have b13 := b2.trans b3
    refine ⟨fun σ' H' => ∃ kd, KindS kd ∧ σ' = [some (.ref h), some (.ref e), some (.int z), some (.int r3), some (.str kd), none] ∧ But h c H3 H' ∧ Dr H' h c, ?_, ?_⟩
    · refine ⟨_, rfl, h, c, 12, rfl, d3, by decide, by decide, fun r4 H4 r40 r41 b4 d4 => ⟨rfl, _, rfl, ite2 (fun _ => ?_) (fun _ => ?_)⟩⟩
      · refine ⟨sml 2, fun l hl => ?_⟩
        have d4' := d4.same (Same.new (o := .lst [.str "number", .str "way"]) hl)
        have nl := Dr.new d4 hl
        refine ⟨_, rfl, h, c, 2, rfl, d4', by decide, by decide, fun r5 H5 r50 r51 b5 d5 => ?_⟩
        obtain ⟨k5, hk5, e5⟩ := two_kinds r5 r50 r51
        exact ⟨l, _, r5, .str k5, rfl, rfl, SqL.of (b5 _ _ nl.1 nl.2 upd_same), e5, k5, hk5, rfl, b4.trans ((But.new hl).trans b5), d5⟩
      · exact ⟨kd, hkd, rfl, b4, d4⟩
    rintro σ5 H5 ⟨k5, hk5, rfl, b5, d5⟩
    have x5 := x3.but d3 b5
    have fin : ∀ v H6, But h c H5 H6 → Dr H6 h c → Wd H6 n (m + 2) v → tTup (tCons (tC (.str "call")) (tCons (tVar 3) (tCons (tVar 5) tNil))) [some (.ref h), some (.ref e), some (.int z), some (.int r3), some (.str k5), some v] H6 Q := fun v H6 b6 d6 w6 => by
      refine ⟨_, rfl, _, rfl, sml 3, fun t ht => ?_⟩
      have k6 := Keep.same (Same.new (o := .tup [.str "call", .int r3, v]) ht)
      refine q _ _ (b13.trans (b5.trans (b6.trans (But.new ht)))) (d6.same (Same.new ht)) (wd1 .call r3 upd_same ⟨r30, by rw [xe.kn] at r31; omega⟩ (w6.keep k6))
    refine ⟨_, rfl, rfl, _, rfl, ite2 (fun _ => ?_) (fun _ => ?_)⟩
    · exact ⟨_, rfl, _, rfl, _, rfl, z, 1, rfl, rfl, h, c, ⟨e, _, rfl, ez1, x5⟩, d5, fun v1 H6 b6 d6 w6 => fin v1 H6 b6 d6 w6⟩
    · exact ⟨_, rfl, _, rfl, _, rfl, z, 1, rfl, rfl, h, c, ⟨e, _, _, rfl, ez1, kindW, x5⟩, d5, fun v1 H6 b6 d6 w6 => fin v1 H6 b6 d6 w6⟩
theorem sc_law_body : FnScope ["_law_h", "_law_e", "_law_kind_here", "_law_deep", "_law_turn", "_law_test", "_law_other", "_law_word"] ["_law_h", "_law_e", "_law_kind_here", "_law_deep"] (defScope s_law_body) := ⟨rfl, rfl, rfl, by decide +kernel, rfl, by decide +kernel, by decide +kernel⟩
-- 0 _law_h, 1 _law_e, 2 _law_kind_here, 3 _law_deep, 4 _law_turn, 5 _law_test, 6 _law_other, 7 _law_word
theorem ok_law_body0 (T : Txt w K mg) {n : Nat} : FnOk P w K mg base CX0 3 (He.ga K "_law_body") (fdOf K d_law_body) ["_law_h", "_law_e", "_law_kind_here", "_law_deep"] (spWord n (0 + 2) (preBody n 0)) := by
  have G_law_next := ok_law_next (P := P) (base := base) T
  have G_law_leaf := ok_law_leaf (P := P) (base := base) (n := n) T
  refine T.F_law_body.ok sc_law_body (fun vs H Q E h => ?_) (fun cdv A outer s H vs Q E hr h => ?_)
  · obtain ⟨h, c, ⟨e, k, z, rfl, _⟩, _⟩ := h
    rfl
  obtain ⟨h, c, ⟨e, k, z, rfl, ez, hk, x⟩, dr, q⟩ := h
  refine ⟨_, PSs.nox (pss_cons (ps_set (i := 4) sc_law_body.nd rfl (by first | exact Or.inl rfl | exact Or.inr rfl) (pe_call G_law_next (hr.mono (by omega)) (by rfl) T.g_law_next T.kp_law_next T.b_law_next .nil pass0 (pa_cons (pv 0) (pa_cons pe_int pa_nil))))
      (pss_cons (ps_if (PW.pt (pw_or (pt_cmpR op_lt (pv 3) pe_int (nomark _)) (pw_or1 (pt_cmpR op_lt (pv 4) pe_int (nomark _))))) (pss_one (ps_ret (pe_call G_law_leaf (hr.mono (by omega)) (by rfl) T.g_law_leaf T.kp_law_leaf T.b_law_leaf .nil pass0 (pa_cons (pv 0) (pa_cons (pv 1) (pa_cons (pv 2) pa_nil)))))) pss_nil)
      pss_never)), ?_⟩
  refine ⟨_, rfl, h, c, 10, rfl, dr, by decide, by decide, fun r H2 r0 r1 b2 d2 => ?_⟩
  have hz : decide (z < 1) = true := decide_eq_true (by omega)
  refine ⟨_, rfl, z, 1, rfl, rfl, _, rfl, ?_⟩
  rw [hz]
  exact ⟨_, rfl, _, rfl, _, rfl, h, c, ⟨e, k, rfl, hk, x.but dr b2⟩, d2, fun v H3 b3 d3 w3 => q v H3 (b2.trans b3) d3 (w3.mono (by omega))⟩

theorem ok_law_bodyS (T : Txt w K mg) {n m : Nat} (G_law_body : FnOk P w K mg base CX0 (3 * m + 3) (He.ga K "_law_body") (fdOf K d_law_body) ["_law_h", "_law_e", "_law_kind_here", "_law_deep"] (spWord n (m + 2) (preBody n m))) :
    FnOk P w K mg base CX0 (3 * (m + 1) + 3) (He.ga K "_law_body") (fdOf K d_law_body) ["_law_h", "_law_e", "_law_kind_here", "_law_deep"] (spWord n ((m + 1) + 2) (preBody n (m + 1))) := by
  have G_law_next := ok_law_next (P := P) (base := base) T
  have G_law_leaf := ok_law_leaf (P := P) (base := base) (n := n) T
  have G_law_call := ok_law_call (P := P) (base := base) T G_law_body
  refine T.F_law_body.ok sc_law_body (fun vs H Q E h => ?_) (fun cdv A outer s H vs Q E hr h => ?_)
  · obtain ⟨h, c, ⟨e, k, z, rfl, _⟩, _⟩ := h
    rfl
  obtain ⟨h, c, ⟨e, k, z, rfl, ez, hk, x⟩, dr, q⟩ := h
  have ez1 : z - 1 = (m : Int) := by omega
  refine ⟨_, PSs.nox (pss_cons (ps_set (i := 4) sc_law_body.nd rfl (by first | exact Or.inl rfl | exact Or.inr rfl) (pe_call G_law_next (hr.mono (by omega)) (by rfl) T.g_law_next T.kp_law_next T.b_law_next .nil pass0 (pa_cons (pv 0) (pa_cons pe_int pa_nil))))
      (pss_cons (ps_if (PW.pt (pw_or (pt_cmpR op_lt (pv 3) pe_int (nomark _)) (pw_or1 (pt_cmpR op_lt (pv 4) pe_int (nomark _))))) (pss_one (ps_ret (pe_call G_law_leaf (hr.mono (by omega)) (by rfl) T.g_law_leaf T.kp_law_leaf T.b_law_leaf .nil pass0 (pa_cons (pv 0) (pa_cons (pv 1) (pa_cons (pv 2) pa_nil)))))) pss_nil)
      (pss_cons (ps_if (pt_cmpR op_lt (pv 4) pe_int (nomark _)) (pss_cons (ps_set (i := 5) sc_law_body.nd rfl (by first | exact Or.inl rfl | exact Or.inr rfl) (pe_call G_law_body (hr.mono (by omega)) (by rfl) T.g_law_body T.kp_law_body T.b_law_body .nil pass0 (pa_cons (pv 0) (pa_cons (pv 1) (pa_cons pe_str (pa_cons (pe_op op_sub (pv 3) pe_int) pa_nil))))))
      (pss_one (ps_ret (pe_tup (pa_cons pe_str (pa_cons (pv 5) (pa_cons (pe_call G_law_body (hr.mono (by omega)) (by rfl) T.g_law_body T.kp_law_body T.b_law_body .nil pass0 (pa_cons (pv 0) (pa_cons (pv 1) (pa_cons (pv 2) (pa_cons (pe_op op_sub (pv 3) pe_int) pa_nil))))) (pa_cons (pe_call G_law_body (hr.mono (by omega)) (by rfl) T.g_law_body T.kp_law_body T.b_law_body .nil pass0 (pa_cons (pv 0) (pa_cons (pv 1) (pa_cons (pv 2) (pa_cons (pe_op op_sub (pv 3) pe_int) pa_nil))))) pa_nil)))))))) pss_nil)
      (pss_cons (ps_if (pt_cmpR op_eq (pv 4) pe_int (nomark _)) (pss_cons (ps_set (i := 6) sc_law_body.nd rfl (by first | exact Or.inl rfl | exact Or.inr rfl) (pe_ix (r := rIxL K) ix_list (pe_lst (pa_cons pe_str (pa_cons pe_str pa_nil))) (pe_call G_law_next (hr.mono (by omega)) (by rfl) T.g_law_next T.kp_law_next T.b_law_next .nil pass0 (pa_cons (pv 0) (pa_cons pe_int pa_nil))) (fun _ _ => rfl)))
      (pss_one (ps_ret (pe_tup (pa_cons pe_str (pa_cons (pe_call G_law_body (hr.mono (by omega)) (by rfl) T.g_law_body T.kp_law_body T.b_law_body .nil pass0 (pa_cons (pv 0) (pa_cons (pv 1) (pa_cons (pv 6) (pa_cons (pe_op op_sub (pv 3) pe_int) pa_nil))))) (pa_cons (pe_call G_law_body (hr.mono (by omega)) (by rfl) T.g_law_body T.kp_law_body T.b_law_body .nil pass0 (pa_cons (pv 0) (pa_cons (pv 1) (pa_cons (pv 2) (pa_cons (pe_op op_sub (pv 3) pe_int) pa_nil))))) pa_nil))))))) pss_nil)
      (pss_cons (ps_if (pt_cmpR op_eq (pv 2) pe_str (nomark _)) (pss_one (ps_ret (pe_call G_law_leaf (hr.mono (by omega)) (by rfl) T.g_law_leaf T.kp_law_leaf T.b_law_leaf .nil pass0 (pa_cons (pv 0) (pa_cons (pv 1) (pa_cons (pv 2) pa_nil)))))) pss_nil)
      (pss_cons (ps_if (pt_cmpR op_lt (pv 4) pe_int (nomark _)) (pss_one (ps_ret (pe_call G_law_call (hr.mono (by omega)) (by rfl) T.g_law_call T.kp_law_call T.b_law_call .nil pass0 (pa_cons (pv 0) (pa_cons (pv 1) (pa_cons (pv 3) pa_nil)))))) pss_nil)
      (pss_cons (ps_if (pt_cmpR op_eq (pv 4) pe_int (nomark _)) (pss_one (ps_ret (pe_tup (pa_cons pe_str (pa_cons (pe_call G_law_body (hr.mono (by omega)) (by rfl) T.g_law_body T.kp_law_body T.b_law_body .nil pass0 (pa_cons (pv 0) (pa_cons (pv 1) (pa_cons pe_str (pa_cons (pe_op op_sub (pv 3) pe_int) pa_nil))))) pa_nil))))) pss_nil)
      (pss_cons (ps_set (i := 7) sc_law_body.nd rfl (by first | exact Or.inl rfl | exact Or.inr rfl) (pe_ix (r := rIxL K) ix_list (pe_lst (pa_cons pe_str (pa_cons pe_str (pa_cons pe_str pa_nil)))) (pe_call G_law_next (hr.mono (by omega)) (by rfl) T.g_law_next T.kp_law_next T.b_law_next .nil pass0 (pa_cons (pv 0) (pa_cons pe_int pa_nil))) (fun _ _ => rfl)))
      (pss_one (ps_ret (pe_tup (pa_cons (pv 7) (pa_cons (pe_call G_law_body (hr.mono (by omega)) (by rfl) T.g_law_body T.kp_law_body T.b_law_body .nil pass0 (pa_cons (pv 0) (pa_cons (pv 1) (pa_cons pe_str (pa_cons (pe_op op_sub (pv 3) pe_int) pa_nil))))) (pa_cons (pe_call G_law_body (hr.mono (by omega)) (by rfl) T.g_law_body T.kp_law_body T.b_law_body .nil pass0 (pa_cons (pv 0) (pa_cons (pv 1) (pa_cons pe_str (pa_cons (pe_op op_sub (pv 3) pe_int) pa_nil))))) pa_nil)))))))))))))), ?_⟩
  refine ⟨_, rfl, h, c, 10, rfl, dr, by decide, by decide, fun r H2 r0 r1 b2 d2 => ?_⟩
  have x2 := x.but dr b2
  have hz : decide (z < 1) = false := decide_eq_false (by omega)
  have leaf : spWord n 1 (preLeaf n) [.ref h, .ref e, .str k] H2 Q E0 := ⟨h, c, ⟨e, k, rfl, hk, x2⟩, d2, fun v H3 b3 d3 w3 => q v H3 (b2.trans b3) d3 (w3.mono (by omega))⟩
  refine ⟨_, rfl, z, 1, rfl, rfl, _, rfl, ?_⟩
  rw [hz]
  refine iteF ?_
  refine ⟨_, rfl, r, 2, rfl, rfl, _, rfl, ite2 (fun _ => ?_) (fun _ => ?_)⟩
  · exact ⟨_, rfl, _, rfl, _, rfl, leaf⟩
  refine ⟨_, rfl, r, 3, rfl, rfl, _, rfl, ite2 (fun _ => ?_) (fun _ => ?_)⟩
  · refine ⟨_, rfl, _, rfl, _, rfl, z, 1, rfl, rfl, h, c, ⟨e, _, _, rfl, ez1, kindN, x2⟩, d2, fun v1 H3 b3 d3 w1 => ?_⟩
    have x3 := x2.but d2 b3
    refine ⟨_, rfl, _, rfl, _, rfl, _, rfl, _, rfl, z, 1, rfl, rfl, h, c, ⟨e, _, _, rfl, ez1, hk, x3⟩, d3, fun v2 H4 b4 d4 w2 => ?_⟩
    have x4 := x3.but d3 b4
    refine ⟨_, rfl, _, rfl, _, rfl, _, rfl, z, 1, rfl, rfl, h, c, ⟨e, _, _, rfl, ez1, hk, x4⟩, d4, fun v3 H5 b5 d5 w3 => ⟨sml 4, fun t ht => ?_⟩⟩
    have k5 := Keep.same (Same.new (o := .tup [.str "if", v1, v2, v3]) ht)
    have k45 := (Keep.but b5 d4).trans k5
    exact q _ _ (b2.trans (b3.trans (b4.trans (b5.trans (But.new ht))))) (d5.same (Same.new ht)) (wd3 .ife 0 upd_same trivial (w1.keep ((Keep.but b4 d3).trans k45)) (w2.keep k45) (w3.keep k5))
  refine ⟨_, rfl, rfl, _, rfl, ite2 (fun _ => ?_) (fun _ => ?_)⟩
  · refine ⟨sml 2, fun l hl => ?_⟩
    have d2' := d2.same (Same.new (o := .lst [.str "number", .str "way"]) hl)
    have nl := Dr.new d2 hl
    refine ⟨_, rfl, h, c, 2, rfl, d2', by decide, by decide, fun r5 H5 r50 r51 b5 d5 => ?_⟩
    obtain ⟨k5, hk5, e5⟩ := two_kinds r5 r50 r51
    have b25 := (But.new (h := h) (c := c) (o := .lst [.str "number", .str "way"]) hl).trans b5
    have x5 := x2.but d2 b25
    refine ⟨l, _, r5, .str k5, rfl, rfl, SqL.of (b5 _ _ nl.1 nl.2 upd_same), e5, ?_⟩
    refine ⟨_, rfl, _, rfl, _, rfl, _, rfl, z, 1, rfl, rfl, h, c, ⟨e, _, _, rfl, ez1, hk5, x5⟩, d5, fun v1 H6 b6 d6 w1 => ?_⟩
    refine ⟨_, rfl, _, rfl, _, rfl, _, rfl, z, 1, rfl, rfl, h, c, ⟨e, _, _, rfl, ez1, hk, x5.but d5 b6⟩, d6, fun v2 H7 b7 d7 w2 => ⟨sml 3, fun t ht => ?_⟩⟩
    have k7 := Keep.same (Same.new (o := .tup [.str "then", v1, v2]) ht)
    exact q _ _ (b2.trans (b25.trans (b6.trans (b7.trans (But.new ht))))) (d7.same (Same.new ht)) (wd2 .thn 0 upd_same trivial (w1.keep ((Keep.but b7 d6).trans k7)) (w2.keep k7))
  refine ⟨_, rfl, rfl, _, rfl, ite2 (fun _ => ?_) (fun _ => ?_)⟩
  · exact ⟨_, rfl, _, rfl, _, rfl, leaf⟩
  refine ⟨_, rfl, r, 8, rfl, rfl, _, rfl, ite2 (fun _ => ?_) (fun _ => ?_)⟩
  · exact ⟨_, rfl, _, rfl, _, rfl, h, c, ⟨e, z, rfl, ez, x2⟩, d2, fun v H3 b3 d3 w3 => q v H3 (b2.trans b3) d3 (w3.mono (by omega))⟩
  refine ⟨_, rfl, rfl, _, rfl, ite2 (fun _ => ?_) (fun _ => ?_)⟩
  · refine ⟨_, rfl, _, rfl, _, rfl, z, 1, rfl, rfl, h, c, ⟨e, _, _, rfl, ez1, kindN, x2⟩, d2, fun v1 H3 b3 d3 w1 => ⟨sml 2, fun t ht => ?_⟩⟩
    have k7 := Keep.same (Same.new (o := .tup [.str "say", v1]) ht)
    exact q _ _ (b2.trans (b3.trans (But.new ht))) (d3.same (Same.new ht)) (wd1 .say 0 upd_same trivial (w1.keep k7))
  · refine ⟨sml 3, fun l hl => ?_⟩
    have d2' := d2.same (Same.new (o := .lst [.str "plus", .str "less", .str "times"]) hl)
    have nl := Dr.new d2 hl
    refine ⟨_, rfl, h, c, 3, rfl, d2', by decide, by decide, fun r5 H5 r50 r51 b5 d5 => ?_⟩
    obtain ⟨o, ho, hg, hf, e5⟩ := three_words r5 r50 r51
    have b25 := (But.new (h := h) (c := c) (o := .lst [.str "plus", .str "less", .str "times"]) hl).trans b5
    have x5 := x2.but d2 b25
    refine ⟨l, _, r5, .str o.name, rfl, rfl, SqL.of (b5 _ _ nl.1 nl.2 upd_same), e5, ?_⟩
    refine ⟨_, rfl, _, rfl, _, rfl, _, rfl, z, 1, rfl, rfl, h, c, ⟨e, _, _, rfl, ez1, kindN, x5⟩, d5, fun v1 H6 b6 d6 w1 => ?_⟩
    refine ⟨_, rfl, _, rfl, _, rfl, z, 1, rfl, rfl, h, c, ⟨e, _, _, rfl, ez1, kindN, x5.but d5 b6⟩, d6, fun v2 H7 b7 d7 w2 => ⟨sml 3, fun t ht => ?_⟩⟩
    have k7 := Keep.same (Same.new (o := .tup [.str o.name, v1, v2]) ht)
    refine q _ _ (b2.trans (b25.trans (b6.trans (b7.trans (But.new ht))))) (d7.same (Same.new ht)) (wd2 o 0 ?_ (hf _ _) (w1.keep ((Keep.but b7 d6).trans k7)) (w2.keep k7) ho)
    rw [upd_same]
    unfold Op.pre
    rw [hg]
    rfl
theorem ok_law_body (T : Txt w K mg) {n : Nat} : ∀ m : Nat, FnOk P w K mg base CX0 (3 * m + 3) (He.ga K "_law_body") (fdOf K d_law_body) ["_law_h", "_law_e", "_law_kind_here", "_law_deep"] (spWord n (m + 2) (preBody n m))
  | 0 => ok_law_body0 T
  | m + 1 => ok_law_bodyS T (ok_law_body T m)
end
end K16

namespace K16
open PySem PySem.Spec PyProof.Rows L2 Ov
section
variable {P : Program} {w : World} {K : PySem.W.Frag} {mg : Str → Option Value} {base : Heap}
theorem sc_law_words : FnScope ["_law_body_here", "_law_arm"] ["_law_body_here"] (defScope s_law_words) := ⟨rfl, rfl, rfl, by decide +kernel, rfl, by decide +kernel, by decide +kernel⟩
-- 0 _law_body_here, 1 _law_arm
theorem ok_law_wordsS (T : Txt w K mg) {d : Nat} (G_law_words : FnOk P w K mg base CX0 d (He.ga K "_law_words") (fdOf K d_law_words) ["_law_body_here"] (spWords d)) :
    FnOk P w K mg base CX0 (d + 1) (He.ga K "_law_words") (fdOf K d_law_words) ["_law_body_here"] (spWords (d + 1)) := by
  refine T.F_law_words.ok sc_law_words (fun vs H Q E h => ?_) (fun cdv A outer s H vs Q E hr h => ?_)
  · obtain ⟨v, n, u, rfl, _⟩ := h
    rfl
  obtain ⟨v, n, u, rfl, hv, ok, q⟩ := h
  cases hv with
  | @mk a o g vs as ha hs =>
  cases ok with
  | mk h1 h2 h3 =>
  refine ⟨_, PSs.nox (pss_one (ps_ret (pe_op op_add pe_int (pe_callB (r := rSum K) (cr_sum rfl) (by rfl) T.z_sum (by decide +kernel) (pa_cons (pe_lc (own := [("_law_arm", 1)]) rfl sc_law_words.nd (Ov.pi_tupK (K := K) rfl (pv 0)) (blkOk_by (own := [("_law_arm", 1)]) (N := ["_law_body_here", "_law_arm"]) (sc := defScope s_law_words) (by decide +kernel)) (fun _ _ _ _ _ => (pg_name (i := 1) sc_law_words.nd rfl (by first | exact Or.inl rfl | exact Or.inr rfl))) (fun _ _ _ _ _ => pts_one (pt_val (pe_callB (r := rIsi K) call_isi (by rfl) T.z_isinstance (by decide +kernel) (pa_cons (pv 1) (pa_cons (pe_bltn (v := .ty "tuple") (by rfl) T.z_tuple (by decide +kernel) rfl) pa_nil))))) (fun _ _ _ _ _ => (pe_call G_law_words (hr.mono (by omega)) (by rfl) T.g_law_words T.kp_law_words T.b_law_words .nil pass0 (pa_cons (pv 1) pa_nil)))) pa_nil))))), ?_⟩
  have hlen := hs.length
  have hl40 : as.length ≤ 3 := by rw [h1]; cases o <;> decide
  have hpre : (o.pre g).length ≤ 1 := by
    unfold Op.pre
    split
    · exact Nat.le_refl 1
    · exact Nat.zero_le 1
  have lt {x : V} {i : Nat} (hi : (.str o.name :: (o.pre g ++ vs) : List V)[i]? = some x) : i < 1 + (o.pre g).length → (∃ y, x = .str y) ∨ ∃ y, x = .int y := fun le => by
    cases i with
    | zero => exact .inl ⟨_, (Option.some.inj hi).symm⟩
    | succ j =>
      have hj : (o.pre g ++ vs)[j]? = some x := hi
      rw [List.getElem?_append_left (by omega)] at hj
      unfold Op.pre at hj
      split at hj
      · exact .inr ⟨g, by
          have := List.mem_of_getElem? hj
          simpa using this⟩
      · simp at hj
  have ge {x : V} {i : Nat} (hi : (.str o.name :: (o.pre g ++ vs) : List V)[i]? = some x) : ¬ i < 1 + (o.pre g).length → vs[i - (1 + (o.pre g).length)]? = some x := fun le => by
    obtain ⟨j, rfl⟩ : ∃ j, i = j + 1 := ⟨i - 1, by omega⟩
    have hj : (o.pre g ++ vs)[j]? = some x := hi
    rw [List.getElem?_append_right (by omega)] at hj
    rw [show j + 1 - (1 + (o.pre g).length) = j - (o.pre g).length by omega]
    exact hj
  refine ⟨_, rfl, a, rfl, ⟨_, SqT.of ha⟩, fun D hD => ?_⟩
  refine lc_tup (K := K) (a := a) (xs := .str o.name :: (o.pre g ++ vs)) (fun i H' => Same H H' ∧ H' D = some (.lst (((as.take (i - (1 + (o.pre g).length))).map fun z => (z.size : Int)).map V.int))) ⟨Same.new hD, by rw [upd_same, show 0 - (1 + (o.pre g).length) = 0 by omega]; rfl⟩ (fun i H' _ p => SqT.of (p.1 _ _ ha)) ?_ ?_
  · rintro i x H2 hi ⟨s2, e2⟩
    refine ⟨rfl, ?_⟩
    by_cases hi0 : i < 1 + (o.pre g).length
    · -- the word's name, what is given
      have e1 : i + 1 - (1 + (o.pre g).length) = i - (1 + (o.pre g).length) := by omega
      rcases lt hi hi0 with ⟨y, rfl⟩ | ⟨y, rfl⟩
      · refine ⟨_, rfl, _, .ty "tuple", .type "str", .type "tuple", false, rfl, .ty _, .base (.str y), k_str_tuple, false, rfl, iteF ⟨s2, ?_⟩⟩
        rw [e1]
        exact e2
      · refine ⟨_, rfl, _, .ty "tuple", .type "int", .type "tuple", false, rfl, .ty _, .base (.int y), k_int_tuple, false, rfl, iteF ⟨s2, ?_⟩⟩
        rw [e1]
        exact e2
    · have hx := ge hi hi0
      obtain ⟨u, hu, hxu⟩ := WsAt.get hs hx
      have hk := h3 u (List.mem_of_getElem? hu)
      have hxu2 := hxu.keep (Keep.same s2)
      obtain ⟨b, xs, rfl, hb⟩ := hxu2.ref
      refine ⟨_, rfl, _, .ty "tuple", .type "tuple", .type "tuple", true, rfl, .ty _, .base (.tup hb), k_tuple_tuple, true, rfl, ?_⟩
      refine ⟨_, rfl, _, n, u, rfl, hxu2, hk, fun H3 s3 => ⟨_, s3 _ _ e2, sm _ (by simp only [List.length_map, List.length_take]; omega), Ov.Same.updn (s2.trans s3) hD, ?_⟩⟩
      rw [upd_same, show i + 1 - (1 + (o.pre g).length) = i - (1 + (o.pre g).length) + 1 by omega, List.take_add_one, hu, List.map_append, List.map_append]
      rfl
  · rintro H2 ⟨s2, e2⟩
    have el : (.str o.name :: (o.pre g ++ vs) : List V).length - (1 + (o.pre g).length) = as.length := by
      rw [List.length_cons, List.length_append, hlen]
      omega
    rw [el, List.take_length] at e2
    refine ⟨D, _, rfl, SqL.of e2, 1, _, rfl, rfl, ?_⟩
    have z : (1 : Int) + ((as.map fun z => (z.size : Int))).sum = ((W.mk o g as).size : Int) := by
      have e := W.sizes_sum as
      rw [W.size_mk]
      omega
    show Q (.int (1 + ((as.map fun z => (z.size : Int))).sum)) H2
    rw [z]
    exact q H2 s2
theorem ok_law_words (T : Txt w K mg) : ∀ d : Nat, FnOk P w K mg base CX0 d (He.ga K "_law_words") (fdOf K d_law_words) ["_law_body_here"] (spWords d)
  | 0 => fn0 fun vs H Q E ⟨_, _, _, _, _, h, _⟩ => nomatch h
  | d + 1 => ok_law_wordsS T (ok_law_words T d)
end
end K16

namespace K16
open PySem PySem.Spec PyProof.Rows L2 Ov
section
variable {P : Program} {w : World} {K : PySem.W.Frag} {mg : Str → Option Value} {base : Heap}
theorem sc_law_program : FnScope ["_law_h", "_law_most", "_law_kinds", "_law_plain", "_law_found", "_law_came", "_law_e", "_law_body_here", "_law_k"] ["_law_h", "_law_most"] (defScope s_law_program) := ⟨rfl, rfl, rfl, by decide +kernel, rfl, by decide +kernel, by decide +kernel⟩
-- 0 _law_h, 1 _law_most, 2 _law_kinds, 3 _law_plain, 4 _law_found, 5 _law_came, 6 _law_e, 7 _law_body_here, 8 _law_k
theorem ok_law_programL (T : Txt w K mg) : FnOk P w K mg base CX0 16 (He.ga K "_law_program") (fdOf K d_law_program) ["_law_h", "_law_most"] spProgramL := by
  have G_law_next := ok_law_next (P := P) (base := base) T
  have G_law_leaf : FnOk P w K mg base CX0 2 (He.ga K "_law_leaf") (fdOf K d_law_leaf) ["_law_h", "_law_e", "_law_kind_here"] spLeaves := fn_ex (k := fun _ => 2) (fun n => ok_law_leaf T) fun _ => Nat.le_refl _
  have G_law_body : FnOk P w K mg base CX0 15 (He.ga K "_law_body") (fdOf K d_law_body) ["_law_h", "_law_e", "_law_kind_here", "_law_deep"] spBodies := fn_ex (k := fun i : Nat × _root_.Fin 5 => 3 * i.2.val + 3) (fun i => ok_law_body T i.2.val) fun i => by have := i.2.isLt; omega
  have G_law_words := ok_law_words (P := P) (base := base) T 7
  refine T.F_law_program.ok sc_law_program (fun vs H Q E h => ?_) (fun cdv A outer s H vs Q E hr h => ?_)
  · obtain ⟨h, c, m, rfl, _⟩ := h
    rfl
  obtain ⟨h, c, m, rfl, dr, m1, m8, q⟩ := h
  refine ⟨_, PSs.nox (Evl.pss_cut (ps_set (i := 2) sc_law_program.nd rfl (by first | exact Or.inl rfl | exact Or.inr rfl) (pe_op op_cat (pe_lst (pa_cons pe_str pa_nil)) (pe_lc (own := [("_law_k", 8)]) rfl sc_law_program.nd (pi_range1 (by rfl) T.z_range (pa_cons (pe_call G_law_next (hr.mono (by omega)) (by rfl) T.g_law_next T.kp_law_next T.b_law_next .nil pass0 (pa_cons (pv 0) (pa_cons (pv 1) pa_nil))) pa_nil)) (blkOk_by (own := [("_law_k", 8)]) (N := ["_law_h", "_law_most", "_law_kinds", "_law_plain", "_law_found", "_law_came", "_law_e", "_law_body_here", "_law_k"]) (sc := defScope s_law_program) (by decide +kernel)) (fun _ _ _ _ _ => (pg_name (i := 8) sc_law_program.nd rfl (by first | exact Or.inl rfl | exact Or.inr rfl))) (fun _ _ _ _ _ => pts_nil) (fun _ _ _ _ _ => (pe_ix (r := rIxL K) ix_list (pe_lst (pa_cons pe_str (pa_cons pe_str (pa_cons pe_str pa_nil)))) (pe_call G_law_next (hr.mono (by omega)) (by rfl) T.g_law_next T.kp_law_next T.b_law_next .nil pass0 (pa_cons (pv 0) (pa_cons pe_int pa_nil))) (fun _ _ => rfl))))))
      (Evl.pss_cut (ps_setLc (i := 3) (own := [("_law_k", 8)]) rfl sc_law_program.nd rfl rfl (sw_true rfl rfl rfl (by decide +kernel)) (pi_range1 (by rfl) T.z_range (pa_cons (pe_callB (r := Evl.rLenS K) call_len_seq (by rfl) T.z_len PySem.boot_len (pa_cons (pv 2) pa_nil)) pa_nil)) (blkOk_by (own := [("_law_k", 8)]) (N := ["_law_h", "_law_most", "_law_kinds", "_law_plain", "_law_found", "_law_came", "_law_e", "_law_body_here", "_law_k"]) (sc := defScope s_law_program) (by decide +kernel)) (fun _ _ _ _ _ => (pg_name (i := 8) sc_law_program.nd rfl (by first | exact Or.inl rfl | exact Or.inr rfl))) (fun _ _ _ _ _ => (pts_one (pt_cmpR op_eq (pe_ix (r := rIxL K) ix_list (pv 2) (pv 8) (fun _ _ => rfl)) pe_str (nomark _)))) (fun _ _ _ _ _ => (pv 8)))
      (pss_cons (ps_set (i := 4) sc_law_program.nd rfl (by first | exact Or.inl rfl | exact Or.inr rfl) (pe_lst pa_nil))
      (pss_cons (ps_for PassesOwn.never rfl (Ov.pi_listK (K := K) rfl (pv 2)) (pg_name (i := 5) sc_law_program.nd rfl (by first | exact Or.inl rfl | exact Or.inr rfl)) (pss_cons (ps_set (i := 6) sc_law_program.nd rfl (by first | exact Or.inl rfl | exact Or.inr rfl) (pe_disp (pps_cons pe_str (pv 5) (pps_cons pe_str (pv 3) (pps_cons pe_str (pv 2) pps_nil))) (by rfl) (by rfl) (fun z => by cases z) (by decide)))
      (pss_cons (ps_set (i := 7) sc_law_program.nd rfl (by first | exact Or.inl rfl | exact Or.inr rfl) (pe_call G_law_body (hr.mono (by omega)) (by rfl) T.g_law_body T.kp_law_body T.b_law_body .nil pass0 (pa_cons (pv 0) (pa_cons (pv 6) (pa_cons (pe_ix (r := rIxL K) ix_list (pe_lst (pa_cons pe_str (pa_cons pe_str (pa_cons pe_str (pa_cons pe_str pa_nil))))) (pe_call G_law_next (hr.mono (by omega)) (by rfl) T.g_law_next T.kp_law_next T.b_law_next .nil pass0 (pa_cons (pv 0) (pa_cons pe_int pa_nil))) (fun _ _ => rfl)) (pa_cons (pe_op op_add pe_int (pe_call G_law_next (hr.mono (by omega)) (by rfl) T.g_law_next T.kp_law_next T.b_law_next .nil pass0 (pa_cons (pv 0) (pa_cons pe_int pa_nil)))) pa_nil))))))
      (Evl.pss_cut (ps_if (PW.pt (pw_and (pt_cmpR op_eq (pv 5) pe_str (nomark _)) (pw_and1 (pt_cmpR op_gt (pe_call G_law_next (hr.mono (by omega)) (by rfl) T.g_law_next T.kp_law_next T.b_law_next .nil pass0 (pa_cons (pv 0) (pa_cons pe_int pa_nil))) pe_int (nomark _))))) (pss_one (ps_set (i := 7) sc_law_program.nd rfl (by first | exact Or.inl rfl | exact Or.inr rfl) (pe_tup (pa_cons pe_str (pa_cons (pe_tup (pa_cons pe_str pa_nil)) (pa_cons (pv 7) (pa_cons (pe_call G_law_leaf (hr.mono (by omega)) (by rfl) T.g_law_leaf T.kp_law_leaf T.b_law_leaf .nil pass0 (pa_cons (pv 0) (pa_cons (pv 6) (pa_cons pe_str pa_nil)))) pa_nil))))))) pss_nil)
      (Evl.pss_cut (ps_if (pt_cmpR op_gt (pe_call G_law_words (hr.mono (by omega)) (by rfl) T.g_law_words T.kp_law_words T.b_law_words .nil pass0 (pa_cons (pv 7) pa_nil)) pe_int (nomark _)) (pss_one (ps_set (i := 7) sc_law_program.nd rfl (by first | exact Or.inl rfl | exact Or.inr rfl) (pe_call G_law_leaf (hr.mono (by omega)) (by rfl) T.g_law_leaf T.kp_law_leaf T.b_law_leaf .nil pass0 (pa_cons (pv 0) (pa_cons (pv 6) (pa_cons pe_str pa_nil)))))) pss_nil)
      (pss_one (ps_expr (Ov.pe_bmK (K := K) rfl PySem.F.plainAttrs_list PySem.F.slot_list_append PySem.F.type_list_append mt_append (pv 4) (pa_cons (pe_tup (pa_cons (pe_op op_add pe_int (pe_call G_law_next (hr.mono (by omega)) (by rfl) T.g_law_next T.kp_law_next T.b_law_next .nil pass0 (pa_cons (pv 0) (pa_cons (pe_ix (r := rIxL K) ix_list (pe_lst (pa_cons pe_int (pa_cons pe_int pa_nil))) (pe_call G_law_next (hr.mono (by omega)) (by rfl) T.g_law_next T.kp_law_next T.b_law_next .nil pass0 (pa_cons (pv 0) (pa_cons pe_int pa_nil))) (fun _ _ => rfl)) pa_nil)))) (pa_cons (pv 7) pa_nil))) pa_nil)))))))))
      (pss_one (ps_ret (pe_callTy (r := Ov.rTupS K) call_tuple_of (by rfl) T.z_tuple (by decide +kernel) (pa_cons (pv 4) pa_nil)))))))), ?_⟩
  -- the kinds
  refine ⟨fun σ' H' => ∃ (kl : Addr) (ks : List Str), σ' = [some (.ref h), some (.int m), some (.ref kl), none, none, none, none, none, none] ∧ But h c H H' ∧ Dr H' h c ∧ H' kl = some (.lst ((("number" :: ks : List Str)).map V.str)) ∧ (ks.length ≤ 7 ∧ (ks.length : Int) < m) ∧ (∀ k ∈ ks, KindS k) ∧ kl ≠ h ∧ kl ≠ c, ?_, ?_⟩
  · refine ⟨sml 1, fun l0 hl0 => ?_⟩
    have n0 := Dr.new dr hl0
    refine ⟨_, rfl, _, rfl, h, c, m, rfl, dr.same (Same.new hl0), by omega, by omega, fun r H1 r0 r1 b1 d1 => ⟨r, rfl, by omega, by omega, fun D hD => ?_⟩⟩
    have nD := Dr.new d1 hD
    have h1 := b1 _ _ n0.1 n0.2 upd_same
    refine lc_rangeY (lo := 0) (n := r.toNat) (fun i H' => ∃ ks : List Str, But h c H1 H' ∧ Dr H' h c ∧ H' D = some (.lst (ks.map V.str)) ∧ ks.length = i ∧ ∀ k ∈ ks, KindS k) ⟨[], But.new hD, d1.same (Same.new hD), upd_same, rfl, (fun _ h => nomatch h)⟩ ?_ ?_
    · rintro i H2 hi ⟨ks, b2, d2, e2, hl, hk⟩
      refine ⟨rfl, sml 3, fun l hl3 => ?_⟩
      have nl := Dr.new d2 hl3
      refine ⟨_, rfl, h, c, 3, rfl, d2.same (Same.new hl3), by decide, by decide, fun r3 H3 r30 r31 b3 d3 => ?_⟩
      obtain ⟨k3, hk3, e3⟩ := three_kinds r3 r30 r31
      have b23 := (But.new (h := h) (c := c) (o := .lst [.str "number", .str "number", .str "way"]) hl3).trans b3
      have eD := b23 _ _ nD.1 nD.2 e2
      refine ⟨l, _, r3, .str k3, rfl, rfl, SqL.of (b3 _ _ nl.1 nl.2 upd_same), e3, _, eD, sm _ (by rw [List.length_map]; omega), ks ++ [k3], (b2.trans b23).updn hD, d3.upd nD.1 nD.2, ?_, by rw [List.length_append, hl]; rfl, fun k hk4 => ?_⟩
      · rw [upd_same, List.map_append]; rfl
      · rcases List.mem_append.mp hk4 with z | z
        · exact hk k z
        · rw [List.mem_singleton.mp z]; exact hk3
    · rintro H2 ⟨ks, b2, d2, e2, hl, hk⟩
      have h2 := b2 _ _ n0.1 n0.2 h1
      refine ⟨l0, D, _, _, rfl, rfl, h2, e2, sml _ (by rw [List.length_map, List.length_singleton]; omega), fun p hp => ?_⟩
      have np := Dr.new d2 hp
      exact ⟨p, ks, rfl, (But.new hl0).trans (b1.trans (b2.trans (But.new hp))), d2.same (Same.new hp), upd_same, ⟨by omega, by omega⟩, hk, np.1, np.2⟩
  rintro σ1 H1 ⟨kl, ks, rfl, b1, d1, hkl, ⟨hk7, hkm⟩, hks, nkh, nkc⟩
  -- the plain ones
  refine ⟨fun σ' H' => ∃ (pl : Addr) (ps : List Int), σ' = [some (.ref h), some (.int m), some (.ref kl), some (.ref pl), none, none, none, none, none] ∧ Same H1 H' ∧ H' pl = some (.lst (ps.map V.int)) ∧ ps ≠ [] ∧ ps.length ≤ 8 ∧ (∀ z ∈ ps, 0 ≤ z ∧ z < ((ks.length + 1 : Nat) : Int)) ∧ pl ≠ h ∧ pl ≠ c, ?_, ?_⟩
  · refine ⟨_, rfl, kl, _, rfl, .inl (SqL.of hkl), _, rfl, by omega, by rw [List.length_map, List.length_cons]; omega, fun D hD => ?_⟩
    have nD := Dr.new d1 hD
    refine lc_range (lo := 0) (fun i H' => ∃ ps : List Int, Same H1 H' ∧ H' D = some (.lst (ps.map V.int)) ∧ ps.length ≤ i ∧ (∀ z ∈ ps, 0 ≤ z ∧ z < ((ks.length + 1 : Nat) : Int)) ∧ (0 < i → ps ≠ [])) ⟨[], Same.new hD, upd_same, Nat.le_refl _, (fun _ h => nomatch h), fun h => absurd h (Nat.lt_irrefl _)⟩ ?_ ?_
    · rintro i H2 hi ⟨ps, s2, e2, hl, hp, hne⟩
      have hi2 : i < ks.length + 1 := by simp only [List.length_map, List.length_cons] at hi; omega
      refine ⟨rfl, _, rfl, _, rfl, kl, _, _, .str ((("number" :: ks : List Str))[i]'(by rw [List.length_cons]; exact hi2)), rfl, rfl, SqL.of (s2 _ _ hkl), ?_, rfl, _, rfl, ite2 (fun a => ?_) (fun a => ?_)⟩
      · rw [Int.zero_add]
        exact atI_nat (by rw [List.getElem?_map, List.getElem?_eq_getElem (by rw [List.length_cons]; exact hi2)]; rfl)
      · refine ⟨_, rfl, _, e2, sm _ (by rw [List.length_map]; omega), ps ++ [(0 + (i : Int))], Ov.Same.updn s2 hD, ?_, by rw [List.length_append]; exact Nat.succ_le_succ hl, fun z hz => ?_, fun _ z => by simp at z⟩
        · rw [upd_same, List.map_append]; rfl
        · rcases List.mem_append.mp hz with y | y
          · exact hp z y
          · rw [List.mem_singleton.mp y]; omega
      · refine ⟨ps, s2, e2, by omega, hp, fun _ => ?_⟩
        cases i with
        | zero => exact absurd (decide_eq_true rfl) a
        | succ j => exact hne (Nat.succ_pos j)
    · rintro H2 ⟨ps, s2, e2, hl, hp, hne⟩
      exact ⟨D, ps, rfl, s2, e2, hne (by simp only [List.length_map, List.length_cons]; omega), by simp only [List.length_map, List.length_cons] at hl; omega, hp, nD.1, nD.2⟩
  rintro σ2 H2 ⟨pl, ps, rfl, s2, hpl, hp0, hp8, hps, nph, npc⟩
  have d2 := d1.same s2
  have hkl2 := s2 _ _ hkl
  have b2 := b1.trans (But.same s2)
  refine ⟨sml 0, fun fl hfl => ?_⟩
  have nf := Dr.new d2 hfl
  have s3 := Same.new (o := .lst []) hfl
  refine ⟨_, rfl, kl, rfl, ⟨_, SqL.of (s3 _ _ hkl2)⟩, for_list (K := K) (a := kl) (xs := (("number" :: ks : List Str)).map V.str) (fun i σ H' => ∃ (y5 y6 y7 : Option V) (vs : List V) (p : List (Int × W)), σ = [some (.ref h), some (.int m), some (.ref kl), some (.ref pl), some (.ref fl), y5, y6, y7, none] ∧ But h c H2 H' ∧ Dr H' h c ∧ H' fl = some (.lst vs) ∧ Paired (FAt H') vs p ∧ p.length = i ∧ ∀ f ∈ p, FOk (ks.length + 1) f)
    ⟨none, none, none, [], [], rfl, But.same s3, d2.same s3, upd_same, .nil, rfl, (fun _ h => nomatch h)⟩ (fun i σ H' _ ⟨_, _, _, _, _, _, b, _⟩ => SqL.of (b _ _ nkh nkc hkl2)) ?_ ?_⟩
  · rintro i x σ H3 hi ⟨y5, y6, y7, vs, p, rfl, b3, d3, hf, hvs, hlen, hok⟩
    obtain ⟨came, hcm, rfl⟩ : ∃ came, KindS came ∧ x = V.str came := by
      rw [List.getElem?_map] at hi
      cases e : (("number" :: ks : List Str))[i]? with
      | none => rw [e] at hi; cases hi
      | some u =>
        rw [e] at hi
        refine ⟨u, ?_, (Option.some.inj hi).symm⟩
        rcases List.mem_cons.mp (List.mem_of_getElem? e) with z | z
        · rw [z]; exact kindN
        · exact hks u z
    have hi8 : i < ks.length + 1 := by
      have z := (List.getElem?_eq_some_iff.mp hi).1
      rw [List.length_map, List.length_cons] at z
      exact z
    -- what the body is drawn by
    refine fun e he => ⟨_, rfl, _, rfl, _, rfl, upd_same, [(.inr "came", .str came), (.inr "plain", .ref pl), (.inr "kinds", .ref kl)], rfl, (by show 3 ≤ 15; decide), ?_⟩
    have s4 : Same H3 (upd (upd H3 e (.dK [])) e (.dK (mergeK [] [(.inr "came", .str came), (.inr "plain", .ref pl), (.inr "kinds", .ref kl)]))) := by
      rw [upd_upd]
      exact Same.new he
    generalize hH4 : upd (upd H3 e (.dK [])) e (.dK (mergeK [] [(.inr "came", .str came), (.inr "plain", .ref pl), (.inr "kinds", .ref kl)])) = H4 at s4
    have d4 := d3.same s4
    have x4 : preE (ks.length + 1) h c e H4 := ⟨came, pl, kl, ps, "number" :: ks, {
      e := by rw [← hH4]; exact upd_same
      ck := hcm
      p := s4 _ _ (b3 _ _ nph npc hpl)
      p0 := hp0
      p8 := hp8
      pn := hps
      k := s4 _ _ (b3 _ _ nkh nkc hkl2)
      kn := rfl
      n1 := by omega
      n8 := by omega
      kk := fun y hy => by
        rcases List.mem_cons.mp hy with z | z
        · rw [z]; exact kindN
        · exact hks y z
      ph := nph
      pc := npc
      kh := nkh
      kc := nkc }⟩
    have hf4 := s4 _ _ hf
    -- the body
    refine ⟨_, rfl, _, rfl, sml 4, fun l hl => ⟨_, rfl, h, c, 4, rfl, d4.same (Same.new hl), by decide, by decide, fun r5 H5 r50 r51 b5 d5 => ?_⟩⟩
    have nl := Dr.new d4 hl
    obtain ⟨k5, hk5, e5⟩ := four_kinds r5 r50 r51
    have b45 := (But.new (h := h) (c := c) (o := .lst [.str "number", .str "number", .str "number", .str "way"]) hl).trans b5
    refine ⟨l, _, r5, .str k5, rfl, rfl, SqL.of (b5 _ _ nl.1 nl.2 upd_same), e5, ?_⟩
    refine ⟨_, rfl, h, c, 3, rfl, d5, by decide, by decide, fun r6 H6 r60 r61 b6 d6 => ⟨2, r6, rfl, rfl, ?_⟩⟩
    have b46 := b45.trans b6
    refine ⟨(ks.length + 1, ⟨(2 + r6).toNat, by omega⟩), h, c, ⟨e, k5, 2 + r6, rfl, by show 2 + r6 = (((2 + r6).toNat : Nat) : Int); omega, hk5, x4.but d4 b46⟩, d6, fun v7 H7 b7 d7 w7 => ?_⟩
    have b47 := b46.trans b7
    have x7 := x4.but d4 b47
    have w7' : Wd H7 (ks.length + 1) 6 v7 := w7.mono (by show (2 + r6).toNat + 2 ≤ 6; omega)
    have hf7 : H7 fl = some (.lst vs) := b47 _ _ nf.1 nf.2 hf4
    -- if came is a number: an if around it
    refine ⟨fun σ' H' => ∃ v, σ' = [some (.ref h), some (.int m), some (.ref kl), some (.ref pl), some (.ref fl), some (.str came), some (.ref e), some v, none] ∧ But h c H7 H' ∧ Dr H' h c ∧ Wd H' (ks.length + 1) 7 v, ?_, ?_⟩
    · refine ⟨_, rfl, rfl, _, rfl, ite2 (fun _ => ?_) (fun _ => ?_)⟩
      · refine ⟨_, rfl, h, c, 4, rfl, d7, by decide, by decide, fun r8 H8 r80 r81 b8 d8 => ⟨r8, 0, rfl, rfl, _, rfl, ite2 (fun _ => ?_) (fun _ => ?_)⟩⟩
        · refine ⟨sml 1, fun t1 h1 => ⟨_, rfl, _, rfl, _, rfl, ks.length + 1, h, c, ⟨e, _, rfl, kindN, (x7.but d7 b8).but d8 (But.new h1)⟩, d8.same (Same.new h1), fun v9 H9 b9 d9 w9 => ⟨sml 4, fun t ht => ?_⟩⟩⟩
          have n1 := Dr.new d8 h1
          have b89 := (But.new (h := h) (c := c) (o := .tup [.str "argument"]) h1).trans b9
          have k9 := Keep.same (Same.new (o := .tup [.str "if", .ref t1, v7, v9]) ht)
          refine ⟨_, rfl, b8.trans (b89.trans (But.new ht)), d9.same (Same.new ht), wd3 .ife 0 upd_same trivial (Wd.mono (wd0 (d := 0) .arg 0 (k9 _ _ (b9 _ _ n1.1 n1.2 upd_same)) trivial) (by omega)) (w7'.keep ((Keep.but b8 d7).trans ((Keep.but b89 d8).trans k9))) ((w9.mono (by omega)).keep k9)⟩
        · exact ⟨v7, rfl, b8, d8, (w7'.keep (Keep.but b8 d7)).mono (by omega)⟩
      · exact ⟨v7, rfl, But.refl _, d7, w7'.mono (by omega)⟩
    rintro σ8 H8 ⟨v8, rfl, b8, d8, w8⟩
    have b48 := b47.trans b8
    have x8 := x4.but d4 b48
    -- if it is too long: a leaf
    refine ⟨fun σ' H' => ∃ v u, σ' = [some (.ref h), some (.int m), some (.ref kl), some (.ref pl), some (.ref fl), some (.str came), some (.ref e), some v, none] ∧ But h c H8 H' ∧ Dr H' h c ∧ WAt H' v u ∧ WOk (ks.length + 1) 7 u ∧ u.size ≤ 40, ?_, ?_⟩
    · obtain ⟨u8, hu8, ok8⟩ := w8
      refine ⟨_, rfl, v8, _, u8, rfl, hu8, ok8, fun H9 s9 => ⟨_, 40, rfl, rfl, _, rfl, ite2 (fun _ => ?_) (fun a => ?_)⟩⟩
      · refine ⟨_, rfl, _, rfl, ks.length + 1, h, c, ⟨e, _, rfl, kindN, x8.but d8 (But.same s9)⟩, d8.same s9, fun v9 H10 b10 d10 ⟨u9, w9, ok9⟩ => ?_⟩
        exact ⟨v9, u9, rfl, (But.same s9).trans b10, d10, w9, ok9.mono (by omega), by rw [wok1_size ok9]; omega⟩
      · have a2 : ¬ (40 : Int) < (u8.size : Int) := of_decide_eq_false (Bool.eq_false_iff.mpr a)
        exact ⟨v8, u8, rfl, But.same s9, d8.same s9, hu8.keep (Keep.same s9), ok8, by omega⟩
    rintro σ9 H9 ⟨v9, u9, rfl, b9, d9, w9, ok9, z9⟩
    have hf9 : H9 fl = some (.lst vs) := (b8.trans b9) _ _ nf.1 nf.2 hf7
    have b49 := b48.trans b9
    have k39 : Keep H3 H9 := (Keep.same s4).trans (Keep.but b49 d4)
    -- found.append
    refine ⟨_, rfl, .inl ⟨rfl, _, SqL.of hf9⟩, _, rfl, sml 2, fun l2 hl2 => ?_⟩
    have n2 := Dr.new d9 hl2
    refine ⟨_, rfl, h, c, 2, rfl, d9.same (Same.new hl2), by decide, by decide, fun r10 H10 r100 r101 b10 d10 => ?_⟩
    obtain ⟨z10, z1, z8, e10⟩ := two_sizes r10 r100 r101
    refine ⟨l2, _, r10, .int z10, rfl, rfl, SqL.of (b10 _ _ n2.1 n2.2 upd_same), e10, ?_⟩
    refine ⟨h, c, z10, rfl, d10, by omega, by omega, fun r11 H11 r110 r111 b11 d11 => ⟨1, r11, rfl, rfl, _, rfl, sml 2, fun t ht => ?_⟩⟩
    have b9b := (But.new (h := h) (c := c) (o := .lst [.int 2, .int 8]) hl2).trans (b10.trans b11)
    have ntf : fl ≠ t := ne_of_none (b9b _ _ nf.1 nf.2 hf9) ht
    have hf12 : upd H11 t (.tup [.int (1 + r11), v9]) fl = some (.lst vs) := by rw [upd_ne ntf]; exact b9b _ _ nf.1 nf.2 hf9
    have k12 : Keep H9 (upd H11 t (.tup [.int (1 + r11), v9])) := (Keep.but b9b d9).trans (Keep.same (Same.new ht))
    have kL := Keep.updL (ys := vs ++ [V.ref t]) hf12
    have hvlen := hvs.length
    refine ⟨fl, vs, _, rfl, rfl, hf12, sm _ (by omega), _, _, _, vs ++ [V.ref t], p ++ [(1 + r11, u9)], rfl, ?_, ?_, upd_same, ?_, ?_, ?_⟩
    · exact (b3.trans ((But.same s4).trans (b49.trans (b9b.trans (But.new ht))))).updn hfl
    · exact (d11.same (Same.new ht)).upd nf.1 nf.2
    · exact (L2.Paired.mapP hvs fun _ _ z => z.keep (k39.trans (k12.trans kL))).snoc ⟨t, v9, rfl, kL _ _ upd_same, w9.keep (k12.trans kL)⟩
    · rw [List.length_append, hlen]; rfl
    · intro f hf2
      rcases List.mem_append.mp hf2 with z | z
      · exact hok f z
      · rw [List.mem_singleton.mp z]
        exact ⟨by show 1 ≤ 1 + r11; omega, by show 1 + r11 ≤ 8; omega, ok9, z9⟩
  · rintro σ H3 ⟨y5, y6, y7, vs, p, rfl, b3, d3, hf, hvs, hlen, hok⟩
    rw [List.length_map, List.length_cons] at hlen
    refine ⟨_, rfl, fl, vs, rfl, .inl ⟨SqL.of hf, fun t ht => ?_⟩⟩
    have kt := Keep.same (Same.new (o := .tup vs) ht)
    refine q _ _ p (b2.trans (b3.trans (But.new ht))) (d3.same (Same.new ht)) ⟨t, vs, rfl, upd_same, L2.Paired.mapP hvs fun _ _ z => z.keep kt⟩ ⟨by omega, by omega, fun f hf2 => ?_⟩ (by omega)
    rw [hlen]
    exact hok f hf2
end
end K16

namespace K16
open PySem PySem.Spec PyProof.Rows L2 Ov
section
variable {P : Program} {w : World} {K : PySem.W.Frag} {mg : Str → Option Value} {base : Heap}
theorem sc_law_forests : FnScope ["_law_many", "_law_found", "_law_k", "_law_longer", "_law_stands", "_law_good", "_law_left", "_law_step", "_law_under"] ["_law_many"] (defScope s_law_forests) := ⟨rfl, rfl, rfl, by decide +kernel, rfl, by decide +kernel, by decide +kernel⟩
-- 0 _law_many, 1 _law_found, 2 _law_k, 3 _law_longer, 4 _law_stands, 5 _law_good, 6 _law_left, 7 _law_step, 8 _law_under
theorem ok_law_forests (T : Txt w K mg) : FnOk P w K mg base CX0 1 (He.ga K "_law_forests") (fdOf K d_law_forests) ["_law_many"] spForests := by
  refine T.F_law_forests.ok sc_law_forests (fun vs H Q E h => ?_) (fun cdv A outer s H vs Q E hr h => ?_)
  · obtain ⟨n, rfl, _⟩ := h
    rfl
  obtain ⟨n, rfl, h5, q⟩ := h
  refine ⟨_, PSs.nox (pss_cons (ps_set (i := 1) sc_law_forests.nd rfl (by first | exact Or.inl rfl | exact Or.inr rfl) (pe_lst (pa_cons (pe_tup pa_nil) pa_nil)))
      (pss_cons (ps_for PassesOwn.never rfl (pi_range1 (by rfl) T.z_range (pa_cons (pv 0) pa_nil)) (pg_name (i := 2) sc_law_forests.nd rfl (by first | exact Or.inl rfl | exact Or.inr rfl)) (pss_cons (ps_set (i := 3) sc_law_forests.nd rfl (by first | exact Or.inl rfl | exact Or.inr rfl) (pe_lst pa_nil))
      (pss_cons (ps_for PassesOwn.never rfl (Ov.pi_listK (K := K) rfl (pv 1)) (pg_name (i := 4) sc_law_forests.nd rfl (by first | exact Or.inl rfl | exact Or.inr rfl)) (pss_one (ps_set (i := 3) sc_law_forests.nd rfl (by first | exact Or.inl rfl | exact Or.inr rfl) (pe_op op_cat (pv 3) (pe_lc (own := [("_law_under", 8)]) rfl sc_law_forests.nd (pi_range2 (by rfl) T.z_range (pa_cons (pe_un un_neg pe_int) (pa_cons (pv 0) pa_nil))) (blkOk_by (own := [("_law_under", 8)]) (N := ["_law_many", "_law_found", "_law_k", "_law_longer", "_law_stands", "_law_good", "_law_left", "_law_step", "_law_under"]) (sc := defScope s_law_forests) (by decide +kernel)) (fun _ _ _ _ _ => (pg_name (i := 8) sc_law_forests.nd rfl (by first | exact Or.inl rfl | exact Or.inr rfl))) (fun _ _ _ _ _ => pts_one (pt_cmpR op_ne (pv 8) (pv 2) (nomark _))) (fun _ _ _ _ _ => (pe_op (r := rCatA K) op_catA (pv 4) (pe_tup (pa_cons (pv 8) pa_nil)))))))))
      (pss_one (ps_set (i := 1) sc_law_forests.nd rfl (by first | exact Or.inl rfl | exact Or.inr rfl) (pv 3))))))
      (pss_cons (ps_set (i := 5) sc_law_forests.nd rfl (by first | exact Or.inl rfl | exact Or.inr rfl) (pe_lst pa_nil))
      (pss_cons (ps_for PassesOwn.never rfl (Ov.pi_listK (K := K) rfl (pv 1)) (pg_name (i := 4) sc_law_forests.nd rfl (by first | exact Or.inl rfl | exact Or.inr rfl)) (pss_cons (ps_set (i := 6) sc_law_forests.nd rfl (by first | exact Or.inl rfl | exact Or.inr rfl) (pe_lc (own := [("_law_k", 2)]) rfl sc_law_forests.nd (pi_range1 (by rfl) T.z_range (pa_cons (pv 0) pa_nil)) (blkOk_by (own := [("_law_k", 2)]) (N := ["_law_many", "_law_found", "_law_k", "_law_longer", "_law_stands", "_law_good", "_law_left", "_law_step", "_law_under"]) (sc := defScope s_law_forests) (by decide +kernel)) (fun _ _ _ _ _ => (pg_name (i := 2) sc_law_forests.nd rfl (by first | exact Or.inl rfl | exact Or.inr rfl))) (fun _ _ _ _ _ => pts_one (pt_cmpR op_ge (pe_ix (r := rIxT K) ix_tup (pv 4) (pv 2) (fun _ _ => rfl)) pe_int (nomark _))) (fun _ _ _ _ _ => (pv 2))))
      (pss_cons (ps_for PassesOwn.never rfl (pi_range1 (by rfl) T.z_range (pa_cons (pv 0) pa_nil)) (pg_name (i := 7) sc_law_forests.nd rfl (by first | exact Or.inl rfl | exact Or.inr rfl)) (pss_one (ps_set (i := 6) sc_law_forests.nd rfl (by first | exact Or.inl rfl | exact Or.inr rfl) (pe_lc (own := [("_law_k", 2)]) rfl sc_law_forests.nd (Ov.pi_listK (K := K) rfl (pv 6)) (blkOk_by (own := [("_law_k", 2)]) (N := ["_law_many", "_law_found", "_law_k", "_law_longer", "_law_stands", "_law_good", "_law_left", "_law_step", "_law_under"]) (sc := defScope s_law_forests) (by decide +kernel)) (fun _ _ _ _ _ => (pg_name (i := 2) sc_law_forests.nd rfl (by first | exact Or.inl rfl | exact Or.inr rfl))) (fun _ _ _ _ _ => pts_one (pt_cmpR (r := rIn K false) op_in_seq (pe_ix (r := rIxT K) ix_tup (pv 4) (pv 2) (fun _ _ => rfl)) (pv 6) (by first | rfl | exact nomark _))) (fun _ _ _ _ _ => (pv 2))))))
      (pss_one (ps_if (pt_cmpR (r := rEqD K) (op_eqD hr.units) (pv 6) (pe_lst pa_nil) (nomark _)) (pss_one (ps_expr (Ov.pe_bmK (K := K) rfl PySem.F.plainAttrs_list PySem.F.slot_list_append PySem.F.type_list_append mt_append (pv 5) (pa_cons (pv 4) pa_nil)))) pss_nil)))))
      (pss_one (ps_ret (pv 5))))))), ?_⟩
  refine ⟨sml 0, fun p0 hp0 => ⟨sml 1, fun f0 hf0 => ?_⟩⟩
  have s0 := Same.new (o := .tup []) hp0
  have s1 := Same.new (o := .lst [V.ref p0]) hf0
  have e1 : upd (upd H p0 (.tup [])) f0 (.lst [V.ref p0]) f0 = some (.lst [V.ref p0]) := upd_same
  have ep := s1 _ _ (upd_same : upd H p0 (.tup []) p0 = some (.tup []))
  have sb := s0.trans s1
  generalize upd (upd H p0 (.tup [])) f0 (.lst [V.ref p0]) = H1 at e1 ep sb ⊢
  refine ⟨_, rfl, (n : Int), rfl, by omega, by omega, ?_⟩
  refine for_range (lo := 0) (n := (n : Int).toNat) (fun k σ' H' => ∃ (f : Addr) (y2 y3 y4 y8 : Option V) (rs : List V), σ' = [some (.int (n : Int)), some (.ref f), y2, y3, y4, none, none, none, y8] ∧ Same H H' ∧ H' f = some (.lst rs) ∧ Paired (RowI H') rs (rowF n k)) ⟨f0, none, none, none, none, _, rfl, sb, e1, .cons ⟨p0, rfl, ep⟩ .nil⟩ ?_ ?_
  · rintro k σ' H2 hk ⟨f, y2, y3, y4, y8, rs, rfl, s2, e2, hrs⟩
    rw [Int.toNat_natCast] at hk
    have hrl := Paired.length hrs
    have hsz := rowF_few (m := n) h5 k (by omega)
    have h6 : 6 ^ k ≤ 6 ^ 5 := Nat.pow_le_pow_right (by decide) (by omega)
    have h6 : 6 ^ k ≤ 7776 := h6
    refine ⟨sml 0, fun D hD => ?_⟩
    have sD := Same.new (o := .lst []) hD
    show gName 3 (V.ref D) [some (.int (n : Int)), some (.ref f), some (.int (0 + (k : Int))), y3, y4, none, none, none, y8] _ _
    refine ⟨_, rfl, f, rfl, ⟨_, SqL.of (sD _ _ e2)⟩, ?_⟩
    refine for_it (walk_list (K := K) (a := f) (xs := rs)) (fun i σ' H' => ∃ (g : Addr) (y4 y8 : Option V) (ws : List V), σ' = [some (.int (n : Int)), some (.ref f), some (.int (0 + (k : Int))), some (.ref g), y4, none, none, none, y8] ∧ Same H2 H' ∧ H' g = some (.lst ws) ∧ Paired (RowI H') ws (((rowF n k).take i).flatMap fun r => ((stdI n).filter fun x => decide (x ≠ (k : Int))).map fun x => r ++ [x]) ∧ ws.length ≤ 6 * i) ⟨D, y4, y8, [], rfl, sD, upd_same, .nil, Nat.le_refl _⟩ (fun i σ' H' _ ⟨_, _, _, _, _, s, _⟩ => SqL.of (s _ _ e2)) ?_ ?_
    · rintro i x σ' H3 H3' hi ⟨g, y4, y8, ws, rfl, s3, e3, hws, hwl⟩ ⟨rfl, hx⟩
      obtain ⟨r, hr, hxr⟩ := Paired.get2 hrs hx
      obtain ⟨a, rfl, ha⟩ := hxr
      have hrn := ((rowF_mem k).mp (List.mem_of_getElem? hr)).1
      have hil := (List.getElem?_eq_some_iff.mp hx).1
      have en : ((n : Int) - -1).toNat = n + 1 := by omega
      have hsl : (stdI n).length = n + 1 := by unfold stdI; rw [List.length_map, List.length_range]
      refine ⟨_, rfl, ?_⟩
      refine ⟨_, rfl, _, rfl, -1, (n : Int), rfl, ⟨by omega, by omega, by omega, by omega⟩, fun B hB => ?_⟩
      refine lc_range (lo := -1) (n := ((n : Int) - -1).toNat) (fun j H' => ∃ zs, Same H3' H' ∧ H' B = some (.lst zs) ∧ Paired (RowI H') zs ((((stdI n).take j).filter fun x => decide (x ≠ (k : Int))).map fun x => r ++ [x]) ∧ zs.length ≤ j) ⟨[], Same.new hB, upd_same, .nil, Nat.le_refl _⟩ ?_ ?_
      · rintro j H6 hj ⟨zs, s6, e6, hzs, hzl⟩
        have ej : (stdI n)[j]? = some (-1 + (j : Int)) := by
          unfold stdI
          rw [List.getElem?_map, List.getElem?_range (by omega)]
          rfl
        refine ⟨rfl, _, rfl, _, rfl, rfl, _, rfl, ?_⟩
        rw [List.take_add_one, ej, List.filter_append, List.map_append]
        by_cases c : -1 + (j : Int) = (0 : Int) + (k : Int)
        · rw [show (some (-1 + (j : Int))).toList.filter (fun x => decide (x ≠ (k : Int))) = [] by simp [show -1 + (j : Int) = (k : Int) by omega]]
          rw [show (!decide (V.int (-1 + (j : Int)) = V.int ((0 : Int) + (k : Int)))) = false by rw [c, decide_eq_true rfl]; rfl]
          exact iteF ⟨zs, s6, e6, by rw [List.map_nil, List.append_nil]; exact hzs, by omega⟩
        · rw [show (some (-1 + (j : Int))).toList.filter (fun x => decide (x ≠ (k : Int))) = [-1 + (j : Int)] by simp [show ¬ -1 + (j : Int) = (k : Int) by omega]]
          rw [show (!decide (V.int (-1 + (j : Int)) = V.int ((0 : Int) + (k : Int)))) = true by rw [decide_eq_false fun e => c (V.int.inj e)]; rfl]
          refine iteT ⟨_, rfl, _, rfl, sml 1, fun p7 hp7 => ?_⟩
          have s7 := Same.new (o := .tup [.int (-1 + (j : Int))]) hp7
          refine cat_ld (s7 _ _ (s6 _ _ (s3 _ _ ha))) upd_same (by rw [List.length_map]; show _ + 1 ≤ _; omega) fun H8 p8 s8 e8 => ?_
          have s68 := s7.trans s8
          have e8B := s68 _ _ e6
          have kB := Keep.updL (ys := zs ++ [.ref p8]) e8B
          refine ⟨_, e8B, sm _ (by omega), zs ++ [.ref p8], Ov.Same.updn (s6.trans s68) hB, upd_same, ?_, by rw [List.length_append]; show _ + 1 ≤ _; omega⟩
          refine PySem.Paired.snoc (L2.Paired.mapP hzs fun _ _ z => (z.keep (Keep.same s68)).keep kB) (RowI.keep kB ⟨p8, rfl, ?_⟩)
          rw [e8, List.map_append]
          rfl
      rintro H6 ⟨zs, s6, e6, hzs, hzl⟩
      rw [en] at hzl
      rw [en, ← hsl, List.take_length] at hzs
      have e3g := s6 _ _ e3
      refine ⟨g, B, _, _, rfl, rfl, e3g, e6, smln _ (by omega), fun p hp => ?_⟩
      have sp := Same.new (o := .lst (ws ++ zs)) hp
      have s36 := s6.trans sp
      refine ⟨p, _, _, ws ++ zs, rfl, s3.trans s36, upd_same, ?_, by rw [List.length_append]; omega⟩
      rw [List.take_add_one, hr, List.flatMap_append]
      refine paired_app (L2.Paired.mapP hws fun _ _ z => z.keep (Keep.same s36)) ?_
      show Paired _ zs (_ ++ [])
      rw [List.append_nil]
      exact L2.Paired.mapP hzs fun _ _ z => z.keep (Keep.same sp)
    rintro σ' H3 ⟨g, y4, y8, ws, rfl, s3, e3, hws, _⟩
    rw [hrl, List.take_length] at hws
    exact ⟨_, rfl, g, _, _, _, _, ws, rfl, s2.trans s3, e3, hws⟩
  rintro σ' H2 ⟨f, y2, y3, y4, y8, rs, rfl, s2, e2, hrs⟩
  rw [Int.toNat_natCast] at hrs
  have hrl := Paired.length hrs
  have hsz := rowF_few (m := n) h5 n h5
  have h6 : 6 ^ n ≤ 6 ^ 5 := Nat.pow_le_pow_right (by decide) h5
  have h6 : 6 ^ n ≤ 7776 := h6
  refine ⟨sml 0, fun D hD => ?_⟩
  have hD0 : H D = none := Same.free s2 hD
  have sD := Same.new (o := .lst []) hD
  show gName 5 (V.ref D) [some (.int (n : Int)), some (.ref f), y2, y3, y4, none, none, none, y8] _ _
  refine ⟨_, rfl, f, rfl, ⟨_, SqL.of (sD _ _ e2)⟩, ?_⟩
  refine for_it (walk_list (K := K) (a := f) (xs := rs)) (fun i σ' H' => ∃ (y2 y4 y6 y7 : Option V) (ws : List V), σ' = [some (.int (n : Int)), some (.ref f), y2, y3, y4, some (.ref D), y6, y7, y8] ∧ Same H2 H' ∧ H' D = some (.lst ws) ∧ Paired (RowI H') ws (((rowF n n).take i).filter fun st => (leftN st n n).isEmpty) ∧ ws.length ≤ i) ⟨y2, y4, none, none, [], rfl, sD, upd_same, .nil, Nat.le_refl _⟩ (fun i σ' H' _ ⟨_, _, _, _, _, _, s, _⟩ => SqL.of (s _ _ e2)) ?_ ?_
  · rintro i x σ' H3 H3' hi ⟨y2, y4, y6, y7, ws, rfl, s3, e3, hws, hwl⟩ ⟨rfl, hx⟩
    obtain ⟨r, hr, hxr⟩ := Paired.get2 hrs hx
    have hil := (List.getElem?_eq_some_iff.mp hx).1
    obtain ⟨a, rfl, ha⟩ := id hxr
    obtain ⟨hrn, hrx⟩ := (rowF_mem n).mp (List.mem_of_getElem? hr)
    have at_r : ∀ {k : Nat}, k < n → ∃ z : Int, r[k]? = some z ∧ r[k]?.getD (-1) = z := fun {k} hk => by
      have e : r[k]? = some (r[k]'(by omega)) := List.getElem?_eq_getElem _
      exact ⟨_, e, by rw [e]; rfl⟩
    refine ⟨_, rfl, (n : Int), rfl, by omega, by omega, fun B hB => ?_⟩
    refine lc_range (lo := 0) (n := (n : Int).toNat) (fun j H' => Same H3' H' ∧ H' B = some (.lst (nV ((List.range j).filter fun k => decide (0 ≤ r[k]?.getD (-1)))))) ⟨Same.new hB, upd_same⟩ ?_ ?_
    · rintro j H6 hj ⟨s6, e6⟩
      rw [Int.toNat_natCast] at hj
      obtain ⟨z, hz, hz2⟩ := at_r hj
      have hlen : ((List.range j).filter fun k => decide (0 ≤ r[k]?.getD (-1))).length ≤ j := Nat.le_trans (List.length_filter_le _ _) (by rw [List.length_range]; exact Nat.le_refl _)
      refine ⟨rfl, _, rfl, _, rfl, a, _, (0 : Int) + (j : Int), .int z, rfl, rfl, SqT.of (s6 _ _ (s3 _ _ ha)), by rw [Int.zero_add]; exact atI_nat (by rw [List.getElem?_map, hz]; rfl), _, _, rfl, rfl, _, rfl, ?_⟩
      rw [List.range_succ, List.filter_append]
      by_cases c : 0 ≤ z
      · rw [show [j].filter (fun k => decide (0 ≤ r[k]?.getD (-1))) = [j] by simp [hz2, c]]
        rw [decide_eq_true c]
        refine iteT ⟨_, rfl, _, e6, sm _ (by rw [nV_len]; omega), Ov.Same.updn s6 hB, ?_⟩
        rw [upd_same, nV_app, Int.zero_add]
      · rw [show [j].filter (fun k => decide (0 ≤ r[k]?.getD (-1))) = [] by simp [hz2, c], List.append_nil]
        rw [decide_eq_false c]
        exact iteF ⟨s6, e6⟩
    rintro H6 ⟨s6, e6⟩
    rw [Int.toNat_natCast] at e6
    have e6 : H6 B = some (.lst (nV (leftN r n 0))) := e6
    show gName 6 (V.ref B) [some (.int (n : Int)), some (.ref f), y2, y3, some (.ref a), some (.ref D), y6, y7, y8] _ _
    refine ⟨_, rfl, (n : Int), rfl, by omega, by omega, ?_⟩
    refine for_range (lo := 0) (n := (n : Int).toNat) (fun t σ' H' => ∃ (y2 y7 : Option V) (b : Addr), σ' = [some (.int (n : Int)), some (.ref f), y2, y3, some (.ref a), some (.ref D), some (.ref b), y7, y8] ∧ Same H3' H' ∧ H' b = some (.lst (nV (leftN r n t)))) ⟨_, _, B, rfl, s6, e6⟩ ?_ ?_
    · rintro t σ' H7 ht ⟨y2, y7, b, rfl, s7, e7⟩
      have hll := leftN_len (st := r) (m := n) t
      refine ⟨_, rfl, b, rfl, ⟨_, SqL.of e7⟩, fun G hG => ?_⟩
      refine lc_list (K := K) (a := b) (xs := nV (leftN r n t)) (fun j H' => Same H7 H' ∧ H' G = some (.lst (nV (((leftN r n t).take j).filter fun k => decide ((r[k]?.getD (-1)) ∈ (leftN r n t).map fun (x : Nat) => (x : Int)))))) ⟨Same.new hG, upd_same⟩ (fun j H' _ ⟨s, _⟩ => SqL.of (s _ _ e7)) ?_ ?_
      · rintro j x H8 hj ⟨s8, e8⟩
        obtain ⟨k, hk, rfl⟩ := nV_int hj
        obtain ⟨z, hz, hz2⟩ := at_r (leftN_sub t (List.mem_of_getElem? hk))
        have hjl := (List.getElem?_eq_some_iff.mp hk).1
        have hlen : (((leftN r n t).take j).filter fun k => decide ((r[k]?.getD (-1)) ∈ (leftN r n t).map fun (x : Nat) => (x : Int))).length ≤ j := Nat.le_trans (List.length_filter_le _ _) (by rw [List.length_take]; omega)
        refine ⟨rfl, _, rfl, _, rfl, a, _, (k : Int), .int z, rfl, rfl, SqT.of (s8 _ _ (s7 _ _ (s3 _ _ ha))), atI_nat (by rw [List.getElem?_map, hz]; rfl), _, rfl, b, _, rfl, .inl (SqL.of (s8 _ _ e7)), rfl, nVflat _, ?_⟩
        refine ⟨_, rfl, ?_⟩
        show if inV (.int z) (nV (leftN r n t)) = true then _ else _
        rw [inVint, List.take_add_one, hk, List.filter_append]
        by_cases c : z ∈ (leftN r n t).map fun (x : Nat) => (x : Int)
        · rw [show (some k).toList.filter (fun k => decide ((r[k]?.getD (-1)) ∈ (leftN r n t).map fun (x : Nat) => (x : Int))) = [k] by
            show [k].filter _ = _
            rw [List.filter_cons_of_pos (by rw [hz2]; exact decide_eq_true c)]
            rfl]
          rw [decide_eq_true c]
          refine iteT ⟨_, rfl, _, e8, sm _ (by rw [nV_len]; omega), Ov.Same.updn s8 hG, ?_⟩
          rw [upd_same, nV_app]
        · rw [show (some k).toList.filter (fun k => decide ((r[k]?.getD (-1)) ∈ (leftN r n t).map fun (x : Nat) => (x : Int))) = [] by
            show [k].filter _ = _
            rw [List.filter_cons_of_neg (by rw [hz2, decide_eq_false c]; exact Bool.false_ne_true)]
            rfl, List.append_nil]
          rw [decide_eq_false c]
          exact iteF ⟨s8, e8⟩
      rintro H8 ⟨s8, e8⟩
      rw [nV_len, List.take_length] at e8
      exact ⟨_, _, G, rfl, s7.trans s8, e8⟩
    rintro σ' H7 ⟨y2, y7, b, rfl, s7, e7⟩
    rw [Int.toNat_natCast] at e7
    refine ⟨_, rfl, sml 0, fun e0 he0 => ?_⟩
    have w0 := Same.new (o := .lst []) he0
    refine ⟨_, _, .lst (SqL.of (w0 _ _ e7)) (nV_dp _), .lst (SqL.of upd_same) .nil, dNsL_sh _, by decide +kernel, ?_⟩
    rw [eqvNilN]
    refine ⟨_, rfl, ?_⟩
    have s37 := s7.trans w0
    have e3D := s37 _ _ e3
    rw [List.take_add_one, hr, List.filter_append]
    cases c : (leftN r n n).isEmpty with
    | true =>
      rw [show (some r).toList.filter (fun st => (leftN st n n).isEmpty) = [r] by
        show [r].filter _ = _
        rw [List.filter_cons_of_pos (by exact c)]
        rfl]
      have kD := Keep.updL (ys := ws ++ [.ref a]) e3D
      refine iteT ⟨_, rfl, .inl ⟨rfl, _, SqL.of e3D⟩, _, rfl, D, ws, _, rfl, rfl, e3D, smn _ (by omega), ⟨_, _, _, _, ws ++ [.ref a], rfl, Ov.Same.updn (s3.trans s37) hD, upd_same, ?_, by rw [List.length_append]; show _ + 1 ≤ _; omega⟩⟩
      exact PySem.Paired.snoc (L2.Paired.mapP hws fun _ _ z => (z.keep (Keep.same s37)).keep kD) ((hxr.keep (Keep.same (s3.trans s37))).keep kD)
    | false =>
      rw [show (some r).toList.filter (fun st => (leftN st n n).isEmpty) = [] by
        show [r].filter _ = _
        rw [List.filter_cons_of_neg (by rw [c]; exact Bool.false_ne_true)]
        rfl, List.append_nil]
      exact iteF ⟨_, _, _, _, ws, rfl, s3.trans s37, e3D, L2.Paired.mapP hws fun _ _ z => z.keep (Keep.same s37), by omega⟩
  rintro σ' H3 ⟨y2, y4, y6, y7, ws, rfl, s3, e3, hws, _⟩
  rw [hrl, List.take_length] at hws
  exact ⟨_, rfl, q H3 D ws (s2.trans s3) hD0 e3 hws⟩
end
end K16

namespace K16
open PySem PySem.Spec PyProof.Rows L2 Ov
section
variable {P : Program} {w : World} {K : PySem.W.Frag} {mg : Str → Option Value} {base : Heap}
theorem sc_law_parts : FnScope ["_law_many", "_law_found", "_law_function", "_law_longer", "_law_parts_here", "_law_k"] ["_law_many"] (defScope s_law_parts) := ⟨rfl, rfl, rfl, by decide +kernel, rfl, by decide +kernel, by decide +kernel⟩
-- 0 _law_many, 1 _law_found, 2 _law_function, 3 _law_longer, 4 _law_parts_here, 5 _law_k
theorem ok_law_parts (T : Txt w K mg) : FnOk P w K mg base CX0 1 (He.ga K "_law_parts") (fdOf K d_law_parts) ["_law_many"] spLawParts := by
  refine T.F_law_parts.ok sc_law_parts (fun vs H Q E h => ?_) (fun cdv A outer s H vs Q E hr h => ?_)
  · obtain ⟨n, rfl, _⟩ := h
    rfl
  obtain ⟨n, rfl, h5, q⟩ := h
  refine ⟨_, PSs.nox (pss_cons (ps_set (i := 1) sc_law_parts.nd rfl (by first | exact Or.inl rfl | exact Or.inr rfl) (pe_lst (pa_cons (pe_lst pa_nil) pa_nil)))
      (pss_cons (ps_for PassesOwn.never rfl (pi_range1 (by rfl) T.z_range (pa_cons (pv 0) pa_nil)) (pg_name (i := 2) sc_law_parts.nd rfl (by first | exact Or.inl rfl | exact Or.inr rfl)) (pss_cons (ps_set (i := 3) sc_law_parts.nd rfl (by first | exact Or.inl rfl | exact Or.inr rfl) (pe_lst pa_nil))
      (pss_cons (ps_for PassesOwn.never rfl (Ov.pi_listK (K := K) rfl (pv 1)) (pg_name (i := 4) sc_law_parts.nd rfl (by first | exact Or.inl rfl | exact Or.inr rfl)) (pss_cons (ps_expr (Ov.pe_bmK (K := K) rfl PySem.F.plainAttrs_list PySem.F.slot_list_append PySem.F.type_list_append mt_append (pv 3) (pa_cons (pe_op op_cat (pv 4) (pe_lst (pa_cons (pe_tup (pa_cons (pv 2) pa_nil)) pa_nil))) pa_nil)))
      (pss_one (ps_for PassesOwn.never rfl (pi_range1 (by rfl) T.z_range (pa_cons (pe_callB (r := Evl.rLenS K) call_len_seq (by rfl) T.z_len PySem.boot_len (pa_cons (pv 4) pa_nil)) pa_nil)) (pg_name (i := 5) sc_law_parts.nd rfl (by first | exact Or.inl rfl | exact Or.inr rfl)) (pss_one (ps_expr (Ov.pe_bmK (K := K) rfl PySem.F.plainAttrs_list PySem.F.slot_list_append PySem.F.type_list_append mt_append (pv 3) (pa_cons (pe_op op_cat (pe_op op_cat (pe_slice (r := rSlL K) sl_list (pv 4) po_none (po_some (pv 5))) (pe_lst (pa_cons (pe_op (r := rCatA K) op_catA (pe_ix (r := rIxL K) ix_list (pv 4) (pv 5) (fun _ _ => rfl)) (pe_tup (pa_cons (pv 2) pa_nil))) pa_nil))) (pe_slice (r := rSlL K) sl_list (pv 4) (po_some (pe_op op_add (pv 5) pe_int)) po_none)) pa_nil))))))))
      (pss_one (ps_set (i := 1) sc_law_parts.nd rfl (by first | exact Or.inl rfl | exact Or.inr rfl) (pv 3))))))
      (pss_one (ps_ret (pv 1))))), ?_⟩
  refine ⟨sml 0, fun p0 hp0 => ⟨sml 1, fun f0 hf0 => ?_⟩⟩
  have s0 := Same.new (o := .lst []) hp0
  have s1 := Same.new (o := .lst [V.ref p0]) hf0
  have e1 : upd (upd H p0 (.lst [])) f0 (.lst [V.ref p0]) f0 = some (.lst [V.ref p0]) := upd_same
  have ep := s1 _ _ (upd_same : upd H p0 (.lst []) p0 = some (.lst []))
  have sb := s0.trans s1
  have nf0 : H f0 = none := Same.free s0 hf0
  generalize upd (upd H p0 (.lst [])) f0 (.lst [V.ref p0]) = H1 at e1 ep sb ⊢
  refine ⟨_, rfl, (n : Int), rfl, by omega, by omega, ?_⟩
  refine for_range (lo := 0) (n := (n : Int).toNat) (fun k σ' H' => ∃ (f : Addr) (y2 y3 y4 y5 : Option V) (rs : List V), σ' = [some (.int (n : Int)), some (.ref f), y2, y3, y4, y5] ∧ Same H H' ∧ H f = none ∧ H' f = some (.lst rs) ∧ Paired (PlAt anyA H') rs (partL k)) ⟨f0, none, none, none, none, _, rfl, sb, nf0, e1, .cons ⟨p0, [], rfl, trivial, ep, .nil⟩ .nil⟩ ?_ ?_
  · rintro k σ' H2 hk ⟨f, y2, y3, y4, y5, rs, rfl, s2, nf, e2, hrs⟩
    rw [Int.toNat_natCast] at hk
    have hrl := Paired.length hrs
    have hsz := partL_size (n := k) (by omega)
    refine ⟨sml 0, fun D hD => ?_⟩
    have hD0 : H D = none := Same.free s2 hD
    have sD := Same.new (o := .lst []) hD
    show gName 3 (V.ref D) [some (.int (n : Int)), some (.ref f), some (.int (0 + (k : Int))), y3, y4, y5] _ _
    have ndf : f ≠ D := ne_of_none e2 hD
    refine ⟨_, rfl, f, rfl, ⟨_, SqL.of (sD _ _ e2)⟩, ?_⟩
    refine for_it (walk_list (K := K) (a := f) (xs := rs)) (fun i σ' H' => ∃ (y4 y5 : Option V) (ws : List V), σ' = [some (.int (n : Int)), some (.ref f), some (.int (0 + (k : Int))), some (.ref D), y4, y5] ∧ Same H2 H' ∧ H' D = some (.lst ws) ∧ Paired (PlAt (· ≠ D) H') ws (((partL k).take i).flatMap fun ps => nextL ps k) ∧ ws.length ≤ 9 * i) ⟨y4, y5, [], rfl, sD, upd_same, .nil, Nat.le_refl _⟩ (fun i σ' H' _ ⟨_, _, _, _, s, _⟩ => SqL.of (s _ _ e2)) ?_ ?_
    · rintro i x σ' H3 H3' hi ⟨y4, y5, ws, rfl, s3, e3, hws, hwl⟩ ⟨rfl, hx⟩
      obtain ⟨ps, hps, hpx⟩ := Paired.get2 hrs hx
      have hpm := List.mem_of_getElem? hps
      have hpl := partL_len hpm
      have hp8 := partL_few hpm (by omega)
      obtain ⟨a, us, rfl, _, ha, hus⟩ := hpx.ne hD
      have nad : a ≠ D := ne_of_none ha hD
      have hul : us.length = ps.length := Paired.length hus
      have kk : (0 : Int) + (k : Int) = (k : Int) := Int.zero_add _
      -- a part of its own
      refine ⟨_, rfl, .inl ⟨rfl, _, SqL.of e3⟩, _, rfl, _, rfl, sml 1, fun p1 hp1 => ⟨sml 1, fun p2 hp2 => ?_⟩⟩
      have w1 := Same.new (o := .tup [V.int (0 + (k : Int))]) hp1
      have w2 := Same.new (o := .lst [V.ref p1]) hp2
      have w12 := w1.trans w2
      have s12 := s3.trans w12
      refine ⟨a, p2, _, _, rfl, rfl, s12 _ _ ha, upd_same, sml _ (by show _ + 1 ≤ _; omega), fun p3 hp3 => ?_⟩
      have w3 := Same.new (o := .lst (us ++ [V.ref p1])) hp3
      have w13 := w12.trans w3
      have s13 := s12.trans w3
      have e4 := w13 _ _ e3
      have n3 : p3 ≠ D := fun z => by
        rw [z] at hp3
        rw [(w12 _ _ e3)] at hp3
        cases hp3
      have kD := Keep.updL (ys := ws ++ [.ref p3]) e4
      have first : Paired (PlAt (· ≠ D) (upd (upd (upd (upd H3' p1 (.tup [V.int (0 + (k : Int))])) p2 (.lst [V.ref p1])) p3 (.lst (us ++ [V.ref p1]))) D (.lst (ws ++ [.ref p3])))) (ws ++ [.ref p3]) ((((partL k).take i).flatMap fun ps => nextL ps k) ++ (nextL ps k).take (0 + 1)) := by
        refine PySem.Paired.snoc (L2.Paired.mapP hws fun _ _ z => (z.same w13).updD kD) ⟨p3, us ++ [.ref p1], rfl, n3, by rw [upd_ne n3, upd_same], ?_⟩
        refine paired_app (L2.Paired.mapP hus fun _ _ z => (z.keep (Keep.same s13)).keep kD) (.cons ⟨p1, rfl, kD _ _ ?_⟩ .nil)
        rw [(w2.trans w3) _ _ upd_same, kk]
        rfl
      have sX : Same H2 (upd (upd (upd (upd H3' p1 (.tup [V.int (0 + (k : Int))])) p2 (.lst [V.ref p1])) p3 (.lst (us ++ [V.ref p1]))) D (.lst (ws ++ [.ref p3]))) := Ov.Same.updn s13 hD
      have eX : (upd (upd (upd (upd H3' p1 (.tup [V.int (0 + (k : Int))])) p2 (.lst [V.ref p1])) p3 (.lst (us ++ [V.ref p1]))) D (.lst (ws ++ [.ref p3]))) D = some (.lst (ws ++ [.ref p3])) := upd_same
      refine ⟨D, ws, _, rfl, rfl, e4, sm _ (by omega), ?_⟩
      generalize upd (upd (upd (upd H3' p1 (.tup [V.int (0 + (k : Int))])) p2 (.lst [V.ref p1])) p3 (.lst (us ++ [V.ref p1]))) D (.lst (ws ++ [.ref p3])) = H4 at first sX eX ⊢
      have hwl4 : (ws ++ [V.ref p3]).length ≤ 9 * i + 1 := by rw [List.length_append]; show _ + 1 ≤ _; omega
      generalize ws ++ [V.ref p3] = ws4 at first eX hwl4
      clear w13 w3 w12 w2 w1 s12 s13 e4 n3 kD hp3 hp2 hp1 hws e3 s3
      have hnl := nextL_size ps k
      refine ⟨_, rfl, a, _, rfl, .inl (SqL.of (sX _ _ ha)), _, rfl, by omega, by omega, ?_⟩
      refine for_range (lo := 0) (n := ((us.length : Nat) : Int).toNat) (fun j σ' H' => ∃ (y5 : Option V) (ws : List V), σ' = [some (.int (n : Int)), some (.ref f), some (.int (0 + (k : Int))), some (.ref D), some (.ref a), y5] ∧ Same H2 H' ∧ H' D = some (.lst ws) ∧ Paired (PlAt (· ≠ D) H') ws ((((partL k).take i).flatMap fun ps => nextL ps k) ++ (nextL ps k).take (j + 1)) ∧ ws.length ≤ 9 * i + 1 + j) ⟨y5, ws4, rfl, sX, eX, first, hwl4⟩ ?_ ?_
      · rintro j σ' H5 hj ⟨y5, ws, rfl, s5, e5, hws, hwl⟩
        rw [Int.toNat_natCast] at hj
        obtain ⟨q, hq⟩ : ∃ q, ps[j]? = some q := ⟨_, List.getElem?_eq_getElem (by omega)⟩
        obtain ⟨u, hu, b, rfl, hb⟩ := Paired.got hus hq
        have hq8 := hp8 q (List.mem_of_getElem? hq)
        have ej : (0 : Int) + (j : Int) = (j : Int) := Int.zero_add _
        refine ⟨_, rfl, .inl ⟨rfl, _, SqL.of e5⟩, _, rfl, ?_⟩
        dsimp only [tNoPart]
        refine ⟨_, rfl, (j : Int), by rw [ej], a, _, rfl, SqL.of (s5 _ _ ha), fun c1 hc1 => ?_⟩
        rw [cut_to _ j (by omega)]
        have w1 := Same.new (o := .lst (us.take j)) hc1
        refine ⟨_, rfl, _, rfl, a, _, _, _, rfl, rfl, SqL.of (w1 _ _ (s5 _ _ ha)), by rw [ej]; exact atI_nat hu, _, rfl, sml 1, fun p1 hp1 => ?_⟩
        have w2 := Same.new (o := .tup [V.int (0 + (k : Int))]) hp1
        refine cat_ld (w2 _ _ (w1 _ _ (s5 _ _ hb))) upd_same (by rw [nV_len]; show _ + 1 ≤ _; omega) fun H6 p2 w3 e6 => ⟨sml 1, fun c2 hc2 => ?_⟩
        have w4 := Same.new (o := .lst [V.ref p2]) hc2
        refine ⟨c1, c2, _, _, rfl, rfl, (w2.trans (w3.trans w4)) _ _ upd_same, upd_same, sml _ (by rw [List.length_take]; show _ + 1 ≤ _; omega), fun c3 hc3 => ?_⟩
        have w5 := Same.new (o := .lst (us.take j ++ [V.ref p2])) hc3
        have w15 := w1.trans (w2.trans (w3.trans (w4.trans w5)))
        refine ⟨_, rfl, _, rfl, _, _, rfl, rfl, ((j + 1 : Nat) : Int), by rw [ej, Int.natCast_add]; rfl, a, _, rfl, SqL.of (w15 _ _ (s5 _ _ ha)), fun c4 hc4 => ?_⟩
        rw [cut_from _ (j + 1) (by omega)]
        have w6 := Same.new (o := .lst (us.drop (j + 1))) hc4
        refine ⟨c3, c4, _, _, rfl, rfl, w6 _ _ upd_same, upd_same, sml _ (by rw [List.length_append, List.length_take, List.length_drop]; show _ + 1 + _ ≤ _; omega), fun c5 hc5 => ?_⟩
        have w7 := Same.new (o := .lst (us.take j ++ [V.ref p2] ++ us.drop (j + 1))) hc5
        have w17 := w15.trans (w6.trans w7)
        have e7 := w17 _ _ e5
        have n5 : c5 ≠ D := fun z => by
          rw [z] at hc5
          rw [(w15.trans w6) _ _ e5] at hc5
          cases hc5
        have kD := Keep.updL (ys := ws ++ [.ref c5]) e7
        have hpi : us.take j ++ [V.ref p2] ++ us.drop (j + 1) = us.set j (.ref p2) := by
          rw [List.set_eq_take_append_cons_drop, if_pos hj, List.append_assoc]
          rfl
        refine ⟨D, ws, _, rfl, rfl, e7, sm _ (by omega), ⟨_, ws ++ [.ref c5], rfl, Ov.Same.updn (s5.trans w17) hD, upd_same, ?_, by rw [List.length_append]; show _ + 1 ≤ _; omega⟩⟩
        have enx : (nextL ps k)[j + 1]? = some (ps.set j (q ++ [k])) := by
          unfold nextL
          rw [List.getElem?_cons_succ, List.getElem?_map, List.getElem?_range (by omega), Option.map_some, hq]
          rfl
        rw [List.take_add_one (i := j + 1), enx, ← List.append_assoc]
        refine PySem.Paired.snoc (L2.Paired.mapP hws fun _ _ z => (z.same w17).updD kD) ⟨c5, us.set j (.ref p2), rfl, n5, by rw [upd_ne n5, upd_same, hpi], ?_⟩
        refine paired_set (L2.Paired.mapP hus fun _ _ z => (z.keep (Keep.same (s5.trans w17))).keep kD) ⟨p2, rfl, kD _ _ ?_⟩ j
        rw [(w4.trans (w5.trans (w6.trans w7))) _ _ e6, Int.zero_add, nV_app]
      · rintro σ' H5 ⟨y5, ws, rfl, s5, e5, hws, hwl⟩
        rw [Int.toNat_natCast, hul, ← hnl, List.take_length] at hws
        rw [Int.toNat_natCast] at hwl
        refine ⟨_, _, ws, rfl, s5, e5, ?_, by omega⟩
        rw [List.take_add_one, hps, List.flatMap_append]
        show Paired _ _ (_ ++ (nextL ps k ++ []))
        rw [List.append_nil]
        exact hws
    rintro σ' H3 ⟨y4, y5, ws, rfl, s3, e3, hws, _⟩
    rw [hrl, List.take_length] at hws
    exact ⟨_, rfl, D, _, _, _, _, ws, rfl, s2.trans s3, hD0, e3, L2.Paired.mapP hws fun _ _ z => z.imp fun _ _ => trivial⟩
  · rintro σ' H2 ⟨f, y2, y3, y4, y5, rs, rfl, s2, nf, e2, hrs⟩
    rw [Int.toNat_natCast] at hrs
    exact ⟨_, rfl, q H2 f rs s2 nf e2 hrs⟩
end
end K16

namespace K16
open PySem PySem.Spec PyProof.Rows L2 Ov
section
variable {P : Program} {w : World} {K : PySem.W.Frag} {mg : Str → Option Value} {base : Heap}
/-! ### the tables -/
theorem arms_at (T : Txt w K mg) (o : Op) : KDct K w (He.ga K "ARMS") o.name (.int (o.arity : Int)) := by
  obtain ⟨es, n, D⟩ := T.kd_ARMS
  have hm : ((o.name, .int (o.arity : Int)) : Str × He.Dv) ∈ kv_ARMS := by cases o <;> simp [kv_ARMS, Op.name, Op.arity]
  obtain ⟨u, h1, h2⟩ := He.valsB_ok T.v_ARMS hm
  exact ⟨es, n, u, D.at_, D.lit, h1, h2⟩
theorem arms_in (T : Txt w K mg) (o : Op) : ∃ r, PySem.W.nsIn K (He.ga K "ARMS") o.name = some r ∧ r.isSome = true := by
  have hm : ((o.name, .int (o.arity : Int)) : Str × He.Dv) ∈ kv_ARMS := by cases o <;> simp [kv_ARMS, Op.name, Op.arity]
  obtain ⟨u, h1, h2⟩ := He.valsB_ok T.v_ARMS hm
  exact ⟨some u, h1, rfl⟩
def gword (o : Op) : Str := if o = .num then "number" else "function"
theorem given_mem (o : Op) (h : o.gives = true) : ((o.name, .str (gword o)) : Str × He.Dv) ∈ kv_GIVEN := by cases o <;> first | (simp [kv_GIVEN, Op.name, gword]; done) | cases h
theorem given_at (T : Txt w K mg) (o : Op) (h : o.gives = true) : KDct K w (He.ga K "GIVEN") o.name (.str (gword o)) := by
  obtain ⟨es, n, D⟩ := T.kd_GIVEN
  obtain ⟨u, h1, h2⟩ := He.valsB_ok T.v_GIVEN (given_mem o h)
  exact ⟨es, n, u, D.at_, D.lit, h1, h2⟩
theorem given_in (T : Txt w K mg) (o : Op) : ∃ r, PySem.W.nsIn K (He.ga K "GIVEN") o.name = some r ∧ r.isSome = o.gives := by
  cases h : o.gives with
  | true =>
    obtain ⟨u, h1, h2⟩ := He.valsB_ok T.v_GIVEN (given_mem o h)
    exact ⟨some u, h1, rfl⟩
  | false =>
    have hm : o.name ∈ miss_GIVEN := by cases o <;> first | (simp [miss_GIVEN, Op.name]; done) | cases h
    exact ⟨none, He.eqO_ok (List.all_eq_true.mp T.m_GIVEN _ hm), rfl⟩
theorem sc_between : FnScope ["value", "low", "high"] ["value", "low", "high"] (defScope s_between) := ⟨rfl, rfl, rfl, by decide +kernel, rfl, by decide +kernel, by decide +kernel⟩
-- 0 value, 1 low, 2 high
theorem ok_between (T : Txt w K mg) : FnOk P w K mg base CX0 1 (He.ga K "between") (fdOf K d_between) ["value", "low", "high"] spBetween := by
  refine T.F_between.ok sc_between (fun vs H Q E h => ?_) (fun cdv A outer s H vs Q E hr h => ?_)
  · obtain ⟨v, lo, hi, rfl, _⟩ := h
    rfl
  obtain ⟨v, lo, hi, rfl, q⟩ := h
  refine ⟨_, PSs.nox (pss_one (ps_ret (pe_and (pe_callB (r := rIsi K) call_isi (by rfl) T.z_isinstance (by decide +kernel) (pa_cons (pv 0) (pa_cons (pe_bltn (v := .ty "int") (by rfl) T.z_int (by decide +kernel) rfl) pa_nil))) (pe_and (pe_not (pe_callB (r := rIsi K) call_isi (by rfl) T.z_isinstance (by decide +kernel) (pa_cons (pv 0) (pa_cons (pe_bltn (v := .ty "bool") (by rfl) T.z_bool (by decide +kernel) rfl) pa_nil)))) (pe_one (pe_chain op_le op_le (pv 1) (pv 0) (pv 2))))))), ?_⟩
  refine ⟨_, rfl, .int v, .ty "int", .type "int", .type "int", true, rfl, .ty _, .base (.int v), k_int_int, true, rfl, ?_⟩
  refine ⟨_, rfl, .int v, .ty "bool", .type "int", .type "bool", false, rfl, .ty _, .base (.int v), k_int_bool, false, rfl, true, rfl, ?_⟩
  refine ⟨_, rfl, _, rfl, lo, v, rfl, rfl, _, rfl, ?_⟩
  refine ite2 (fun a => ?_) (fun a => ?_)
  · have a1 : lo ≤ v := of_decide_eq_true a
    refine ⟨_, rfl, v, hi, rfl, rfl, ?_⟩
    show Q (.bl (decide (v ≤ hi))) H
    rw [show decide (v ≤ hi) = decide (lo ≤ v ∧ v ≤ hi) by simp [a1]]
    exact q
  · have a1 : ¬ lo ≤ v := of_decide_eq_false (Bool.eq_false_iff.mpr a)
    show Q (.bl false) H
    rw [show false = decide (lo ≤ v ∧ v ≤ hi) by simp [a1]]
    exact q
theorem sc_given_of : FnScope ["word"] ["word"] (defScope s_given_of) := ⟨rfl, rfl, rfl, by decide +kernel, rfl, by decide +kernel, by decide +kernel⟩
-- 0 word
theorem ok_given_of (T : Txt w K mg) : FnOk P w K mg base CX0 1 (He.ga K "given_of") (fdOf K d_given_of) ["word"] spGivenOf := by
  refine T.F_given_of.ok sc_given_of (fun vs H Q E h => ?_) (fun cdv A outer s H vs Q E hr h => ?_)
  · obtain ⟨a, o, g, us, rfl, _⟩ := h
    rfl
  obtain ⟨a, o, g, us, rfl, ⟨ha, hl⟩, q⟩ := h
  obtain ⟨es, n, D_GIVEN⟩ := T.kd_GIVEN
  obtain ⟨r, hr1, hr2⟩ := given_in T o
  refine ⟨_, PSs.nox (pss_one (ps_ret (pe_ifExp (pt_cmpR (r := Ov.rInKd K (He.ga K "GIVEN") false) (op_in_kd D_GIVEN) (pe_ix (r := rIxT K) ix_tup (pv 0) pe_int (fun _ _ => rfl)) (pe_glob (v := .ref (He.ga K "GIVEN")) (by rfl) T.g_GIVEN rfl) (by first | rfl | exact nomark _)) (pe_ix (r := rIxT K) ix_tup (pv 0) pe_int (fun _ _ => rfl)) pe_non))), ?_⟩
  refine ⟨_, rfl, a, _, 0, .str o.name, rfl, rfl, SqT.of ha, atI_nat (j := 0) rfl, o.name, r, rfl, rfl, hr1, _, rfl, ?_⟩
  unfold Op.gV at q
  rw [← hr2] at q
  refine ite2 (fun z => ?_) (fun z => ?_)
  · have z1 : r.isSome = true := z
    rw [z1] at q hr2
    have eg : o.pre g = [.int g] := by unfold Op.pre; rw [← hr2]; rfl
    refine ⟨_, rfl, a, _, 1, .int g, rfl, rfl, SqT.of ha, atI_nat (j := 1) (by rw [eg]; rfl), q⟩
  · have z1 : r.isSome = false := Bool.eq_false_iff.mpr z
    rw [z1] at q
    exact q
theorem sc_arms_of : FnScope ["word"] ["word"] (defScope s_arms_of) := ⟨rfl, rfl, rfl, by decide +kernel, rfl, by decide +kernel, by decide +kernel⟩
-- 0 word
theorem ok_arms_of (T : Txt w K mg) : FnOk P w K mg base CX0 1 (He.ga K "arms_of") (fdOf K d_arms_of) ["word"] spArmsOf := by
  refine T.F_arms_of.ok sc_arms_of (fun vs H Q E h => ?_) (fun cdv A outer s H vs Q E hr h => ?_)
  · obtain ⟨a, o, g, us, rfl, _⟩ := h
    rfl
  obtain ⟨a, o, g, us, rfl, ⟨ha, hl⟩, q⟩ := h
  refine ⟨_, PSs.nox (pss_one (ps_ret (pe_slice (r := rSlA K) sl_tupA (pv 0) (po_some (pe_op op_sub (pe_callB (r := Evl.rLenS K) call_len_seq (by rfl) T.z_len PySem.boot_len (pa_cons (pv 0) pa_nil)) (pe_ix (r := rIxD K w) ix_kdict (pe_glob (v := .ref (He.ga K "ARMS")) (by rfl) T.g_ARMS rfl) (pe_ix (r := rIxT K) ix_tup (pv 0) pe_int (fun _ _ => rfl)) (fun _ _ => rfl)))) po_none))), ?_⟩
  refine ⟨_, rfl, _, rfl, a, _, rfl, .inr (SqT.of ha), _, rfl, a, _, 0, .str o.name, rfl, rfl, SqT.of ha, atI_nat (j := 0) rfl, _, o.name, _, rfl, rfl, arms_at T o, _, _, rfl, rfl, _, rfl, ?_⟩
  have hn : (.str o.name :: (o.pre g ++ us) : List V).length = 1 + (o.pre g).length + us.length := by rw [List.length_cons, List.length_append]; omega
  have ec : (((.str o.name :: (o.pre g ++ us) : List V).length : Nat) : Int) - (o.arity : Int) = (((1 + (o.pre g).length : Nat)) : Int) := by rw [hn, ← hl]; omega
  have es : HT.sIx (.str o.name :: (o.pre g ++ us) : List V).length 0 (some ((((.str o.name :: (o.pre g ++ us) : List V).length : Nat) : Int) - (o.arity : Int))) = 1 + (o.pre g).length := by
    rw [ec, HT.sIx_nat, hn]
    omega
  refine ⟨a, _, rfl, SqT.of ha, fun z => ?_, fun _ p hp => ?_⟩
  · have z1 := z.1
    rw [es] at z1
    omega
  · have ecut : cutV (.str o.name :: (o.pre g ++ us) : List V) (some ((((.str o.name :: (o.pre g ++ us) : List V).length : Nat) : Int) - (o.arity : Int))) none = us := by
      unfold cutV
      rw [es, HT.sIx_none, hn]
      have e1 : (.str o.name :: (o.pre g ++ us) : List V).drop (1 + (o.pre g).length) = us := by
        rw [Nat.add_comm, List.drop_succ_cons, List.drop_left]
      rw [e1, show 1 + (o.pre g).length + us.length - (1 + (o.pre g).length) = us.length by omega, List.take_length]
    rw [ecut]
    exact q p hp
theorem sc_given_fits : FnScope ["kind", "given", "functions"] ["kind", "given", "functions"] (defScope s_given_fits) := ⟨rfl, rfl, rfl, by decide +kernel, rfl, by decide +kernel, by decide +kernel⟩
-- 0 kind, 1 given, 2 functions
theorem ok_given_fits (T : Txt w K mg) : FnOk P w K mg base CX0 2 (He.ga K "given_fits") (fdOf K d_given_fits) ["kind", "given", "functions"] spGivenFits := by
  have G_between := ok_between (P := P) (base := base) T
  refine T.F_given_fits.ok sc_given_fits (fun vs H Q E h => ?_) (fun cdv A outer s H vs Q E hr h => ?_)
  · obtain ⟨o, g, n, rfl, _⟩ := h
    rfl
  obtain ⟨o, g, n, rfl, hg, hf, q⟩ := h
  refine ⟨_, PSs.nox (pss_cons (ps_if (pt_cmpR op_eq (pv 0) pe_str (nomark _)) (pss_one (ps_ret (pe_call G_between (hr.mono (by omega)) (by rfl) T.g_between T.kp_between T.b_between .nil pass0 (pa_cons (pv 1) (pa_cons pe_int (pa_cons (pe_op op_sub (pv 2) pe_int) pa_nil)))))) pss_nil)
      (pss_one (ps_ret (pe_call G_between (hr.mono (by omega)) (by rfl) T.g_between T.kp_between T.b_between .nil pass0 (pa_cons (pv 1) (pa_cons pe_int (pa_cons (pe_glob (v := .int 99) (by rfl) T.i_GREATEST_WRITTEN.choose_spec ⟨_, rfl⟩) pa_nil))))))), ?_⟩
  refine ⟨_, rfl, rfl, _, rfl, ?_⟩
  have no : decide (V.str "number" = V.str "function") = false := by decide +kernel
  have yes : decide (V.str "function" = V.str "function") = true := decide_eq_true rfl
  cases o with
  | num =>
    rw [if_pos rfl, no]
    refine iteF ?_
    refine ⟨_, rfl, g, 0, 99, rfl, ?_⟩
    rw [decide_eq_true (show (0 : Int) ≤ g ∧ g ≤ 99 from hf)]
    exact q
  | way =>
    rw [if_neg (by decide), yes]
    have hf2 : 0 ≤ g ∧ g < n := hf
    refine ⟨_, rfl, _, rfl, _, 1, rfl, rfl, g, 0, _, rfl, ?_⟩
    rw [decide_eq_true (show (0 : Int) ≤ g ∧ g ≤ (n : Int) - 1 from ⟨hf2.1, by omega⟩)]
    exact q
  | call =>
    rw [if_neg (by decide), yes]
    have hf2 : 0 ≤ g ∧ g < n := hf
    refine ⟨_, rfl, _, rfl, _, 1, rfl, rfl, g, 0, _, rfl, ?_⟩
    rw [decide_eq_true (show (0 : Int) ≤ g ∧ g ≤ (n : Int) - 1 from ⟨hf2.1, by omega⟩)]
    exact q
  | _ => cases hg
end
end K16

namespace K16
open PySem PySem.Spec PyProof.Rows L2 Ov
section
variable {P : Program} {w : World} {K : PySem.W.Frag} {mg : Str → Option Value} {base : Heap}
theorem sc_law_alike : FnScope ["_law_found", "_law_due_here", "_law_k"] ["_law_found", "_law_due_here"] (defScope s_law_alike) := ⟨rfl, rfl, rfl, by decide +kernel, rfl, by decide +kernel, by decide +kernel⟩
-- 0 _law_found, 1 _law_due_here, 2 _law_k
theorem ok_law_alikeS (T : Txt w K mg) {d k : Nat} (G_law_alike : FnOk P w K mg base CX0 k (He.ga K "_law_alike") (fdOf K d_law_alike) ["_law_found", "_law_due_here"] (spAlike d)) :
    FnOk P w K mg base CX0 (k + 1) (He.ga K "_law_alike") (fdOf K d_law_alike) ["_law_found", "_law_due_here"] (spAlike (d + 1)) := by
  refine T.F_law_alike.ok sc_law_alike (fun vs H Q E h => ?_) (fun cdv A outer s H vs Q E hr h => ?_)
  · obtain ⟨x, y, rfl, _⟩ := h
    rfl
  obtain ⟨x, y, rfl, hal, q⟩ := h
  have cls : Paired ClsV [.ty "tuple", .ty "list"] [.type "tuple", .type "list"] := .cons (.ty _) (.cons (.ty _) .nil)
  rcases hal with ⟨rfl, hfl⟩ | ⟨a, b, xs, ys, rfl, rfl, ha, hb, hl, hxy⟩ | ⟨a, b, xs, ys, rfl, rfl, ha, hb, hl, hxy⟩
  · refine ⟨_, PSs.nox (pss_cons (ps_if (pt_val (pe_callB (r := rIsiT K) call_isiT (by rfl) T.z_isinstance (by decide +kernel) (pa_cons (pv 1) (pa_cons (pe_tup (pa_cons (pe_bltn (v := .ty "tuple") (by rfl) T.z_tuple (by decide +kernel) rfl) (pa_cons (pe_bltn (v := .ty "list") (by rfl) T.z_list (by decide +kernel) rfl) pa_nil))) pa_nil)))) (pss_cons (ps_if (PW.pt (pw_or (pt_not (pt_val (pe_callB (r := rIsiT K) call_isiT (by rfl) T.z_isinstance (by decide +kernel) (pa_cons (pv 0) (pa_cons (pe_tup (pa_cons (pe_bltn (v := .ty "tuple") (by rfl) T.z_tuple (by decide +kernel) rfl) (pa_cons (pe_bltn (v := .ty "list") (by rfl) T.z_list (by decide +kernel) rfl) pa_nil))) pa_nil))))) (pw_or1 (pt_cmpR op_ne (pe_callB (r := rIsi K) call_isi (by rfl) T.z_isinstance (by decide +kernel) (pa_cons (pv 0) (pa_cons (pe_bltn (v := .ty "list") (by rfl) T.z_list (by decide +kernel) rfl) pa_nil))) (pe_callB (r := rIsi K) call_isi (by rfl) T.z_isinstance (by decide +kernel) (pa_cons (pv 1) (pa_cons (pe_bltn (v := .ty "list") (by rfl) T.z_list (by decide +kernel) rfl) pa_nil))) (nomark _))))) (pss_one (ps_ret pe_bl)) pss_nil)
      (pss_cons (ps_if (pt_cmpR op_ne (pe_callB (r := Evl.rLenS K) call_len_seq (by rfl) T.z_len PySem.boot_len (pa_cons (pv 0) pa_nil)) (pe_callB (r := Evl.rLenS K) call_len_seq (by rfl) T.z_len PySem.boot_len (pa_cons (pv 1) pa_nil)) (nomark _)) (pss_one (ps_ret pe_bl)) pss_nil)
      (pss_one (ps_ret (pe_cmpR (r := rEqD K) (op_eqD hr.units) (pe_lc (own := [("_law_k", 2)]) rfl sc_law_alike.nd (pi_range1 (by rfl) T.z_range (pa_cons (pe_callB (r := Evl.rLenS K) call_len_seq (by rfl) T.z_len PySem.boot_len (pa_cons (pv 1) pa_nil)) pa_nil)) (blkOk_by (own := [("_law_k", 2)]) (N := ["_law_found", "_law_due_here", "_law_k"]) (sc := defScope s_law_alike) (by decide +kernel)) (fun _ _ _ _ _ => (pg_name (i := 2) sc_law_alike.nd rfl (by first | exact Or.inl rfl | exact Or.inr rfl))) (fun _ _ _ _ _ => pts_one (pt_not (pt_val (pe_call G_law_alike (hr.mono (by omega)) (by rfl) T.g_law_alike T.kp_law_alike T.b_law_alike .nil pass0 (pa_cons (pe_ix (r := rIxL K) ix_list (pv 0) (pv 2) (fun _ _ => rfl)) (pa_cons (pe_ix (r := rIxL K) ix_list (pv 1) (pv 2) (fun _ _ => rfl)) pa_nil)))))) (fun _ _ _ _ _ => (pv 2))) (pe_lst pa_nil) (nomark _)))))) pss_nil)
      (pss_cons (ps_if (pt_cmpR op_isN (pv 1) pe_non (nomark _)) (pss_one (ps_ret (pe_cmpR op_isN (pv 0) pe_non (nomark _)))) pss_nil)
      (pss_cons (ps_if (pt_val (pe_callB (r := rIsi K) call_isi (by rfl) T.z_isinstance (by decide +kernel) (pa_cons (pv 1) (pa_cons (pe_bltn (v := .ty "str") (by rfl) T.z_str (by decide +kernel) rfl) pa_nil)))) (pss_one (ps_ret (pe_and (pe_callB (r := rIsi K) call_isi (by rfl) T.z_isinstance (by decide +kernel) (pa_cons (pv 0) (pa_cons (pe_bltn (v := .ty "str") (by rfl) T.z_str (by decide +kernel) rfl) pa_nil))) (pe_one (pe_cmpR op_eq (pv 0) (pv 1) (nomark _)))))) pss_nil)
      (pss_cons (ps_if (PW.pt (pw_or (pt_val (pe_callB (r := rIsi K) call_isi (by rfl) T.z_isinstance (by decide +kernel) (pa_cons (pv 1) (pa_cons (pe_bltn (v := .ty "bool") (by rfl) T.z_bool (by decide +kernel) rfl) pa_nil)))) (pw_or1 (pt_val (pe_callB (r := rIsi K) call_isi (by rfl) T.z_isinstance (by decide +kernel) (pa_cons (pv 0) (pa_cons (pe_bltn (v := .ty "bool") (by rfl) T.z_bool (by decide +kernel) rfl) pa_nil))))))) (pss_one (ps_ret (pe_and (pe_callB (r := rIsi K) call_isi (by rfl) T.z_isinstance (by decide +kernel) (pa_cons (pv 1) (pa_cons (pe_bltn (v := .ty "bool") (by rfl) T.z_bool (by decide +kernel) rfl) pa_nil))) (pe_and (pe_callB (r := rIsi K) call_isi (by rfl) T.z_isinstance (by decide +kernel) (pa_cons (pv 0) (pa_cons (pe_bltn (v := .ty "bool") (by rfl) T.z_bool (by decide +kernel) rfl) pa_nil))) (pe_one (pe_cmpR op_eq (pv 0) (pv 1) (nomark _))))))) pss_nil)
      (pss_one (ps_ret (pe_and (pe_callB (r := rIsi K) call_isi (by rfl) T.z_isinstance (by decide +kernel) (pa_cons (pv 0) (pa_cons (pe_bltn (v := .ty "int") (by rfl) T.z_int (by decide +kernel) rfl) pa_nil))) (pe_one (pe_cmpR op_eq (pv 0) (pv 1) (nomark _)))))))))), ?_⟩
    refine ⟨_, rfl, sml 2, fun tp htp => ?_⟩
    have s1 := Same.new (o := .tup [.ty "tuple", .ty "list"]) htp
    cases x with
    | non =>
      have ka : PySem.W.kitAny K (.type "NoneType") [.type "tuple", .type "list"] = some false := kitAny_cons k_NoneType_tuple (fun _ => kitAny_cons k_NoneType_list (fun _ => kitAny_nil) (fun h => nomatch h)) (fun h => nomatch h)
      refine ⟨.non, tp, _, .type "NoneType", _, false, rfl, upd_same, cls, .base .non, ka, false, rfl, iteF ?_⟩
      exact ⟨_, rfl, rfl, _, rfl, iteT ⟨_, rfl, rfl, q _ s1⟩⟩
    | str z =>
      have ka : PySem.W.kitAny K (.type "str") [.type "tuple", .type "list"] = some false := kitAny_cons k_str_tuple (fun _ => kitAny_cons k_str_list (fun _ => kitAny_nil) (fun h => nomatch h)) (fun h => nomatch h)
      refine ⟨.str z, tp, _, .type "str", _, false, rfl, upd_same, cls, .base (.str z), ka, false, rfl, iteF ?_⟩
      refine ⟨_, rfl, rfl, _, rfl, iteF ?_⟩
      refine ⟨_, rfl, _, .ty "str", .type "str", .type "str", true, rfl, .ty _, .base (.str z), k_str_str, true, rfl, iteT ?_⟩
      refine ⟨_, rfl, _, .ty "str", .type "str", .type "str", true, rfl, .ty _, .base (.str z), k_str_str, true, rfl, iteT ⟨_, rfl, _, rfl, rfl, ?_⟩⟩
      show Q (.bl (decide (V.str z = V.str z))) _
      rw [decide_eq_true rfl]
      exact q _ s1
    | bl z =>
      have ka : PySem.W.kitAny K (.type "bool") [.type "tuple", .type "list"] = some false := kitAny_cons k_bool_tuple (fun _ => kitAny_cons k_bool_list (fun _ => kitAny_nil) (fun h => nomatch h)) (fun h => nomatch h)
      refine ⟨.bl z, tp, _, .type "bool", _, false, rfl, upd_same, cls, .base (.bl z), ka, false, rfl, iteF ?_⟩
      refine ⟨_, rfl, rfl, _, rfl, iteF ?_⟩
      refine ⟨_, rfl, _, .ty "str", .type "bool", .type "str", false, rfl, .ty _, .base (.bl z), k_bool_str, false, rfl, iteF ?_⟩
      refine ⟨_, rfl, _, .ty "bool", .type "bool", .type "bool", true, rfl, .ty _, .base (.bl z), k_bool_bool, true, rfl, iteT (iteT ?_)⟩
      refine ⟨_, rfl, _, .ty "bool", .type "bool", .type "bool", true, rfl, .ty _, .base (.bl z), k_bool_bool, true, rfl, iteT ?_⟩
      refine ⟨_, rfl, _, .ty "bool", .type "bool", .type "bool", true, rfl, .ty _, .base (.bl z), k_bool_bool, true, rfl, iteT ⟨_, rfl, _, rfl, rfl, ?_⟩⟩
      show Q (.bl (decide (V.bl z = V.bl z))) _
      rw [decide_eq_true rfl]
      exact q _ s1
    | int z =>
      have ka : PySem.W.kitAny K (.type "int") [.type "tuple", .type "list"] = some false := kitAny_cons k_int_tuple (fun _ => kitAny_cons k_int_list (fun _ => kitAny_nil) (fun h => nomatch h)) (fun h => nomatch h)
      refine ⟨.int z, tp, _, .type "int", _, false, rfl, upd_same, cls, .base (.int z), ka, false, rfl, iteF ?_⟩
      refine ⟨_, rfl, rfl, _, rfl, iteF ?_⟩
      refine ⟨_, rfl, _, .ty "str", .type "int", .type "str", false, rfl, .ty _, .base (.int z), k_int_str, false, rfl, iteF ?_⟩
      refine ⟨_, rfl, _, .ty "bool", .type "int", .type "bool", false, rfl, .ty _, .base (.int z), k_int_bool, false, rfl, iteF ?_⟩
      refine ⟨_, rfl, _, .ty "bool", .type "int", .type "bool", false, rfl, .ty _, .base (.int z), k_int_bool, false, rfl, iteF ?_⟩
      refine ⟨_, rfl, _, .ty "int", .type "int", .type "int", true, rfl, .ty _, .base (.int z), k_int_int, true, rfl, iteT ⟨_, rfl, _, rfl, rfl, ?_⟩⟩
      show Q (.bl (decide (V.int z = V.int z))) _
      rw [decide_eq_true rfl]
      exact q _ s1
    | _ => cases hfl
  · refine ⟨_, PSs.nox (pss_cons (ps_if (pt_val (pe_callB (r := rIsiT K) call_isiT (by rfl) T.z_isinstance (by decide +kernel) (pa_cons (pv 1) (pa_cons (pe_tup (pa_cons (pe_bltn (v := .ty "tuple") (by rfl) T.z_tuple (by decide +kernel) rfl) (pa_cons (pe_bltn (v := .ty "list") (by rfl) T.z_list (by decide +kernel) rfl) pa_nil))) pa_nil)))) (pss_cons (ps_if (PW.pt (pw_or (pt_not (pt_val (pe_callB (r := rIsiT K) call_isiT (by rfl) T.z_isinstance (by decide +kernel) (pa_cons (pv 0) (pa_cons (pe_tup (pa_cons (pe_bltn (v := .ty "tuple") (by rfl) T.z_tuple (by decide +kernel) rfl) (pa_cons (pe_bltn (v := .ty "list") (by rfl) T.z_list (by decide +kernel) rfl) pa_nil))) pa_nil))))) (pw_or1 (pt_cmpR op_ne (pe_callB (r := rIsi K) call_isi (by rfl) T.z_isinstance (by decide +kernel) (pa_cons (pv 0) (pa_cons (pe_bltn (v := .ty "list") (by rfl) T.z_list (by decide +kernel) rfl) pa_nil))) (pe_callB (r := rIsi K) call_isi (by rfl) T.z_isinstance (by decide +kernel) (pa_cons (pv 1) (pa_cons (pe_bltn (v := .ty "list") (by rfl) T.z_list (by decide +kernel) rfl) pa_nil))) (nomark _))))) (pss_one (ps_ret pe_bl)) pss_nil)
      (pss_cons (ps_if (pt_cmpR op_ne (pe_callB (r := Evl.rLenS K) call_len_seq (by rfl) T.z_len PySem.boot_len (pa_cons (pv 0) pa_nil)) (pe_callB (r := Evl.rLenS K) call_len_seq (by rfl) T.z_len PySem.boot_len (pa_cons (pv 1) pa_nil)) (nomark _)) (pss_one (ps_ret pe_bl)) pss_nil)
      (pss_one (ps_ret (pe_cmpR (r := rEqD K) (op_eqD hr.units) (pe_lc (own := [("_law_k", 2)]) rfl sc_law_alike.nd (pi_range1 (by rfl) T.z_range (pa_cons (pe_callB (r := Evl.rLenS K) call_len_seq (by rfl) T.z_len PySem.boot_len (pa_cons (pv 1) pa_nil)) pa_nil)) (blkOk_by (own := [("_law_k", 2)]) (N := ["_law_found", "_law_due_here", "_law_k"]) (sc := defScope s_law_alike) (by decide +kernel)) (fun _ _ _ _ _ => (pg_name (i := 2) sc_law_alike.nd rfl (by first | exact Or.inl rfl | exact Or.inr rfl))) (fun _ _ _ _ _ => pts_one (pt_not (pt_val (pe_call G_law_alike (hr.mono (by omega)) (by rfl) T.g_law_alike T.kp_law_alike T.b_law_alike .nil pass0 (pa_cons (pe_ix (r := rIxL K) ix_list (pv 0) (pv 2) (fun _ _ => rfl)) (pa_cons (pe_ix (r := rIxL K) ix_list (pv 1) (pv 2) (fun _ _ => rfl)) pa_nil)))))) (fun _ _ _ _ _ => (pv 2))) (pe_lst pa_nil) (nomark _)))))) pss_nil)
      (pss_cons (ps_if (pt_cmpR op_isN (pv 1) pe_non (nomark _)) (pss_one (ps_ret (pe_cmpR op_isN (pv 0) pe_non (nomark _)))) pss_nil)
      (pss_cons (ps_if (pt_val (pe_callB (r := rIsi K) call_isi (by rfl) T.z_isinstance (by decide +kernel) (pa_cons (pv 1) (pa_cons (pe_bltn (v := .ty "str") (by rfl) T.z_str (by decide +kernel) rfl) pa_nil)))) (pss_one (ps_ret (pe_and (pe_callB (r := rIsi K) call_isi (by rfl) T.z_isinstance (by decide +kernel) (pa_cons (pv 0) (pa_cons (pe_bltn (v := .ty "str") (by rfl) T.z_str (by decide +kernel) rfl) pa_nil))) (pe_one (pe_cmpR op_eq (pv 0) (pv 1) (nomark _)))))) pss_nil)
      (pss_cons (ps_if (PW.pt (pw_or (pt_val (pe_callB (r := rIsi K) call_isi (by rfl) T.z_isinstance (by decide +kernel) (pa_cons (pv 1) (pa_cons (pe_bltn (v := .ty "bool") (by rfl) T.z_bool (by decide +kernel) rfl) pa_nil)))) (pw_or1 (pt_val (pe_callB (r := rIsi K) call_isi (by rfl) T.z_isinstance (by decide +kernel) (pa_cons (pv 0) (pa_cons (pe_bltn (v := .ty "bool") (by rfl) T.z_bool (by decide +kernel) rfl) pa_nil))))))) (pss_one (ps_ret (pe_and (pe_callB (r := rIsi K) call_isi (by rfl) T.z_isinstance (by decide +kernel) (pa_cons (pv 1) (pa_cons (pe_bltn (v := .ty "bool") (by rfl) T.z_bool (by decide +kernel) rfl) pa_nil))) (pe_and (pe_callB (r := rIsi K) call_isi (by rfl) T.z_isinstance (by decide +kernel) (pa_cons (pv 0) (pa_cons (pe_bltn (v := .ty "bool") (by rfl) T.z_bool (by decide +kernel) rfl) pa_nil))) (pe_one (pe_cmpR op_eq (pv 0) (pv 1) (nomark _))))))) pss_nil)
      (pss_one (ps_ret (pe_and (pe_callB (r := rIsi K) call_isi (by rfl) T.z_isinstance (by decide +kernel) (pa_cons (pv 0) (pa_cons (pe_bltn (v := .ty "int") (by rfl) T.z_int (by decide +kernel) rfl) pa_nil))) (pe_one (pe_cmpR op_eq (pv 0) (pv 1) (nomark _)))))))))), ?_⟩
    have ka : PySem.W.kitAny K (.type "list") [.type "tuple", .type "list"] = some true := kitAny_cons k_list_tuple (fun _ => kitAny_cons k_list_list (fun h => nomatch h) (fun _ => rfl)) (fun h => nomatch h)
    have hlxy := Paired.length hxy
    refine ⟨_, rfl, sml 2, fun tp htp => ?_⟩
    have s1 := Same.new (o := .tup [.ty "tuple", .ty "list"]) htp
    refine ⟨.ref b, tp, _, .type "list", _, true, rfl, upd_same, cls, .base (.lst (s1 _ _ hb)), ka, true, rfl, iteT ?_⟩
    refine ⟨_, rfl, sml 2, fun tp2 htp2 => ?_⟩
    have s2 := s1.trans (Same.new (o := .tup [.ty "tuple", .ty "list"]) htp2)
    refine ⟨.ref a, tp2, _, .type "list", _, true, rfl, upd_same, cls, .base (.lst (s2 _ _ ha)), ka, true, rfl, iteF ?_⟩
    refine ⟨_, rfl, _, .ty "list", .type "list", .type "list", true, rfl, .ty _, .base (.lst (s2 _ _ ha)), k_list_list, _, rfl, _, .ty "list", .type "list", .type "list", true, rfl, .ty _, .base (.lst (s2 _ _ hb)), k_list_list, rfl, _, rfl, iteF ?_⟩
    refine ⟨_, rfl, a, _, rfl, .inl (SqL.of (s2 _ _ ha)), _, rfl, b, _, rfl, .inl (SqL.of (s2 _ _ hb)), rfl, _, rfl, ?_⟩
    have enm : (!decide (V.int ((xs.length : Nat) : Int) = V.int ((ys.length : Nat) : Int))) = false := by rw [hlxy, decide_eq_true rfl]; rfl
    rw [enm]
    refine iteF ?_
    refine ⟨_, rfl, b, _, rfl, .inl (SqL.of (s2 _ _ hb)), _, rfl, by omega, by omega, fun D hD => ?_⟩
    generalize hH2 : upd (upd H tp (.tup [.ty "tuple", .ty "list"])) tp2 (.tup [.ty "tuple", .ty "list"]) = H2 at s2 hD ⊢
    refine lc_range (lo := 0) (n := ((ys.length : Nat) : Int).toNat) (fun i H' => Same H2 H' ∧ H' D = some (.lst [])) ⟨Same.new hD, upd_same⟩ ?_ ?_
    · rintro i H3 hi ⟨s3, e3⟩
      rw [Int.toNat_natCast] at hi
      obtain ⟨x, hx⟩ : ∃ x, xs[i]? = some x := ⟨_, List.getElem?_eq_getElem (by omega)⟩
      obtain ⟨y, hy, hxy1⟩ := Paired.get2 hxy hx
      have s23 := s2.trans s3
      refine ⟨rfl, _, rfl, _, rfl, a, _, (i : Int), _, rfl, congrArg V.int (Int.zero_add _), SqL.of (s23 _ _ ha), atI_nat hx, _, rfl, _, rfl, b, _, (i : Int), _, rfl, congrArg V.int (Int.zero_add _), SqL.of (s23 _ _ hb), atI_nat hy, x, y, rfl, hxy1.keep s23, fun H4 s4 => ⟨true, rfl, iteF ⟨s3.trans s4, s4 _ _ e3⟩⟩⟩
    · rintro H3 ⟨s3, e3⟩
      refine ⟨sml 0, fun l hl => ?_⟩
      have nDl : D ≠ l := ne_of_none e3 hl
      refine ⟨.list (([] : List Int).map PyData.int), .list [], .lst (SqL.of (by rw [upd_ne nDl]; exact e3)) (dpInts []), .lst (xs := []) (SqL.of upd_same) (dpInts []), intsShaped [], intsShaped [], ?_⟩
      rw [eqvNil]
      exact q _ (s2.trans (s3.trans (Same.new hl)))
  · 
    refine ⟨_, PSs.nox (pss_cons (ps_if (pt_val (pe_callB (r := rIsiT K) call_isiT (by rfl) T.z_isinstance (by decide +kernel) (pa_cons (pv 1) (pa_cons (pe_tup (pa_cons (pe_bltn (v := .ty "tuple") (by rfl) T.z_tuple (by decide +kernel) rfl) (pa_cons (pe_bltn (v := .ty "list") (by rfl) T.z_list (by decide +kernel) rfl) pa_nil))) pa_nil)))) (pss_cons (ps_if (PW.pt (pw_or (pt_not (pt_val (pe_callB (r := rIsiT K) call_isiT (by rfl) T.z_isinstance (by decide +kernel) (pa_cons (pv 0) (pa_cons (pe_tup (pa_cons (pe_bltn (v := .ty "tuple") (by rfl) T.z_tuple (by decide +kernel) rfl) (pa_cons (pe_bltn (v := .ty "list") (by rfl) T.z_list (by decide +kernel) rfl) pa_nil))) pa_nil))))) (pw_or1 (pt_cmpR op_ne (pe_callB (r := rIsi K) call_isi (by rfl) T.z_isinstance (by decide +kernel) (pa_cons (pv 0) (pa_cons (pe_bltn (v := .ty "list") (by rfl) T.z_list (by decide +kernel) rfl) pa_nil))) (pe_callB (r := rIsi K) call_isi (by rfl) T.z_isinstance (by decide +kernel) (pa_cons (pv 1) (pa_cons (pe_bltn (v := .ty "list") (by rfl) T.z_list (by decide +kernel) rfl) pa_nil))) (nomark _))))) (pss_one (ps_ret pe_bl)) pss_nil)
      (pss_cons (ps_if (pt_cmpR op_ne (pe_callB (r := Evl.rLenS K) call_len_seq (by rfl) T.z_len PySem.boot_len (pa_cons (pv 0) pa_nil)) (pe_callB (r := Evl.rLenS K) call_len_seq (by rfl) T.z_len PySem.boot_len (pa_cons (pv 1) pa_nil)) (nomark _)) (pss_one (ps_ret pe_bl)) pss_nil)
      (pss_one (ps_ret (pe_cmpR (r := rEqD K) (op_eqD hr.units) (pe_lc (own := [("_law_k", 2)]) rfl sc_law_alike.nd (pi_range1 (by rfl) T.z_range (pa_cons (pe_callB (r := Evl.rLenS K) call_len_seq (by rfl) T.z_len PySem.boot_len (pa_cons (pv 1) pa_nil)) pa_nil)) (blkOk_by (own := [("_law_k", 2)]) (N := ["_law_found", "_law_due_here", "_law_k"]) (sc := defScope s_law_alike) (by decide +kernel)) (fun _ _ _ _ _ => (pg_name (i := 2) sc_law_alike.nd rfl (by first | exact Or.inl rfl | exact Or.inr rfl))) (fun _ _ _ _ _ => pts_one (pt_not (pt_val (pe_call G_law_alike (hr.mono (by omega)) (by rfl) T.g_law_alike T.kp_law_alike T.b_law_alike .nil pass0 (pa_cons (pe_ix (r := rIxT K) ix_tup (pv 0) (pv 2) (fun _ _ => rfl)) (pa_cons (pe_ix (r := rIxT K) ix_tup (pv 1) (pv 2) (fun _ _ => rfl)) pa_nil)))))) (fun _ _ _ _ _ => (pv 2))) (pe_lst pa_nil) (nomark _)))))) pss_nil)
      (pss_cons (ps_if (pt_cmpR op_isN (pv 1) pe_non (nomark _)) (pss_one (ps_ret (pe_cmpR op_isN (pv 0) pe_non (nomark _)))) pss_nil)
      (pss_cons (ps_if (pt_val (pe_callB (r := rIsi K) call_isi (by rfl) T.z_isinstance (by decide +kernel) (pa_cons (pv 1) (pa_cons (pe_bltn (v := .ty "str") (by rfl) T.z_str (by decide +kernel) rfl) pa_nil)))) (pss_one (ps_ret (pe_and (pe_callB (r := rIsi K) call_isi (by rfl) T.z_isinstance (by decide +kernel) (pa_cons (pv 0) (pa_cons (pe_bltn (v := .ty "str") (by rfl) T.z_str (by decide +kernel) rfl) pa_nil))) (pe_one (pe_cmpR op_eq (pv 0) (pv 1) (nomark _)))))) pss_nil)
      (pss_cons (ps_if (PW.pt (pw_or (pt_val (pe_callB (r := rIsi K) call_isi (by rfl) T.z_isinstance (by decide +kernel) (pa_cons (pv 1) (pa_cons (pe_bltn (v := .ty "bool") (by rfl) T.z_bool (by decide +kernel) rfl) pa_nil)))) (pw_or1 (pt_val (pe_callB (r := rIsi K) call_isi (by rfl) T.z_isinstance (by decide +kernel) (pa_cons (pv 0) (pa_cons (pe_bltn (v := .ty "bool") (by rfl) T.z_bool (by decide +kernel) rfl) pa_nil))))))) (pss_one (ps_ret (pe_and (pe_callB (r := rIsi K) call_isi (by rfl) T.z_isinstance (by decide +kernel) (pa_cons (pv 1) (pa_cons (pe_bltn (v := .ty "bool") (by rfl) T.z_bool (by decide +kernel) rfl) pa_nil))) (pe_and (pe_callB (r := rIsi K) call_isi (by rfl) T.z_isinstance (by decide +kernel) (pa_cons (pv 0) (pa_cons (pe_bltn (v := .ty "bool") (by rfl) T.z_bool (by decide +kernel) rfl) pa_nil))) (pe_one (pe_cmpR op_eq (pv 0) (pv 1) (nomark _))))))) pss_nil)
      (pss_one (ps_ret (pe_and (pe_callB (r := rIsi K) call_isi (by rfl) T.z_isinstance (by decide +kernel) (pa_cons (pv 0) (pa_cons (pe_bltn (v := .ty "int") (by rfl) T.z_int (by decide +kernel) rfl) pa_nil))) (pe_one (pe_cmpR op_eq (pv 0) (pv 1) (nomark _)))))))))), ?_⟩
    have ka : PySem.W.kitAny K (.type "tuple") [.type "tuple", .type "list"] = some true := kitAny_cons k_tuple_tuple (fun h => nomatch h) (fun _ => rfl)
    have hlxy := Paired.length hxy
    refine ⟨_, rfl, sml 2, fun tp htp => ?_⟩
    have s1 := Same.new (o := .tup [.ty "tuple", .ty "list"]) htp
    refine ⟨.ref b, tp, _, .type "tuple", _, true, rfl, upd_same, cls, .base (.tup (s1 _ _ hb)), ka, true, rfl, iteT ?_⟩
    refine ⟨_, rfl, sml 2, fun tp2 htp2 => ?_⟩
    have s2 := s1.trans (Same.new (o := .tup [.ty "tuple", .ty "list"]) htp2)
    refine ⟨.ref a, tp2, _, .type "tuple", _, true, rfl, upd_same, cls, .base (.tup (s2 _ _ ha)), ka, true, rfl, iteF ?_⟩
    refine ⟨_, rfl, _, .ty "list", .type "tuple", .type "list", false, rfl, .ty _, .base (.tup (s2 _ _ ha)), k_tuple_list, _, rfl, _, .ty "list", .type "tuple", .type "list", false, rfl, .ty _, .base (.tup (s2 _ _ hb)), k_tuple_list, rfl, _, rfl, iteF ?_⟩
    refine ⟨_, rfl, a, _, rfl, .inr (SqT.of (s2 _ _ ha)), _, rfl, b, _, rfl, .inr (SqT.of (s2 _ _ hb)), rfl, _, rfl, ?_⟩
    have enm : (!decide (V.int ((xs.length : Nat) : Int) = V.int ((ys.length : Nat) : Int))) = false := by rw [hlxy, decide_eq_true rfl]; rfl
    rw [enm]
    refine iteF ?_
    refine ⟨_, rfl, b, _, rfl, .inr (SqT.of (s2 _ _ hb)), _, rfl, by omega, by omega, fun D hD => ?_⟩
    generalize hH2 : upd (upd H tp (.tup [.ty "tuple", .ty "list"])) tp2 (.tup [.ty "tuple", .ty "list"]) = H2 at s2 hD ⊢
    refine lc_range (lo := 0) (n := ((ys.length : Nat) : Int).toNat) (fun i H' => Same H2 H' ∧ H' D = some (.lst [])) ⟨Same.new hD, upd_same⟩ ?_ ?_
    · rintro i H3 hi ⟨s3, e3⟩
      rw [Int.toNat_natCast] at hi
      obtain ⟨x, hx⟩ : ∃ x, xs[i]? = some x := ⟨_, List.getElem?_eq_getElem (by omega)⟩
      obtain ⟨y, hy, hxy1⟩ := Paired.get2 hxy hx
      have s23 := s2.trans s3
      refine ⟨rfl, _, rfl, _, rfl, a, _, (i : Int), _, rfl, congrArg V.int (Int.zero_add _), SqT.of (s23 _ _ ha), atI_nat hx, _, rfl, _, rfl, b, _, (i : Int), _, rfl, congrArg V.int (Int.zero_add _), SqT.of (s23 _ _ hb), atI_nat hy, x, y, rfl, hxy1.keep s23, fun H4 s4 => ⟨true, rfl, iteF ⟨s3.trans s4, s4 _ _ e3⟩⟩⟩
    · rintro H3 ⟨s3, e3⟩
      refine ⟨sml 0, fun l hl => ?_⟩
      have nDl : D ≠ l := ne_of_none e3 hl
      refine ⟨.list (([] : List Int).map PyData.int), .list [], .lst (SqL.of (by rw [upd_ne nDl]; exact e3)) (dpInts []), .lst (xs := []) (SqL.of upd_same) (dpInts []), intsShaped [], intsShaped [], ?_⟩
      rw [eqvNil]
      exact q _ (s2.trans (s3.trans (Same.new hl)))
theorem ok_law_alike (T : Txt w K mg) : ∀ d : Nat, FnOk P w K mg base CX0 d (He.ga K "_law_alike") (fdOf K d_law_alike) ["_law_found", "_law_due_here"] (spAlike d)
  | 0 => fn0 fun vs H Q E ⟨_, _, _, h, _⟩ => h.elim
  | d + 1 => ok_law_alikeS T (ok_law_alike T d)
end
end K16

namespace K16
open PySem PySem.Spec PyProof.Rows L2 Ov
section
variable {P : Program} {w : World} {K : PySem.W.Frag} {mg : Str → Option Value} {base : Heap}
theorem sc_law_tree : FnScope ["_law_h", "_law_program_here", "_law_parts_here", "_law_function", "_law_k", "_law_left", "_law_order", "_law_stands", "_law_part"] ["_law_h", "_law_program_here"] (defScope s_law_tree) := ⟨rfl, rfl, rfl, by decide +kernel, rfl, by decide +kernel, by decide +kernel⟩
-- 0 _law_h, 1 _law_program_here, 2 _law_parts_here, 3 _law_function, 4 _law_k, 5 _law_left, 6 _law_order, 7 _law_stands, 8 _law_part
theorem ok_law_tree (T : Txt w K mg) : FnOk P w K mg base CX0 2 (He.ga K "_law_tree") (fdOf K d_law_tree) ["_law_h", "_law_program_here"] spTree := by
  have G_law_next := ok_law_next (P := P) (base := base) T
  refine T.F_law_tree.ok sc_law_tree (fun vs H Q E h => ?_) (fun cdv A outer s H vs Q E hr h => ?_)
  · obtain ⟨h, c, a, n, vp, rfl, _⟩ := h
    rfl
  obtain ⟨h, c, a, n, vp, rfl, dr, hp, hvp, n1, n8, q⟩ := h
  refine ⟨_, PSs.nox (pss_cons (ps_set (i := 2) sc_law_tree.nd rfl (by first | exact Or.inl rfl | exact Or.inr rfl) (pe_lst pa_nil))
      (Evl.pss_cut (ps_for PassesOwn.never rfl (pi_range1 (by rfl) T.z_range (pa_cons (pe_callB (r := Evl.rLenS K) call_len_seq (by rfl) T.z_len PySem.boot_len (pa_cons (pv 1) pa_nil)) pa_nil)) (pg_name (i := 3) sc_law_tree.nd rfl (by first | exact Or.inl rfl | exact Or.inr rfl)) (pss_cons (ps_set (i := 4) sc_law_tree.nd rfl (by first | exact Or.inl rfl | exact Or.inr rfl) (pe_call G_law_next (hr.mono (by omega)) (by rfl) T.g_law_next T.kp_law_next T.b_law_next .nil pass0 (pa_cons (pv 0) (pa_cons (pe_op op_add (pe_op op_add (pe_callB (r := Evl.rLenS K) call_len_seq (by rfl) T.z_len PySem.boot_len (pa_cons (pv 2) pa_nil)) pe_int) (pe_call G_law_next (hr.mono (by omega)) (by rfl) T.g_law_next T.kp_law_next T.b_law_next .nil pass0 (pa_cons (pv 0) (pa_cons pe_int pa_nil)))) pa_nil))))
      (Evl.pss_cut (ps_if (pt_cmpR op_ge (pv 4) (pe_callB (r := Evl.rLenS K) call_len_seq (by rfl) T.z_len PySem.boot_len (pa_cons (pv 2) pa_nil)) (nomark _)) (pss_cons (ps_expr (Ov.pe_bmK (K := K) rfl PySem.F.plainAttrs_list PySem.F.slot_list_append PySem.F.type_list_append mt_append (pv 2) (pa_cons (pe_lst pa_nil) pa_nil)))
      (pss_one (ps_set (i := 4) sc_law_tree.nd rfl (by first | exact Or.inl rfl | exact Or.inr rfl) (pe_op op_sub (pe_callB (r := Evl.rLenS K) call_len_seq (by rfl) T.z_len PySem.boot_len (pa_cons (pv 2) pa_nil)) pe_int)))) pss_nil)
      (pss_one (ps_expr (Ov.pe_bmK (K := K) rfl PySem.F.plainAttrs_list PySem.F.slot_list_append PySem.F.type_list_append mt_append (pe_ix (r := rIxL K) ix_list (pv 2) (pv 4) (fun _ _ => rfl)) (pa_cons (pv 3) pa_nil)))))))
      (pss_cons (ps_set (i := 5) sc_law_tree.nd rfl (by first | exact Or.inl rfl | exact Or.inr rfl) (pe_listRg rfl (by rfl) T.z_list (prg_1 (by rfl) T.z_range (pe_callB (r := Evl.rLenS K) call_len_seq (by rfl) T.z_len PySem.boot_len (pa_cons (pv 2) pa_nil)))))
      (pss_cons (ps_setLc (i := 6) (own := [("_law_k", 4)]) rfl sc_law_tree.nd rfl rfl (sw_true rfl rfl rfl (by decide +kernel)) (pi_range1 (by rfl) T.z_range (pa_cons (pe_callB (r := Evl.rLenS K) call_len_seq (by rfl) T.z_len PySem.boot_len (pa_cons (pv 2) pa_nil)) pa_nil)) (blkOk_by (own := [("_law_k", 4)]) (N := ["_law_h", "_law_program_here", "_law_parts_here", "_law_function", "_law_k", "_law_left", "_law_order", "_law_stands", "_law_part"]) (sc := defScope s_law_tree) (by decide +kernel)) (fun _ _ _ _ _ => (pg_name (i := 4) sc_law_tree.nd rfl (by first | exact Or.inl rfl | exact Or.inr rfl))) (fun _ _ _ _ _ => pts_nil) (fun _ _ _ _ _ => (Ov.pe_bmK (K := K) rfl PySem.F.plainAttrs_list PySem.F.slot_list_pop PySem.F.type_list_pop mt_popAt (pv 5) (pa_cons (pe_call G_law_next (hr.mono (by omega)) (by rfl) T.g_law_next T.kp_law_next T.b_law_next .nil pass0 (pa_cons (pv 0) (pa_cons (pe_callB (r := Evl.rLenS K) call_len_seq (by rfl) T.z_len PySem.boot_len (pa_cons (pv 5) pa_nil)) pa_nil))) pa_nil))))
      (pss_cons (ps_set (i := 7) sc_law_tree.nd rfl (by first | exact Or.inl rfl | exact Or.inr rfl) (pe_op op_rep (pe_lst (pa_cons (pe_un un_neg pe_int) pa_nil)) (pe_callB (r := Evl.rLenS K) call_len_seq (by rfl) T.z_len PySem.boot_len (pa_cons (pv 2) pa_nil))))
      (Evl.pss_cut (ps_for PassesOwn.never rfl (pi_range2 (by rfl) T.z_range (pa_cons pe_int (pa_cons (pe_callB (r := Evl.rLenS K) call_len_seq (by rfl) T.z_len PySem.boot_len (pa_cons (pv 6) pa_nil)) pa_nil))) (pg_name (i := 4) sc_law_tree.nd rfl (by first | exact Or.inl rfl | exact Or.inr rfl)) (pss_one (ps_asg (pe_ix (r := rIxL K) ix_list (pe_op op_cat (pe_lst (pa_cons (pe_un un_neg pe_int) pa_nil)) (pe_slice (r := rSlL K) sl_list (pv 6) po_none (po_some (pv 4)))) (pe_call G_law_next (hr.mono (by omega)) (by rfl) T.g_law_next T.kp_law_next T.b_law_next .nil pass0 (pa_cons (pv 0) (pa_cons (pe_op op_add (pv 4) pe_int) pa_nil))) (fun _ _ => rfl)) (pg_sub (pv 7) (pe_ix (r := rIxL K) ix_list (pv 6) (pv 4) (fun _ _ => rfl)) set_list))))
      (pss_one (ps_ret (pe_tup (pa_cons (pe_callTy (r := Ov.rTupS K) call_tuple_of (by rfl) T.z_tuple (by decide +kernel) (pa_cons (pe_lc (own := [("_law_part", 8)]) rfl sc_law_tree.nd (Ov.pi_listK (K := K) rfl (pv 2)) (blkOk_by (own := [("_law_part", 8)]) (N := ["_law_h", "_law_program_here", "_law_parts_here", "_law_function", "_law_k", "_law_left", "_law_order", "_law_stands", "_law_part"]) (sc := defScope s_law_tree) (by decide +kernel)) (fun _ _ _ _ _ => (pg_name (i := 8) sc_law_tree.nd rfl (by first | exact Or.inl rfl | exact Or.inr rfl))) (fun _ _ _ _ _ => pts_nil) (fun _ _ _ _ _ => (pe_callTy (r := Ov.rTupS K) call_tuple_of (by rfl) T.z_tuple (by decide +kernel) (pa_cons (pv 8) pa_nil)))) pa_nil)) (pa_cons (pe_callTy (r := Ov.rTupS K) call_tuple_of (by rfl) T.z_tuple (by decide +kernel) (pa_cons (pv 7) pa_nil)) pa_nil))))))))))), ?_⟩
  refine ⟨sml 0, fun pl hpl => ?_⟩
  have npl := Dr.new dr hpl
  -- the parts
  refine ⟨fun σ' H' => ∃ (bs : List Addr) (ps : List (List Nat)) (y3 y4 : Option V), σ' = [some (.ref h), some (.ref a), some (.ref pl), y3, y4, none, none, none, none] ∧ But h c H H' ∧ Dr H' h c ∧ H' pl = some (.lst (bs.map V.ref)) ∧ bs.Nodup ∧ LsAt H' bs ps ∧ PInv n ps ∧ ∀ b ∈ bs, b ≠ h ∧ b ≠ c ∧ b ≠ pl, ?_, ?_⟩
  · refine ⟨_, rfl, a, vp, rfl, .inr (SqT.of (Same.new hpl _ _ hp)), _, rfl, by omega, by omega, for_range (lo := 0) (n := ((vp.length : Nat) : Int).toNat) (fun i σ' H' => ∃ (bs : List Addr) (ps : List (List Nat)) (y3 y4 : Option V), σ' = [some (.ref h), some (.ref a), some (.ref pl), y3, y4, none, none, none, none] ∧ But h c H H' ∧ Dr H' h c ∧ H' pl = some (.lst (bs.map V.ref)) ∧ bs.Nodup ∧ LsAt H' bs ps ∧ PInv i ps ∧ ∀ b ∈ bs, H b = none ∧ b ≠ h ∧ b ≠ c ∧ b ≠ pl)
      ⟨[], [], none, none, rfl, But.new hpl, dr.same (Same.new hpl), upd_same, List.nodup_nil, .nil, ⟨(fun _ h => nomatch h), (fun _ h => nomatch h), List.Pairwise.nil, List.Perm.refl _⟩, (fun _ h => nomatch h)⟩ ?_ ?_⟩
    · rintro i σ H1 hi ⟨bs, ps, y3, y4, rfl, b1, d1, hpl1, nd, ls, pv, hbs⟩
      rw [Int.toNat_natCast, hvp] at hi
      have hcount := pv.count
      have hlen : bs.length = ps.length := Paired.length ls
      have hrl : (bs.map V.ref).length = ps.length := by rw [List.length_map, hlen]
      -- k = next
      refine ⟨_, rfl, _, rfl, pl, _, rfl, .inl (SqL.of hpl1), _, 1, rfl, rfl, ?_⟩
      refine ⟨_, rfl, h, c, 2, rfl, d1, by decide, by decide, fun r1 H2 r10 r11 b2 d2 => ⟨_, r1, rfl, rfl, ?_⟩⟩
      refine ⟨h, c, _, rfl, d2, by rw [hrl]; omega, by rw [hrl]; omega, fun r H3 r0 r1 b3 d3 => ?_⟩
      have b23 := b2.trans b3
      have hpl3 := b23 _ _ npl.1 npl.2 hpl1
      have ls3 : LsAt H3 bs ps := LsAt.keep (fun b hb o ho => b23 b o (hbs b hb).2.1 (hbs b hb).2.2.1 ho) ls
      -- if k >= len(parts)
      refine ⟨fun σ' H' => ∃ (bs : List Addr) (ps : List (List Nat)) (j : Nat) (p : List Nat), σ' = [some (.ref h), some (.ref a), some (.ref pl), some (.int (0 + (i : Int))), some (.int (j : Int)), none, none, none, none] ∧ But h c H H' ∧ Dr H' h c ∧ H' pl = some (.lst (bs.map V.ref)) ∧ bs.Nodup ∧ LsAt H' bs ps ∧ ps[j]? = some p ∧ p.length ≤ i ∧ PInv (i + 1) (ps.set j (p ++ [i])) ∧ ∀ b ∈ bs, H b = none ∧ b ≠ h ∧ b ≠ c ∧ b ≠ pl, ?_, ?_⟩
      · refine ⟨_, rfl, _, rfl, pl, _, rfl, .inl (SqL.of hpl3), r, _, rfl, rfl, _, rfl, ite2 (fun _ => ?_) (fun ck => ?_)⟩
        · refine ⟨_, rfl, .inl ⟨rfl, _, SqL.of hpl3⟩, sml 0, fun b hb => ?_⟩
          have nb := Dr.new d3 hb
          have npb : pl ≠ b := ne_of_none hpl3 hb
          have hpl4 : upd H3 b (.lst []) pl = some (.lst (bs.map V.ref)) := by rw [upd_ne npb]; exact hpl3
          have nbs : ∀ b' ∈ bs, b' ≠ b := fun b' hb' => by
            obtain ⟨q, hq⟩ := ls3.mem b' hb'
            exact ne_of_none hq hb
          have fb : H b = none := by
            cases e : H b with
            | none => rfl
            | some o =>
              have := (b1.trans b23) b o nb.1 nb.2 e
              rw [hb] at this
              cases this
          refine ⟨pl, _, _, rfl, rfl, hpl4, sm _ (by rw [hrl]; omega), ?_⟩
          refine ⟨_, rfl, pl, _, rfl, .inl (SqL.of upd_same), _, 1, rfl, rfl, ?_⟩
          refine ⟨bs ++ [b], ps ++ [[]], ps.length, [], ?_, ?_, ?_, ?_, ?_, ?_, ?_, Nat.zero_le _, ?_, ?_⟩
          · have e : (((bs.map V.ref ++ [V.ref b]).length : Nat) : Int) - 1 = (ps.length : Int) := by
              rw [List.length_append, hrl, List.length_singleton]
              omega
            show [some (V.ref h), some (.ref a), some (.ref pl), some (.int (0 + (i : Int))), some (.int ((((bs.map V.ref ++ [V.ref b]).length : Nat) : Int) - 1)), none, none, none, none] = _
            rw [e]
          · exact (((b1.trans b23).trans (But.new hb))).updn hpl
          · exact (d3.same (Same.new hb)).upd npl.1 npl.2
          · rw [upd_same, List.map_append]; rfl
          · rw [List.nodup_append]
            exact ⟨nd, by simp, fun x hx y hy => by rw [List.mem_singleton.mp hy]; exact nbs x hx⟩
          · refine Paired.snoc (LsAt.keep (fun b' hb' o ho => ?_) ls3) ?_
            · rw [upd_ne (hbs b' hb').2.2.2, upd_ne (nbs b' hb')]
              exact ho
            · rw [upd_ne npb.symm, upd_same]
              rfl
          · rw [List.getElem?_append_right (Nat.le_refl _), Nat.sub_self]
            rfl
          · rw [set_last]
            exact pv.app
          · intro b' hb'
            rcases List.mem_append.mp hb' with z | z
            · exact hbs b' z
            · rw [List.mem_singleton.mp z]
              exact ⟨fb, nb.1, nb.2, npb.symm⟩
        · have ck2 : ¬ (((bs.map V.ref).length : Nat) : Int) ≤ r := of_decide_eq_false (Bool.eq_false_iff.mpr ck)
          rw [hrl] at ck2
          obtain ⟨j, rfl⟩ : ∃ j : Nat, r = (j : Int) := ⟨r.toNat, by omega⟩
          have hj : j < ps.length := by omega
          exact ⟨bs, ps, j, ps[j], rfl, b1.trans b23, d3, hpl3, nd, ls3, List.getElem?_eq_getElem hj, pv.plen (List.getElem_mem hj), pv.set (List.getElem?_eq_getElem hj), hbs⟩
      rintro σ4 H4 ⟨bs, ps, j, p, rfl, b4, d4, hpl4, nd, ls4, hj, hpi, pv4, hbs⟩
      obtain ⟨b, hbj, hb⟩ := ls4.get hj
      refine ⟨_, rfl, _, rfl, pl, _, j, .ref b, rfl, rfl, SqL.of hpl4, atI_nat (by rw [List.getElem?_map, hbj]; rfl), .inl ⟨rfl, _, SqL.of hb⟩, ?_⟩
      refine ⟨_, rfl, b, _, _, rfl, rfl, hb, sm _ (by rw [nV_len]; omega), ?_⟩
      have nb := hbs b (List.mem_of_getElem? hbj)
      have e : nV p ++ [V.int (0 + (i : Int))] = nV (p ++ [i]) := by rw [nV_app, Int.zero_add]
      rw [e]
      exact ⟨bs, _, _, _, rfl, b4.updn nb.1, d4.upd nb.2.1 nb.2.2.1, by rw [upd_ne nb.2.2.2.symm]; exact hpl4, nd, ls4.set nd hbj, pv4, hbs⟩
    · rintro σ H1 ⟨bs, ps, y3, y4, rfl, b1, d1, hpl1, nd, ls, pv, hbs⟩
      rw [Int.toNat_natCast, hvp] at pv
      exact ⟨bs, ps, y3, y4, rfl, b1, d1, hpl1, nd, ls, pv, fun b hb => (hbs b hb).2⟩
  rintro σ1 H1 ⟨bs, ps, y3, y4, rfl, b1, d1, hpl1, nd, ls, pv, hbs⟩
  have hcount := pv.count
  have hpos := pv.pos (by omega)
  have hlen : bs.length = ps.length := Paired.length ls
  have hrl : (bs.map V.ref).length = ps.length := by rw [List.length_map, hlen]
  -- left = list(range(len(parts)))
  refine ⟨_, rfl, pl, _, rfl, .inl (SqL.of hpl1), _, rfl, RgOk.of_le (by omega) (by omega) (by omega) (by omega), fun l hl => ?_⟩
  have nl := Dr.new d1 hl
  have erg : rgV 0 (((bs.map V.ref).length : Nat) : Int) = nV (List.range ps.length) := by rw [hrl, rgV_nV]
  rw [erg]
  have s2 := Same.new (o := .lst (nV (List.range ps.length))) hl
  have d2 := d1.same s2
  have hpl2 := s2 _ _ hpl1
  have ls2 : LsAt _ bs ps := LsAt.keep (fun b hb o ho => s2 b o ho) ls
  have npll : pl ≠ l := ne_of_none hpl1 hl
  have nbl : ∀ b ∈ bs, b ≠ l := fun b hb => by
    obtain ⟨q, hq⟩ := ls.mem b hb
    exact ne_of_none hq hl
  -- order
  refine ⟨_, rfl, pl, _, rfl, .inl (SqL.of hpl2), _, rfl, by omega, by omega, fun D hD => ?_⟩
  have nD := Dr.new d2 hD
  have nDl : l ≠ D := ne_of_none upd_same hD
  have nplD : pl ≠ D := ne_of_none hpl2 hD
  have nbD : ∀ b ∈ bs, b ≠ D := fun b hb => by
    obtain ⟨q, hq⟩ := ls2.mem b hb
    exact ne_of_none hq hD
  have fl1 : H l = none := by
    cases e : H l with
    | none => rfl
    | some o =>
      have := b1 l o nl.1 nl.2 e
      rw [hl] at this
      cases this
  have fD1 : H D = none := by
    cases e : H D with
    | none => rfl
    | some o =>
      have := s2 D o (b1 D o nD.1 nD.2 e)
      rw [hD] at this
      cases this
  refine lc_rangeY (lo := 0) (n := (((bs.map V.ref).length : Nat) : Int).toNat) (fun i H' => ∃ od lf : List Nat, But h c H H' ∧ Dr H' h c ∧ H' pl = some (.lst (bs.map V.ref)) ∧ LsAt H' bs ps ∧ H' l = some (.lst (nV lf)) ∧ H' D = some (.lst (nV od)) ∧ od.length = i ∧ (od ++ lf).Perm (List.range ps.length))
    ⟨[], List.range ps.length, (b1.trans (But.same s2)).trans (But.new hD), d2.same (Same.new hD), by rw [upd_ne nplD]; exact hpl2, LsAt.keep (fun b hb o ho => Same.new hD _ _ ho) ls2, by rw [upd_ne nDl, upd_same], upd_same, rfl, List.Perm.refl _⟩ ?_ ?_
  · rintro i H3 hi ⟨od, lf, b3, d3, hpl3, ls3, hl3, hD3, hod, hpm⟩
    rw [Int.toNat_natCast, hrl] at hi
    have hlf : od.length + lf.length = ps.length := by
      have z := hpm.length_eq
      rw [List.length_append, List.length_range] at z
      exact z
    refine ⟨rfl, _, rfl, .inl ⟨rfl, _, SqL.of hl3⟩, _, rfl, _, rfl, l, _, rfl, .inl (SqL.of hl3), ?_⟩
    refine ⟨h, c, _, rfl, d3, by rw [nV_len]; omega, by rw [nV_len]; omega, fun r H4 r0 r1 b4 d4 => ?_⟩
    rw [nV_len] at r1
    obtain ⟨j, rfl⟩ : ∃ j : Nat, r = (j : Int) := ⟨r.toNat, by omega⟩
    have hj : j < lf.length := by omega
    have hl4 := b4 _ _ nl.1 nl.2 hl3
    have hD4 := b4 _ _ nD.1 nD.2 hD3
    have hjx := List.getElem?_eq_getElem hj
    refine ⟨l, nV lf, j, j, .int ((lf[j] : Nat) : Int), rfl, rfl, hl4, by omega, by omega, ?_, nV_get hjx, ?_⟩
    · have z : ((j : Nat) : Int) < (((nV lf).length : Nat) : Int) := by rw [nV_len]; omega
      rw [PySem.seqIndex_of (by omega) z, Int.toNat_natCast]
    refine ⟨nV od, by rw [upd_ne nDl.symm]; exact hD4, sm _ (by rw [nV_len]; omega), od ++ [lf[j]], lf.eraseIdx j, ((b3.trans b4).updn fl1).updn fD1, (d4.upd nl.1 nl.2).upd nD.1 nD.2, ?_, ?_, ?_, ?_, by rw [List.length_append, hod]; rfl, ?_⟩
    · rw [upd_ne nplD, upd_ne npll]; exact b4 _ _ npl.1 npl.2 hpl3
    · refine LsAt.keep (fun b hb o ho => ?_) ls3
      rw [upd_ne (nbD b hb), upd_ne (nbl b hb)]
      exact b4 b o (hbs b hb).1 (hbs b hb).2.1 ho
    · rw [upd_ne nDl, upd_same, nV_erase]
    · rw [upd_same, nV_app]
    · rw [List.append_assoc]
      exact (List.Perm.append_left od (Ov.erase_perm lf j _ hjx)).trans hpm
  rintro H3 ⟨od, lf, b3, d3, hpl3, ls3, hl3, hD3, hod, hpm⟩
  rw [Int.toNat_natCast, hrl] at hod
  have elf : lf = [] := by
    have z := hpm.length_eq
    rw [List.length_append, List.length_range, hod] at z
    exact List.length_eq_zero_iff.mp (by omega)
  subst elf
  rw [List.append_nil] at hpm
  have hodn : od.Nodup := hpm.nodup_iff.mpr List.nodup_range
  have hodlt : ∀ x ∈ od, x < ps.length := fun x hx => List.mem_range.mp (hpm.mem_iff.mp hx)
  -- stands
  refine ⟨1, rfl, sml 1, fun l2 hl2 => ⟨_, rfl, pl, _, rfl, .inl (SqL.of (Same.new hl2 _ _ hpl3)), ?_⟩⟩
  refine ⟨l2, (((bs.map V.ref).length : Nat) : Int), _, rfl, rfl, upd_same, by omega, by omega, sml _ (by rw [List.length_singleton, Int.toNat_natCast, hrl]; omega), fun sl hsl => ?_⟩
  have erep : (List.replicate (((bs.map V.ref).length : Nat) : Int).toNat [V.int (-1)]).flatten = (List.replicate ps.length (-1 : Int)).map V.int := by rw [rep_neg, hrl]
  rw [erep]
  have s4 : Same H3 (upd (upd H3 l2 (.lst [V.int (-1)])) sl (.lst ((List.replicate ps.length (-1 : Int)).map V.int))) := (Same.new hl2).trans (Same.new hsl)
  have nsl := Dr.new (d3.same (Same.new hl2)) hsl
  have fsl := Same.free (Same.new (o := .lst [V.int (-1)]) hl2) hsl
  refine ⟨fun σ' H' => ∃ (st : List Int) (y4 : Option V), σ' = [some (.ref h), some (.ref a), some (.ref pl), y3, y4, some (.ref l), some (.ref D), some (.ref sl), none] ∧ But h c H3 H' ∧ Dr H' h c ∧ H' sl = some (.lst (st.map V.int)) ∧ st.length = ps.length ∧ SInv od st, ?_, ?_⟩
  · refine ⟨_, rfl, D, _, rfl, .inl (SqL.of (s4 _ _ hD3)), 1, _, rfl, ⟨by omega, by omega, by rw [nV_len]; omega, by rw [nV_len]; omega⟩, for_range (lo := 1) (n := ((((nV od).length : Nat) : Int) - 1).toNat) (fun i σ' H' => ∃ (st : List Int) (y4 : Option V), σ' = [some (.ref h), some (.ref a), some (.ref pl), y3, y4, some (.ref l), some (.ref D), some (.ref sl), none] ∧ But h c H3 H' ∧ Dr H' h c ∧ H' sl = some (.lst (st.map V.int)) ∧ st.length = ps.length ∧ SInv od st)
      ⟨List.replicate ps.length (-1), y4, rfl, But.same s4, d3.same s4, upd_same, List.length_replicate, SInv.start od _ hodlt⟩ ?_ ?_⟩
    · rintro i σ H5 hi ⟨st, y4', rfl, b5, d5, hst, hstl, sinv⟩
      have hk : 1 + i < od.length := by rw [nV_len] at hi; omega
      have hD5 := b5 _ _ nD.1 nD.2 hD3
      refine ⟨1, rfl, sml 1, fun l3 hl3 => ?_⟩
      have s6 := Same.new (o := .lst [V.int (-1)]) hl3
      refine ⟨_, rfl, _, rfl, _, rfl, D, _, rfl, SqL.of (s6 _ _ hD5), fun l4 hl4 => ?_⟩
      have ek : (1 : Int) + (i : Int) = (((1 + i : Nat)) : Int) := by omega
      rw [ek, cut_to (nV od) (1 + i) (by rw [nV_len]; omega)]
      have s7 := Same.new (o := .lst ((nV od).take (1 + i))) hl4
      refine ⟨l3, l4, _, _, rfl, rfl, s7 _ _ upd_same, upd_same, sml _ (by rw [List.length_take, nV_len, List.length_singleton]; omega), fun l5 hl5 => ?_⟩
      have s8 := Same.new (o := .lst ([V.int (-1)] ++ (nV od).take (1 + i))) hl5
      have d8 := ((d5.same s6).same s7).same s8
      have n5 := Dr.new ((d5.same s6).same s7) hl5
      refine ⟨_, rfl, _, rfl, _, 1, rfl, rfl, h, c, _, rfl, d8, by omega, by omega, fun r H9 r0 r1 b9 d9 => ?_⟩
      have b59 : But h c H5 H9 := (But.same (s6.trans (s7.trans s8))).trans b9
      have hD9 := b59 _ _ nD.1 nD.2 hD5
      have hst9 := b59 _ _ nsl.1 nsl.2 hst
      obtain ⟨z, hz, ez⟩ : ∃ z : Int, (z = -1 ∨ ∃ (j y : Nat), j < 1 + i ∧ od[j]? = some y ∧ z = ((y : Nat) : Int)) ∧ atI ([V.int (-1)] ++ (nV od).take (1 + i)) r = some (.int z) := by
        obtain ⟨j, rfl⟩ : ∃ j : Nat, r = (j : Int) := ⟨r.toNat, by omega⟩
        cases j with
        | zero => exact ⟨-1, .inl rfl, atI_nat (j := 0) rfl⟩
        | succ j =>
          have hj : j < 1 + i := by omega
          have hjo : j < od.length := by omega
          refine ⟨((od[j] : Nat) : Int), .inr ⟨j, od[j], hj, List.getElem?_eq_getElem hjo, rfl⟩, atI_nat ?_⟩
          show ((nV od).take (1 + i))[j]? = _
          rw [List.getElem?_take, if_pos hj]
          exact nV_get (List.getElem?_eq_getElem hjo)
      refine ⟨l5, _, r, .int z, rfl, rfl, SqL.of (b9 _ _ n5.1 n5.2 upd_same), ez, ?_⟩
      have hx := List.getElem?_eq_getElem hk
      have hxm : od[1 + i] < st.length := by rw [hstl]; exact hodlt _ (List.getElem_mem hk)
      refine ⟨_, rfl, _, rfl, _, rfl, D, _, _, .int ((od[1 + i] : Nat) : Int), rfl, rfl, SqL.of hD9, atI_nat (nV_get hx), ?_⟩
      refine ⟨sl, _, _, od[1 + i], rfl, rfl, hst9, Evl.ixN_nat (by rw [List.length_map]; exact hxm), ?_⟩
      refine ⟨st.set od[1 + i] z, _, rfl, (b5.trans b59).updn fsl, d9.upd nsl.1 nsl.2, by rw [upd_same, List.map_set], by rw [List.length_set]; exact hstl, sinv.set hodn hx hxm hz⟩
    · rintro σ H5 ⟨st, y4', rfl, b5, d5, hst, hstl, sinv⟩
      exact ⟨st, y4', rfl, b5, d5, hst, hstl, sinv⟩
  rintro σ5 H5 ⟨st, y4', rfl, b5, d5, hst, hstl, sinv⟩
  have hpl5 := b5 _ _ npl.1 npl.2 hpl3
  have ls5 : LsAt H5 bs ps := LsAt.keep (fun b hb o ho => b5 b o (hbs b hb).1 (hbs b hb).2.1 ho) ls3
  -- the tuples
  refine ⟨_, rfl, pl, rfl, ⟨_, SqL.of hpl5⟩, fun D2 hD2 => ?_⟩
  refine lc_listY (K := K) (a := pl) (xs := bs.map V.ref) (fun i H' => ∃ acc, Same H5 H' ∧ H' D2 = some (.lst acc) ∧ Paired (PartAt H') acc (ps.take i)) ⟨[], Same.new hD2, upd_same, .nil⟩ (fun i H' _ ⟨_, s, _⟩ => SqL.of (s _ _ hpl5)) ?_ ?_
  · rintro i x H6 hi ⟨acc, s6, hacc, hpa⟩
    obtain ⟨b, rfl, hbi⟩ : ∃ b, x = V.ref b ∧ bs[i]? = some b := by
      rw [List.getElem?_map] at hi
      cases e : bs[i]? with
      | none => rw [e] at hi; cases hi
      | some u => rw [e] at hi; exact ⟨u, (Option.some.inj hi).symm, rfl⟩
    have hib : i < bs.length := (List.getElem?_eq_some_iff.mp hbi).1
    have hip : i < ps.length := by omega
    obtain ⟨b', hb1, hb2⟩ := ls5.get (List.getElem?_eq_getElem hip)
    obtain rfl : b' = b := Option.some.inj (hb1.symm.trans hbi)
    refine ⟨rfl, _, rfl, b', _, rfl, .inl ⟨SqL.of (s6 _ _ hb2), fun t ht => ?_⟩⟩
    have st7 := Same.new (o := .tup (nV ps[i])) ht
    have hlacc : acc.length = i := by
      have z := Paired.length hpa
      rw [z, List.length_take]
      omega
    have kL := Keep.updL (ys := acc ++ [V.ref t]) (st7 _ _ hacc)
    refine ⟨acc, st7 _ _ hacc, sm _ (by omega), acc ++ [V.ref t], Ov.Same.updn (s6.trans st7) hD2, upd_same, ?_⟩
    rw [List.take_add_one, List.getElem?_eq_getElem hip]
    exact (L2.Paired.mapP hpa fun _ _ z => z.keep ((Keep.same st7).trans kL)).snoc ⟨t, rfl, kL _ _ upd_same⟩
  · rintro H6 ⟨acc, s6, hacc, hpa⟩
    rw [hrl, List.take_length] at hpa
    refine ⟨D2, acc, rfl, .inl ⟨SqL.of hacc, fun pa hpa2 => ?_⟩⟩
    have s7 := Same.new (o := .tup acc) hpa2
    refine ⟨_, rfl, sl, _, rfl, .inl ⟨SqL.of (s7 _ _ (s6 _ _ hst)), fun sa hsa => ⟨sml 2, fun t ht => ?_⟩⟩⟩
    have s8 := Same.new (o := .tup (st.map V.int)) hsa
    have s9 := Same.new (o := .tup [V.ref pa, .ref sa]) ht
    refine q _ _ ps st (b3.trans (b5.trans (But.same (s6.trans (s7.trans (s8.trans s9)))))) ((((d5.same s6).same s7).same s8).same s9) ⟨t, pa, sa, acc, rfl, upd_same, s9 _ _ (s8 _ _ upd_same), L2.Paired.mapP hpa fun _ _ z => z.keep (Keep.same (s7.trans (s8.trans s9))), s9 _ _ upd_same⟩ ⟨pv, hstl, od, hpm, sinv⟩
end
end K16

namespace K16
open PySem PySem.Spec PyProof.Rows L2 Ov
section
variable {P : Program} {w : World} {K : PySem.W.Frag} {mg : Str → Option Value} {base : Heap}
def osc_laid1 : Scope := { kind := .function, names := [(".0", .local), ("_law_part", .local), ("sum", .globalImplicit), ("_law_program_here", .cell)], isGenerator := false, isCoroutine := false }
def osc_laid2 : Scope := { kind := .function, names := [(".0", .local), ("_law_down", .local), ("sum", .globalImplicit), ("_law_sizes", .cell)], isGenerator := false, isCoroutine := false }
theorem sc_law_laid : FnScope ["_law_program_here", "_law_tree_here", "_law_parts_here", "_law_stands", "_law_downs", "_law_part", "_law_down", "_law_sizes", "_law_found", "_law_cell", "_law_function", "_law_under"] ["_law_program_here", "_law_tree_here"] (defScope s_law_laid) := ⟨rfl, rfl, rfl, by decide +kernel, rfl, by decide +kernel, by decide +kernel⟩
-- 0 _law_program_here, 1 _law_tree_here, 2 _law_parts_here, 3 _law_stands, 4 _law_downs, 5 _law_part, 6 _law_down, 7 _law_sizes, 8 _law_found, 9 _law_cell, 10 _law_function, 11 _law_under
theorem ok_law_laidN (T : Txt w K mg) : FnOk P w K mg base CX0 1 (He.ga K "_law_laid") (fdOf K d_law_laid) ["_law_program_here", "_law_tree_here"] spLaidN := by
  refine T.F_law_laid.ok sc_law_laid (fun vs H Q E h => ?_) (fun cdv A outer s H vs Q E hr h => ?_)
  · obtain ⟨v, t, pr, ps, st, dn, rfl, _⟩ := h
    rfl
  obtain ⟨v, t, pr, ps, st, dn, rfl, hpre, hdn, q⟩ := h
  obtain ⟨⟨pa, vp, rfl, hpa, hpf⟩, hok, ⟨a, qa, sa, us, rfl, ha, hqa, hus, hsa⟩, htr⟩ := hpre
  have hpl := Paired.length hpf
  have hul := Paired.length hus
  have l8 := hok.l8
  have hc := htr.p.count
  have hc1 := htr.p.pos hok.l1
  refine ⟨_, PSs.nox (pss_cons (ps_asg (pv 1) (Ov.pg_tupK (K := K) (n := 2) rfl rfl (pgs_cons (pg_name (i := 2) sc_law_laid.nd rfl (by first | exact Or.inl rfl | exact Or.inr rfl)) (pgs_cons (pg_name (i := 3) sc_law_laid.nd rfl (by first | exact Or.inl rfl | exact Or.inr rfl)) pgs_nil))))
      (pss_cons (ps_set (i := 4) sc_law_laid.nd rfl (by first | exact Or.inl rfl | exact Or.inr rfl) (pe_lst pa_nil))
      (pss_cons (ps_for PassesOwn.never rfl (pi_range1 (by rfl) T.z_range (pa_cons (pe_callB (r := Evl.rLenS K) call_len_seq (by rfl) T.z_len PySem.boot_len (pa_cons (pv 2) pa_nil)) pa_nil)) (pg_name (i := 5) sc_law_laid.nd rfl (by first | exact Or.inl rfl | exact Or.inr rfl)) (pss_cons (ps_set (i := 6) sc_law_laid.nd rfl (by first | exact Or.inl rfl | exact Or.inr rfl) (pe_lst (pa_cons (pv 5) pa_nil)))
      (pss_cons (ps_while PassesOwn.never (pt_cmpR op_ge (pe_ix (r := rIxT K) ix_tup (pv 3) (pe_ix (r := rIxL K) ix_list (pv 6) pe_int (fun _ _ => rfl)) (fun _ _ => rfl)) pe_int (nomark _)) (pss_one (ps_set (i := 6) sc_law_laid.nd rfl (by first | exact Or.inl rfl | exact Or.inr rfl) (pe_op op_cat (pe_lst (pa_cons (pe_ix (r := rIxT K) ix_tup (pv 3) (pe_ix (r := rIxL K) ix_list (pv 6) pe_int (fun _ _ => rfl)) (fun _ _ => rfl)) pa_nil)) (pv 6)))))
      (pss_one (ps_expr (Ov.pe_bmK (K := K) rfl PySem.F.plainAttrs_list PySem.F.slot_list_append PySem.F.type_list_append mt_append (pv 4) (pa_cons (pv 6) pa_nil)))))))
      (pss_cons (ps_set (i := 7) sc_law_laid.nd rfl (by first | exact Or.inl rfl | exact Or.inr rfl) (pe_lc (own := [("_law_part", 5)]) rfl sc_law_laid.nd (Ov.pi_tupK (K := K) rfl (pv 2)) (by first | exact blkOk_by (own := [("_law_part", 5)]) (N := ["_law_program_here", "_law_tree_here", "_law_parts_here", "_law_stands", "_law_downs", "_law_part", "_law_down", "_law_sizes", "_law_found", "_law_cell", "_law_function", "_law_under"]) (sc := defScope s_law_laid) (by decide +kernel) | exact blkOk_by (own := [("_law_part", 5)]) (N := ["_law_program_here", "_law_tree_here", "_law_parts_here", "_law_stands", "_law_downs", "_law_part", "_law_down", "_law_sizes", "_law_found", "_law_cell", "_law_function", "_law_under"]) (sc := osc_laid1) (by decide +kernel) | exact blkOk_by (own := [("_law_part", 5)]) (N := ["_law_program_here", "_law_tree_here", "_law_parts_here", "_law_stands", "_law_downs", "_law_part", "_law_down", "_law_sizes", "_law_found", "_law_cell", "_law_function", "_law_under"]) (sc := osc_laid2) (by decide +kernel)) (fun _ _ _ _ _ => (pg_name (i := 5) sc_law_laid.nd rfl (by first | exact Or.inl rfl | exact Or.inr rfl))) (fun _ _ _ _ _ => pts_nil) (fun _ _ _ _ _ => (pe_callB (r := rSum K) (cr_sum rfl) (by rfl) T.z_sum (by decide +kernel) (pa_cons (pe_lc (own := [("_law_function", 10)]) rfl sc_law_laid.nd (Ov.pi_tupK (K := K) rfl (pv 5)) (by first | exact blkOk_by (own := [("_law_function", 10)]) (N := ["_law_program_here", "_law_tree_here", "_law_parts_here", "_law_stands", "_law_downs", "_law_part", "_law_down", "_law_sizes", "_law_found", "_law_cell", "_law_function", "_law_under"]) (sc := defScope s_law_laid) (by decide +kernel) | exact blkOk_by (own := [("_law_function", 10)]) (N := ["_law_program_here", "_law_tree_here", "_law_parts_here", "_law_stands", "_law_downs", "_law_part", "_law_down", "_law_sizes", "_law_found", "_law_cell", "_law_function", "_law_under"]) (sc := osc_laid1) (by decide +kernel) | exact blkOk_by (own := [("_law_function", 10)]) (N := ["_law_program_here", "_law_tree_here", "_law_parts_here", "_law_stands", "_law_downs", "_law_part", "_law_down", "_law_sizes", "_law_found", "_law_cell", "_law_function", "_law_under"]) (sc := osc_laid2) (by decide +kernel)) (fun _ _ _ _ _ => (pg_name (i := 10) sc_law_laid.nd rfl (by first | exact Or.inl rfl | exact Or.inr rfl))) (fun _ _ _ _ _ => pts_nil) (fun _ _ _ _ _ => (pe_ix (r := rIxT K) ix_tup (pe_ix (r := rIxT K) ix_tup (pv 0) (pv 10) (fun _ _ => rfl)) pe_int (fun _ _ => rfl)))) pa_nil)))))
      (pss_cons (ps_set (i := 8) sc_law_laid.nd rfl (by first | exact Or.inl rfl | exact Or.inr rfl) (pe_op op_rep (pe_lst (pa_cons pe_non pa_nil)) (pe_callB (r := Evl.rLenS K) call_len_seq (by rfl) T.z_len PySem.boot_len (pa_cons (pv 0) pa_nil))))
      (pss_cons (ps_for PassesOwn.never rfl (pi_range1 (by rfl) T.z_range (pa_cons (pe_callB (r := Evl.rLenS K) call_len_seq (by rfl) T.z_len PySem.boot_len (pa_cons (pv 2) pa_nil)) pa_nil)) (pg_name (i := 5) sc_law_laid.nd rfl (by first | exact Or.inl rfl | exact Or.inr rfl)) (pss_cons (ps_set (i := 9) sc_law_laid.nd rfl (by first | exact Or.inl rfl | exact Or.inr rfl) (pe_callB (r := rSum K) (cr_sum rfl) (by rfl) T.z_sum (by decide +kernel) (pa_cons (pe_lc (own := [("_law_under", 11)]) rfl sc_law_laid.nd (Ov.pi_listK (K := K) rfl (pe_slice (r := rSlL K) sl_list (pe_ix (r := rIxL K) ix_list (pv 4) (pv 5) (fun _ _ => rfl)) po_none (po_some (pe_un un_neg pe_int)))) (by first | exact blkOk_by (own := [("_law_under", 11)]) (N := ["_law_program_here", "_law_tree_here", "_law_parts_here", "_law_stands", "_law_downs", "_law_part", "_law_down", "_law_sizes", "_law_found", "_law_cell", "_law_function", "_law_under"]) (sc := defScope s_law_laid) (by decide +kernel) | exact blkOk_by (own := [("_law_under", 11)]) (N := ["_law_program_here", "_law_tree_here", "_law_parts_here", "_law_stands", "_law_downs", "_law_part", "_law_down", "_law_sizes", "_law_found", "_law_cell", "_law_function", "_law_under"]) (sc := osc_laid1) (by decide +kernel) | exact blkOk_by (own := [("_law_under", 11)]) (N := ["_law_program_here", "_law_tree_here", "_law_parts_here", "_law_stands", "_law_downs", "_law_part", "_law_down", "_law_sizes", "_law_found", "_law_cell", "_law_function", "_law_under"]) (sc := osc_laid2) (by decide +kernel)) (fun _ _ _ _ _ => (pg_name (i := 11) sc_law_laid.nd rfl (by first | exact Or.inl rfl | exact Or.inr rfl))) (fun _ _ _ _ _ => pts_nil) (fun _ _ _ _ _ => (pe_ix (r := rIxL K) ix_list (pv 7) (pv 11) (fun _ _ => rfl)))) pa_nil)))
      (pss_one (ps_for PassesOwn.never rfl (Ov.pi_tupK (K := K) rfl (pe_ix (r := rIxT K) ix_tup (pv 2) (pv 5) (fun _ _ => rfl))) (pg_name (i := 10) sc_law_laid.nd rfl (by first | exact Or.inl rfl | exact Or.inr rfl)) (pss_cons (ps_asg (pe_tup (pa_cons (pv 9) (pa_cons (pe_ix (r := rIxL K) ix_list (pv 4) (pv 5) (fun _ _ => rfl)) pa_nil))) (pg_sub (pv 8) (pv 10) set_list))
      (pss_one (ps_set (i := 9) sc_law_laid.nd rfl (by first | exact Or.inl rfl | exact Or.inr rfl) (pe_op op_add (pv 9) (pe_ix (r := rIxT K) ix_tup (pe_ix (r := rIxT K) ix_tup (pv 0) (pv 10) (fun _ _ => rfl)) pe_int (fun _ _ => rfl))))))))))
      (pss_one (ps_ret (pe_tup (pa_cons (pv 8) (pa_cons (pe_callB (r := rMax K) (cr_max rfl) (by rfl) T.z_max (by decide +kernel) (pa_cons (pe_lc (own := [("_law_down", 6)]) rfl sc_law_laid.nd (Ov.pi_listK (K := K) rfl (pv 4)) (by first | exact blkOk_by (own := [("_law_down", 6)]) (N := ["_law_program_here", "_law_tree_here", "_law_parts_here", "_law_stands", "_law_downs", "_law_part", "_law_down", "_law_sizes", "_law_found", "_law_cell", "_law_function", "_law_under"]) (sc := defScope s_law_laid) (by decide +kernel) | exact blkOk_by (own := [("_law_down", 6)]) (N := ["_law_program_here", "_law_tree_here", "_law_parts_here", "_law_stands", "_law_downs", "_law_part", "_law_down", "_law_sizes", "_law_found", "_law_cell", "_law_function", "_law_under"]) (sc := osc_laid1) (by decide +kernel) | exact blkOk_by (own := [("_law_down", 6)]) (N := ["_law_program_here", "_law_tree_here", "_law_parts_here", "_law_stands", "_law_downs", "_law_part", "_law_down", "_law_sizes", "_law_found", "_law_cell", "_law_function", "_law_under"]) (sc := osc_laid2) (by decide +kernel)) (fun _ _ _ _ _ => (pg_name (i := 6) sc_law_laid.nd rfl (by first | exact Or.inl rfl | exact Or.inr rfl))) (fun _ _ _ _ _ => pts_nil) (fun _ _ _ _ _ => (pe_callB (r := rSum K) (cr_sum rfl) (by rfl) T.z_sum (by decide +kernel) (pa_cons (pe_lc (own := [("_law_under", 11)]) rfl sc_law_laid.nd (Ov.pi_listK (K := K) rfl (pv 6)) (by first | exact blkOk_by (own := [("_law_under", 11)]) (N := ["_law_program_here", "_law_tree_here", "_law_parts_here", "_law_stands", "_law_downs", "_law_part", "_law_down", "_law_sizes", "_law_found", "_law_cell", "_law_function", "_law_under"]) (sc := defScope s_law_laid) (by decide +kernel) | exact blkOk_by (own := [("_law_under", 11)]) (N := ["_law_program_here", "_law_tree_here", "_law_parts_here", "_law_stands", "_law_downs", "_law_part", "_law_down", "_law_sizes", "_law_found", "_law_cell", "_law_function", "_law_under"]) (sc := osc_laid1) (by decide +kernel) | exact blkOk_by (own := [("_law_under", 11)]) (N := ["_law_program_here", "_law_tree_here", "_law_parts_here", "_law_stands", "_law_downs", "_law_part", "_law_down", "_law_sizes", "_law_found", "_law_cell", "_law_function", "_law_under"]) (sc := osc_laid2) (by decide +kernel)) (fun _ _ _ _ _ => (pg_name (i := 11) sc_law_laid.nd rfl (by first | exact Or.inl rfl | exact Or.inr rfl))) (fun _ _ _ _ _ => pts_nil) (fun _ _ _ _ _ => (pe_ix (r := rIxL K) ix_list (pv 7) (pv 11) (fun _ _ => rfl)))) pa_nil)))) pa_nil)) pa_nil))))))))))), ?_⟩
  refine ⟨_, rfl, a, _, rfl, SqT.of ha, rfl, _, _, rfl, _, _, rfl, rfl, sml 0, fun D hD => ?_⟩
  refine ⟨_, rfl, qa, _, rfl, .inr (SqT.of (Same.new hD _ _ hqa)), _, rfl, by omega, by omega, ?_⟩
  refine for_range (lo := 0) (n := ((us.length : Nat) : Int).toNat) (fun i σ' H' => ∃ (y5 y6 : Option V) (bs : List Addr), σ' = [some (.ref pa), some (.ref a), some (.ref qa), some (.ref sa), some (.ref D), y5, y6, none, none, none, none, none] ∧ Same H H' ∧ H' D = some (.lst (bs.map V.ref)) ∧ LsAt H' bs ((List.range i).map fun k => dn k ++ [k]) ∧ ∀ b ∈ bs, b ≠ D ∧ H b = none) ⟨none, none, [], rfl, Same.new hD, upd_same, .nil, fun _ z => nomatch z⟩ ?_ ?_
  · rintro i σ' H1 hi ⟨y5, y6, bs, rfl, s1, eD, ls, hb⟩
    rw [Int.toNat_natCast, hul] at hi
    have e0 : (0 : Int) + (i : Int) = (i : Int) := Int.zero_add _
    have hdl := hdn.len i hi
    refine ⟨_, rfl, sml 1, fun l hl => ?_⟩
    rw [e0]
    refine ⟨fun m σ' H' => ∃ (l : Addr) (c : Nat) (l' acc : List Nat), σ' = [some (.ref pa), some (.ref a), some (.ref qa), some (.ref sa), some (.ref D), some (.int (i : Int)), some (.ref l), none, none, none, none, none] ∧ Same H1 H' ∧ (D ≠ l ∧ H l = none) ∧ H' l = some (.lst (nV (acc ++ [i]))) ∧ (acc ++ [i])[0]? = some c ∧ Down st c l' ∧ dn i = l' ++ acc ∧ m = l'.length,
      ⟨_, l, i, dn i, [], rfl, Same.new hl, ⟨ne_of_none eD hl, Same.free s1 hl⟩, upd_same, rfl, hdn.down i hi, (List.append_nil _).symm, rfl⟩, ?_⟩
    rintro m σ' H2 ⟨l, c, l', acc, rfl, s2, ⟨nD, nHl⟩, el, hc0, hd, edn, rfl⟩
    obtain ⟨z, hz⟩ := hd.get
    have hln : (dn i).length = l'.length + acc.length := by rw [edn, List.length_append]
    have esa := s2 _ _ (s1 _ _ hsa)
    refine ⟨_, rfl, _, rfl, l, _, 0, _, rfl, rfl, SqL.of el, atI_nat (j := 0) (nV_get hc0), sa, _, _, _, rfl, rfl, SqT.of esa, atI_nat (by rw [List.getElem?_map, hz]; rfl), z, 0, rfl, rfl, _, rfl, ?_⟩
    cases hd with
    | base e =>
      obtain rfl : z = -1 := Option.some.inj (hz.symm.trans e)
      refine iteF ⟨_, rfl, .inl ⟨rfl, _, SqL.of (s2 _ _ eD)⟩, _, rfl, D, _, _, rfl, rfl, s2 _ _ eD, sm _ (by have := Paired.length ls; rw [List.length_map, List.length_range] at this; rw [List.length_map]; omega), _, _, bs ++ [l], rfl, Ov.Same.updn (s1.trans s2) hD, by rw [upd_same, List.map_append]; rfl, ?_, ?_⟩
      · rw [List.range_succ, List.map_append]
        refine LsAt.snoc (LsAt.keep (fun b hb' o ho => by rw [upd_ne (hb b hb').1]; exact s2 _ _ ho) ls) ?_
        show upd H2 D _ l = some (.lst (nV (dn i ++ [i])))
        rw [upd_ne nD.symm, el, edn]
        rfl
      · intro b hb'
        rcases List.mem_append.mp hb' with h | h
        · exact hb b h
        · rw [List.mem_singleton.mp h]
          exact ⟨nD.symm, nHl⟩
    | @step _ y l2 e d3 =>
      obtain rfl : z = (y : Int) := Option.some.inj (hz.symm.trans e)
      have ge : decide ((0 : Int) ≤ (y : Int)) = true := decide_eq_true (by omega)
      rw [ge]
      rw [List.length_append, List.length_singleton] at hln
      refine iteT ⟨_, fun σ' H' h => h, ?_⟩
      refine ⟨_, rfl, _, rfl, l, _, 0, _, rfl, rfl, SqL.of el, atI_nat (j := 0) (nV_get hc0), sa, _, _, _, rfl, rfl, SqT.of esa, atI_nat (by rw [List.getElem?_map, hz]; rfl), sml 1, fun k1 hk1 => ?_⟩
      have s3 := Same.new (o := .lst [V.int (y : Int)]) hk1
      refine ⟨_, rfl, k1, l, _, _, rfl, rfl, upd_same, s3 _ _ el, sml _ (by rw [nV_len, List.length_append, List.length_singleton, List.length_singleton]; omega), fun k2 hk2 => ?_⟩
      have s4 := s3.trans (Same.new (o := .lst ([V.int (y : Int)] ++ nV (acc ++ [i]))) hk2)
      refine ⟨l2.length, by rw [List.length_append, List.length_singleton]; omega, k2, y, l2, y :: acc, rfl, s2.trans s4, ⟨ne_of_none (s3 _ _ (s2 _ _ eD)) hk2, Same.free ((s1.trans s2).trans s3) hk2⟩, upd_same, rfl, d3, ?_, rfl⟩
      rw [edn, List.append_assoc]
      rfl
  · rintro σ' H1 ⟨y5, y6, bs, rfl, s1, eD, ls, hb⟩
    rw [Int.toNat_natCast, hul] at ls
    have hbl : bs.length = ps.length := by have := Paired.length ls; rw [List.length_map, List.length_range] at this; exact this
    have dl : ∀ k, k < ps.length → ∃ b, (bs.map V.ref)[k]? = some (.ref b) ∧ H1 b = some (.lst (nV (dn k ++ [k]))) ∧ H b = none := fun k hk => by
      obtain ⟨b, h1, h2⟩ := LsAt.get (k := k) (q := dn k ++ [k]) ls (by rw [List.getElem?_map, List.getElem?_range hk]; rfl)
      exact ⟨b, by rw [List.getElem?_map, h1]; rfl, h2, (hb b (List.mem_of_getElem? h1)).2⟩
    have sz : ∀ y, y < ps.length → (((ps.map (psz pr)).map V.int))[y]? = some (.int (psz pr (ps[y]?.getD []))) := fun y hy => by
      rw [List.getElem?_map, List.getElem?_map, List.getElem?_eq_getElem hy]
      rfl
    -- sizes
    refine ⟨_, rfl, qa, rfl, ⟨us, SqT.of (s1 _ _ hqa)⟩, fun Z hZ => ?_⟩
    refine lc_tupY (K := K) (a := qa) (xs := us) (fun i H' => Same H1 H' ∧ H' Z = some (.lst (((ps.take i).map (psz pr)).map V.int))) ⟨Same.new hZ, upd_same⟩ (fun i H' _ e => SqT.of (e.1 _ _ (s1 _ _ hqa))) ?_ ?_
    · rintro i x H2 hi ⟨s2, e2⟩
      obtain ⟨p, hp, ⟨b, rfl, hb1⟩⟩ := Paired.get2 hus hi
      have hm := List.mem_of_getElem? hp
      have hil := (List.getElem?_eq_some_iff.mp hp).1
      have hpn := htr.p.plen hm
      have s12 := s1.trans s2
      refine ⟨rfl, _, rfl, b, rfl, ⟨_, SqT.of (s12 _ _ hb1)⟩, fun C hC => ?_⟩
      refine lc_tupY (K := K) (a := b) (xs := nV p) (fun j H' => Same H2 H' ∧ H' C = some (.lst (((p.take j).map (fsz pr)).map V.int))) ⟨Same.new hC, upd_same⟩ (fun j H' _ e => SqT.of (e.1 _ _ (s12 _ _ hb1))) ?_ ?_
      · rintro j x H3 hj ⟨s3, e3⟩
        obtain ⟨y, hy, rfl⟩ := nV_int hj
        have hyl := htr.p.lt hm (List.mem_of_getElem? hy)
        obtain ⟨f, hf⟩ : ∃ f, pr[y]? = some f := ⟨_, List.getElem?_eq_getElem hyl⟩
        obtain ⟨u, hu, ⟨c, wv, rfl, hc2, _⟩⟩ := Paired.got hpf hf
        have efs : fsz pr y = f.1 := by unfold fsz; rw [hf]; rfl
        refine ⟨rfl, _, rfl, _, rfl, pa, _, _, _, rfl, rfl, SqT.of (s3 _ _ (s12 _ _ hpa)), atI_nat hu, c, _, 0, _, rfl, rfl, SqT.of (s3 _ _ (s12 _ _ hc2)), atI_nat (j := 0) rfl, _, e3, sm _ (by rw [List.length_map, List.length_map, List.length_take]; omega), Ov.Same.updn s3 hC, ?_⟩
        rw [upd_same, List.take_add_one, hy, List.map_append, List.map_append]
        show some (HO.lst (_ ++ [V.int f.1])) = some (HO.lst (_ ++ [V.int (fsz pr y)]))
        rw [efs]
      · rintro H3 ⟨s3, e3⟩
        rw [nV_len, List.take_length] at e3
        refine ⟨C, _, rfl, SqL.of e3, _, s3 _ _ e2, sm _ (by rw [List.length_map, List.length_map, List.length_take]; omega), Ov.Same.updn (s2.trans s3) hZ, ?_⟩
        rw [upd_same, List.take_add_one, hp, List.map_append, List.map_append]
        rfl
    rintro H2 ⟨s2, e2⟩
    rw [hul, List.take_length] at e2
    -- found
    have s12 := s1.trans s2
    refine ⟨sml 1, fun l2 hl2 => ⟨_, rfl, pa, _, rfl, .inr (SqT.of (Same.new hl2 _ _ (s12 _ _ hpa))), l2, ((vp.length : Nat) : Int), _, rfl, rfl, upd_same, by omega, by omega, sml _ (by rw [List.length_singleton, Int.toNat_natCast]; omega), fun F hF => ?_⟩⟩
    rw [rep_v]
    have s3 := Same.new (o := .lst [V.non]) hl2
    generalize upd H2 l2 (.lst [V.non]) = Hb at hF s3 ⊢
    have s13 := s12.trans s3
    have s23 := s2.trans s3
    have eZ := s3 _ _ e2
    refine ⟨_, rfl, qa, _, rfl, .inr (SqT.of (Same.new hF _ _ (s13 _ _ hqa))), _, rfl, by omega, by omega, ?_⟩
    refine for_range (lo := 0) (n := ((us.length : Nat) : Int).toNat) (fun i σ' H' => ∃ (y5 y9 y10 : Option V) (vs : List V), σ' = [some (.ref pa), some (.ref a), some (.ref qa), some (.ref sa), some (.ref D), y5, y6, some (.ref Z), some (.ref F), y9, y10, none] ∧ Same Hb H' ∧ H' F = some (.lst vs) ∧ Fill pr.length ps (RL Hb H' pr ps dn H) i 0 vs)
      ⟨y5, none, none, _, rfl, Same.new hF, upd_same, Fill.start (by rw [List.length_replicate, hpl])⟩ ?_ ?_
    · rintro i σ' H3 hi ⟨y5, y9, y10, vs, rfl, s4, eF, fl⟩
      rw [Int.toNat_natCast, hul] at hi
      have e0 : (0 : Int) + (i : Int) = (i : Int) := Int.zero_add _
      have hdl := hdn.len i hi
      obtain ⟨db, hdb, hdb1, ndb⟩ := dl i hi
      refine ⟨_, rfl, _, rfl, D, _, (i : Int), _, rfl, congrArg V.int e0, SqL.of (s4 _ _ (s23 _ _ eD)), atI_nat hdb, 1, rfl, -1, rfl, db, _, rfl, SqL.of (s4 _ _ (s23 _ _ hdb1)), fun c hc2 => ?_⟩
      rw [cut_last]
      refine ⟨c, rfl, ⟨_, SqL.of upd_same⟩, fun B hB => ?_⟩
      have s5 := Same.new (o := .lst (nV (dn i))) hc2
      refine lc_listY (K := K) (a := c) (xs := nV (dn i)) (fun j H' => Same (upd H3 c (.lst (nV (dn i)))) H' ∧ H' B = some (.lst ((((dn i).take j).map fun y => psz pr (ps[y]?.getD [])).map V.int))) ⟨Same.new hB, upd_same⟩ (fun j H' _ e => SqL.of (e.1 _ _ upd_same)) ?_ ?_
      · rintro j x H4 hj ⟨s6, e6⟩
        obtain ⟨y, hy, rfl⟩ := nV_int hj
        have hjl := (List.getElem?_eq_some_iff.mp hy).1
        refine ⟨rfl, _, rfl, _, rfl, Z, _, _, _, rfl, rfl, SqL.of (s6 _ _ (s5 _ _ (s4 _ _ eZ))), atI_nat (sz y (hdn.lt i hi y (List.mem_of_getElem? hy))), _, e6, sm _ (by rw [List.length_map, List.length_map, List.length_take]; omega), Ov.Same.updn s6 hB, ?_⟩
        rw [upd_same, List.take_add_one, hy, List.map_append, List.map_append]
        rfl
      rintro H4 ⟨s6, e6⟩
      rw [nV_len, List.take_length] at e6
      have s56 := s5.trans s6
      have s46 := s4.trans s56
      obtain ⟨pt, hpt⟩ : ∃ pt, ps[i]? = some pt := ⟨_, List.getElem?_eq_getElem hi⟩
      obtain ⟨u, hu, ⟨b, rfl, hb1⟩⟩ := Paired.got hus hpt
      refine ⟨B, _, rfl, SqL.of e6, _, rfl, _, rfl, qa, _, (i : Int), _, rfl, congrArg V.int e0, SqT.of (s46 _ _ (s13 _ _ hqa)), atI_nat hu, b, rfl, ⟨_, SqT.of (s46 _ _ (s13 _ _ hb1))⟩, ?_⟩
      refine for_tup (K := K) (a := b) (xs := nV pt) (fun j σ' H' => ∃ (y10 : Option V) (vs : List V), σ' = [some (.ref pa), some (.ref a), some (.ref qa), some (.ref sa), some (.ref D), some (.int (0 + (i : Int))), y6, some (.ref Z), some (.ref F), some (.int (bgn pr ps dn i + psz pr (pt.take j))), y10, none] ∧ Same Hb H' ∧ H' F = some (.lst vs) ∧ Fill pr.length ps (RL Hb H' pr ps dn H) i j vs)
        ⟨y10, vs, ?_, s46, s56 _ _ eF, fl.mono (RL.keep (Keep.same s56))⟩ (fun j σ' H' _ ⟨_, _, _, z1, _⟩ => SqT.of (z1 _ _ (s13 _ _ hb1))) ?_ ?_
      · have ez : bgn pr ps dn i + psz pr (pt.take 0) = bgn pr ps dn i := by
          rw [List.take_zero]
          exact Int.add_zero _
        rw [ez]
        rfl
      · rintro j x σ' H5 hj ⟨y10, vs, rfl, s7, eF, fl⟩
        obtain ⟨f, hf, rfl⟩ := nV_int hj
        have hm := List.mem_of_getElem? hpt
        have hfl := htr.p.lt hm (List.mem_of_getElem? hf)
        obtain ⟨g, hg⟩ : ∃ g, pr[f]? = some g := ⟨_, List.getElem?_eq_getElem hfl⟩
        obtain ⟨u, hu, ⟨c2, wv, rfl, hc3, _⟩⟩ := Paired.got hpf hg
        have efs : fsz pr f = g.1 := by unfold fsz; rw [hg]; rfl
        refine ⟨_, rfl, _, rfl, _, rfl, D, _, (i : Int), _, rfl, congrArg V.int e0, SqL.of (s7 _ _ (s23 _ _ eD)), atI_nat hdb, sml 2, fun t ht => ?_⟩
        have s8 := Same.new (o := .tup [.int (bgn pr ps dn i + psz pr (pt.take j)), .ref db]) ht
        have s78 := s7.trans s8
        have nFt : F ≠ t := ne_of_none eF ht
        refine ⟨_, rfl, _, rfl, F, _, _, f, rfl, rfl, s8 _ _ eF, ixN_nat (by rw [fl.1]; exact hfl), ?_⟩
        have s9 := Ov.Same.updn (o := .lst (vs.set f (.ref t))) s78 hF
        refine ⟨_, rfl, _, rfl, _, rfl, pa, _, _, _, rfl, rfl, SqT.of (s9 _ _ (s13 _ _ hpa)), atI_nat hu, c2, _, 0, _, rfl, rfl, SqT.of (s9 _ _ (s13 _ _ hc3)), atI_nat (j := 0) rfl, _, _, rfl, rfl, some (.int (f : Int)), vs.set f (.ref t), ?_, s9, upd_same, (fl.mono (RL.keep ((Keep.same s8).trans (Keep.updL (s8 _ _ eF))))).step htr.p hpt hf ⟨t, db, rfl, ?_, s23 _ _ hdb1, ndb⟩⟩
        · have ez : bgn pr ps dn i + psz pr (pt.take j) + g.1 = bgn pr ps dn i + psz pr (pt.take (j + 1)) := by
            rw [List.take_add_one, hf]
            show _ = bgn pr ps dn i + psz pr (pt.take j ++ [f])
            rw [psz_snoc, efs, Int.add_assoc]
          rw [← ez]
          rfl
        · rw [upd_ne nFt.symm, upd_same, hpt]
          rfl
      · rintro σ' H5 ⟨y10, vs, rfl, s7, eF, fl⟩
        rw [nV_len] at fl
        exact ⟨_, _, _, vs, rfl, s7, eF, fl.next hpt⟩
    · rintro σ' H3 ⟨y5, y9, y10, vs, rfl, s4, eF, fl⟩
      rw [Int.toNat_natCast, hul] at fl
      have s34 := s23.trans s4
      refine ⟨_, rfl, _, rfl, D, rfl, ⟨_, SqL.of (s34 _ _ eD)⟩, fun M hM => ?_⟩
      refine lc_listY (K := K) (a := D) (xs := bs.map V.ref) (fun i H' => Same H3 H' ∧ H' M = some (.lst (((List.range i).map fun k => bgn pr ps dn k + psz pr (ps[k]?.getD [])).map V.int))) ⟨Same.new hM, upd_same⟩ (fun i H' _ e => SqL.of (e.1 _ _ (s34 _ _ eD))) ?_ ?_
      · rintro i x H4 hix ⟨s5, e5⟩
        have hi : i < ps.length := by
          have := (List.getElem?_eq_some_iff.mp hix).1
          rw [List.length_map, hbl] at this
          exact this
        have hdl := hdn.len i hi
        obtain ⟨db, hdb, hdb1, ndb⟩ := dl i hi
        obtain rfl : x = .ref db := Option.some.inj (hix.symm.trans hdb)
        have hdb5 := s5 _ _ (s34 _ _ hdb1)
        refine ⟨rfl, _, rfl, db, rfl, ⟨_, SqL.of hdb5⟩, fun C hC => ?_⟩
        refine lc_listY (K := K) (a := db) (xs := nV (dn i ++ [i])) (fun j H' => Same H4 H' ∧ H' C = some (.lst ((((dn i ++ [i]).take j).map fun y => psz pr (ps[y]?.getD [])).map V.int))) ⟨Same.new hC, upd_same⟩ (fun j H' _ e => SqL.of (e.1 _ _ hdb5)) ?_ ?_
        · rintro j x H5 hj ⟨s6, e6⟩
          obtain ⟨y, hy, rfl⟩ := nV_int hj
          have hjl := (List.getElem?_eq_some_iff.mp hy).1
          have hyl : y < ps.length := by
            rcases List.mem_append.mp (List.mem_of_getElem? hy) with h | h
            · exact hdn.lt i hi y h
            · rw [List.mem_singleton.mp h]
              exact hi
          refine ⟨rfl, _, rfl, _, rfl, Z, _, _, _, rfl, rfl, SqL.of (s6 _ _ (s5 _ _ (s4 _ _ eZ))), atI_nat (sz y hyl), _, e6, sm _ (by rw [List.length_map, List.length_map, List.length_take, List.length_append, List.length_singleton]; omega), Ov.Same.updn s6 hC, ?_⟩
          rw [upd_same, List.take_add_one, hy, List.map_append, List.map_append]
          rfl
        · rintro H5 ⟨s6, e6⟩
          rw [nV_len, List.take_length] at e6
          refine ⟨C, _, rfl, SqL.of e6, _, s6 _ _ e5, sm _ (by rw [List.length_map, List.length_map, List.length_range]; omega), Ov.Same.updn (s5.trans s6) hM, ?_⟩
          rw [upd_same, bgn_psz, List.range_succ, List.map_append, List.map_append]
          rfl
      · rintro H4 ⟨s5, e5⟩
        rw [List.length_map, hbl] at e5
        refine ⟨M, _, rfl, SqL.of e5, by rw [List.length_map, List.length_range]; omega, fun m hm hle => ⟨sml 2, fun r hr2 => ?_⟩⟩
        have s6 := s5.trans (Same.new (o := .tup [.ref F, .int m]) hr2)
        refine q _ r F vs m (s1.trans (s34.trans s6)) (Same.free s13 hF) upd_same (s6 _ _ eF) (fl.mono fun i j x ⟨t, d, e, h1, h2, h3⟩ => ⟨t, d, e, s6 _ _ h1, s6 _ _ (s4 _ _ h2), h3⟩) ⟨?_, fun i pt hpt => ?_⟩
        · obtain ⟨k, hk, rfl⟩ := List.mem_map.mp hm
          have hk := List.mem_range.mp hk
          exact ⟨k, ps[k], List.getElem?_eq_getElem hk, by rw [List.getElem?_eq_getElem hk]; rfl⟩
        · have hi := (List.getElem?_eq_some_iff.mp hpt).1
          refine hle _ (List.mem_map.mpr ⟨i, List.mem_range.mpr hi, ?_⟩)
          rw [hpt]
          rfl
theorem ok_law_laid (T : Txt w K mg) : FnOk P w K mg base CX0 1 (He.ga K "_law_laid") (fdOf K d_law_laid) ["_law_program_here", "_law_tree_here"] spLaid := by
  have G := ok_law_laidN (P := P) (base := base) T
  have z : ∀ vs H Q E, spLaid vs H Q E → spLaidN vs H Q E := fun vs H Q E ⟨v, t, pr, ps, st, dn, e, hpre, hdn, q⟩ => ⟨v, t, pr, ps, st, dn, e, hpre, hdn, fun H' r fl us m s _ hr hf fill far => q H' _ s ⟨r, fl, us, m, rfl, hr, hf, fill.mono fun i j x ⟨t, dl, e, h1, h2, _⟩ => ⟨t, dl, e, h1, h2⟩, far⟩⟩
  exact ⟨fun vs H Q E h => G.len vs H Q E (z _ _ _ _ h), fun A outer s H args us vs Q E h1 h2 h3 h4 h => G.run A outer s H args us vs Q E h1 h2 h3 h4 (z _ _ _ _ h)⟩
end
end K16

namespace K16
open PySem PySem.Spec PyProof.Rows L2 Ov
section
variable {P : Program} {w : World} {K : PySem.W.Frag} {mg : Str → Option Value} {base : Heap}
def osc_cost1 : Scope := { kind := .function, names := [(".0", .local), ("_law_part", .local), ("sum", .globalImplicit), ("_law_program_here", .cell)], isGenerator := false, isCoroutine := false }
theorem sc_law_cost : FnScope ["_law_program_here", "_law_tree_here", "_law_trace", "_law_laid_here", "_law_sizes", "_law_begins", "_law_lies", "_law_found", "_law_function", "_law_part", "_law_cells", "_law_one", "_law_cell"] ["_law_program_here", "_law_tree_here", "_law_trace"] (defScope s_law_cost) := ⟨rfl, rfl, rfl, by decide +kernel, rfl, by decide +kernel, by decide +kernel⟩
-- 0 _law_program_here, 1 _law_tree_here, 2 _law_trace, 3 _law_laid_here, 4 _law_sizes, 5 _law_begins, 6 _law_lies, 7 _law_found, 8 _law_function, 9 _law_part, 10 _law_cells, 11 _law_one, 12 _law_cell
theorem ok_law_cost (T : Txt w K mg) : FnOk P w K mg base CX0 3 (He.ga K "_law_cost") (fdOf K d_law_cost) ["_law_program_here", "_law_tree_here", "_law_trace"] spLawCost := by
  have G_law_laid := ok_law_laid (P := P) (base := base) T
  refine T.F_law_cost.ok sc_law_cost (fun vs H Q E h => ?_) (fun cdv A outer s H vs Q E hr h => ?_)
  · obtain ⟨v, t, pr, ps, st, dn, b, ns, rfl, _⟩ := h
    rfl
  obtain ⟨v, t, pr, ps, st, dn, tb, ns, rfl, hpre, hdn, htb, hnl, hns, q⟩ := h
  refine ⟨_, PSs.nox (pss_cons (ps_set (i := 3) sc_law_cost.nd rfl (by first | exact Or.inl rfl | exact Or.inr rfl) (pe_ix (r := rIxT K) ix_tup (pe_call G_law_laid (hr.mono (by omega)) (by rfl) T.g_law_laid T.kp_law_laid T.b_law_laid .nil pass0 (pa_cons (pv 0) (pa_cons (pv 1) pa_nil))) pe_int (fun _ _ => rfl)))
      (pss_cons (ps_setLc (i := 4) (own := [("_law_part", 9)]) rfl sc_law_cost.nd rfl rfl (sw_true rfl rfl rfl (by decide +kernel)) (Ov.pi_tupK (K := K) rfl (pe_ix (r := rIxT K) ix_tup (pv 1) pe_int (fun _ _ => rfl))) (by first | exact blkOk_by (own := [("_law_part", 9)]) (N := ["_law_program_here", "_law_tree_here", "_law_trace", "_law_laid_here", "_law_sizes", "_law_begins", "_law_lies", "_law_found", "_law_function", "_law_part", "_law_cells", "_law_one", "_law_cell"]) (sc := defScope s_law_cost) (by decide +kernel) | exact blkOk_by (own := [("_law_part", 9)]) (N := ["_law_program_here", "_law_tree_here", "_law_trace", "_law_laid_here", "_law_sizes", "_law_begins", "_law_lies", "_law_found", "_law_function", "_law_part", "_law_cells", "_law_one", "_law_cell"]) (sc := osc_cost1) (by decide +kernel)) (fun _ _ _ _ _ => (pg_name (i := 9) sc_law_cost.nd rfl (by first | exact Or.inl rfl | exact Or.inr rfl))) (fun _ _ _ _ _ => pts_nil) (fun _ _ _ _ _ => (pe_callB (r := rSum K) (cr_sum rfl) (by rfl) T.z_sum (by decide +kernel) (pa_cons (pe_lc (own := [("_law_one", 11)]) rfl sc_law_cost.nd (Ov.pi_tupK (K := K) rfl (pv 9)) (by first | exact blkOk_by (own := [("_law_one", 11)]) (N := ["_law_program_here", "_law_tree_here", "_law_trace", "_law_laid_here", "_law_sizes", "_law_begins", "_law_lies", "_law_found", "_law_function", "_law_part", "_law_cells", "_law_one", "_law_cell"]) (sc := defScope s_law_cost) (by decide +kernel) | exact blkOk_by (own := [("_law_one", 11)]) (N := ["_law_program_here", "_law_tree_here", "_law_trace", "_law_laid_here", "_law_sizes", "_law_begins", "_law_lies", "_law_found", "_law_function", "_law_part", "_law_cells", "_law_one", "_law_cell"]) (sc := osc_cost1) (by decide +kernel)) (fun _ _ _ _ _ => (pg_name (i := 11) sc_law_cost.nd rfl (by first | exact Or.inl rfl | exact Or.inr rfl))) (fun _ _ _ _ _ => pts_nil) (fun _ _ _ _ _ => (pe_ix (r := rIxT K) ix_tup (pe_ix (r := rIxT K) ix_tup (pv 0) (pv 11) (fun _ _ => rfl)) pe_int (fun _ _ => rfl)))) pa_nil))))
      (pss_cons (ps_setLc (i := 5) (own := [("_law_part", 9)]) rfl sc_law_cost.nd rfl rfl (sw_true rfl rfl rfl (by decide +kernel)) (Ov.pi_tupK (K := K) rfl (pe_ix (r := rIxT K) ix_tup (pv 1) pe_int (fun _ _ => rfl))) (by first | exact blkOk_by (own := [("_law_part", 9)]) (N := ["_law_program_here", "_law_tree_here", "_law_trace", "_law_laid_here", "_law_sizes", "_law_begins", "_law_lies", "_law_found", "_law_function", "_law_part", "_law_cells", "_law_one", "_law_cell"]) (sc := defScope s_law_cost) (by decide +kernel) | exact blkOk_by (own := [("_law_part", 9)]) (N := ["_law_program_here", "_law_tree_here", "_law_trace", "_law_laid_here", "_law_sizes", "_law_begins", "_law_lies", "_law_found", "_law_function", "_law_part", "_law_cells", "_law_one", "_law_cell"]) (sc := osc_cost1) (by decide +kernel)) (fun _ _ _ _ _ => (pg_name (i := 9) sc_law_cost.nd rfl (by first | exact Or.inl rfl | exact Or.inr rfl))) (fun _ _ _ _ _ => pts_nil) (fun _ _ _ _ _ => (pe_ix (r := rIxT K) ix_tup (pe_ix (r := rIxL K) ix_list (pv 3) (pe_ix (r := rIxT K) ix_tup (pv 9) pe_int (fun _ _ => rfl)) (fun _ _ => rfl)) pe_int (fun _ _ => rfl))))
      (pss_cons (ps_set (i := 6) sc_law_cost.nd rfl (by first | exact Or.inl rfl | exact Or.inr rfl) pe_dnewK)
      (pss_cons (ps_set (i := 7) sc_law_cost.nd rfl (by first | exact Or.inl rfl | exact Or.inr rfl) pe_int)
      (pss_cons (ps_for PassesOwn.never rfl (Ov.pi_listK (K := K) rfl (pv 2)) (pg_name (i := 8) sc_law_cost.nd rfl (by first | exact Or.inl rfl | exact Or.inr rfl)) (pss_one (ps_for PassesOwn.never rfl (Ov.pi_listK (K := K) rfl (pe_ix (r := rIxT K) ix_tup (pe_ix (r := rIxL K) ix_list (pv 3) (pv 8) (fun _ _ => rfl)) pe_int (fun _ _ => rfl))) (pg_name (i := 9) sc_law_cost.nd rfl (by first | exact Or.inl rfl | exact Or.inr rfl)) (pss_cons (ps_set (i := 10) sc_law_cost.nd rfl (by first | exact Or.inl rfl | exact Or.inr rfl) (pe_listRg rfl (by rfl) T.z_list (prg_2 (by rfl) T.z_range (pe_ix (r := rIxL K) ix_list (pv 5) (pv 9) (fun _ _ => rfl)) (pe_op op_add (pe_ix (r := rIxL K) ix_list (pv 5) (pv 9) (fun _ _ => rfl)) (pe_ix (r := rIxL K) ix_list (pv 4) (pv 9) (fun _ _ => rfl))))))
      (pss_one (ps_if (pt_cmpR (r := rNeD K) (op_neD hr.units) (pe_lc (own := [("_law_cell", 12)]) rfl sc_law_cost.nd (Ov.pi_listK (K := K) rfl (pv 10)) (by first | exact blkOk_by (own := [("_law_cell", 12)]) (N := ["_law_program_here", "_law_tree_here", "_law_trace", "_law_laid_here", "_law_sizes", "_law_begins", "_law_lies", "_law_found", "_law_function", "_law_part", "_law_cells", "_law_one", "_law_cell"]) (sc := defScope s_law_cost) (by decide +kernel) | exact blkOk_by (own := [("_law_cell", 12)]) (N := ["_law_program_here", "_law_tree_here", "_law_trace", "_law_laid_here", "_law_sizes", "_law_begins", "_law_lies", "_law_found", "_law_function", "_law_part", "_law_cells", "_law_one", "_law_cell"]) (sc := osc_cost1) (by decide +kernel)) (fun _ _ _ _ _ => (pg_name (i := 12) sc_law_cost.nd rfl (by first | exact Or.inl rfl | exact Or.inr rfl))) (fun _ _ _ _ _ => pts_one (pt_cmpR op_ne (pe_dget2 (hu_of hr) (pv 6) (pv 12) (pe_un un_neg pe_int) ⟨rfl, rfl, rfl, rfl⟩) (pv 9) (nomark _))) (fun _ _ _ _ _ => (pv 12))) (pe_lst pa_nil) (nomark _)) (pss_cons (ps_set (i := 7) sc_law_cost.nd rfl (by first | exact Or.inl rfl | exact Or.inr rfl) (pe_op op_add (pv 7) (pe_callB (r := Evl.rLenS K) call_len_seq (by rfl) T.z_len PySem.boot_len (pa_cons (pv 10) pa_nil))))
      (pss_one (ps_expr (Ov.pe_bmK (K := K) rfl PySem.F.plainAttrs_dict PySem.F.slot_dict_update PySem.F.type_dict_update Ov.mt_dupdN (pv 6) (pa_cons (pe_callTy (call_dictP rfl) (by rfl) T.z_dict (by decide +kernel) (pa_cons (pe_lc (own := [("_law_cell", 12)]) rfl sc_law_cost.nd (Ov.pi_listK (K := K) rfl (pv 10)) (by first | exact blkOk_by (own := [("_law_cell", 12)]) (N := ["_law_program_here", "_law_tree_here", "_law_trace", "_law_laid_here", "_law_sizes", "_law_begins", "_law_lies", "_law_found", "_law_function", "_law_part", "_law_cells", "_law_one", "_law_cell"]) (sc := defScope s_law_cost) (by decide +kernel) | exact blkOk_by (own := [("_law_cell", 12)]) (N := ["_law_program_here", "_law_tree_here", "_law_trace", "_law_laid_here", "_law_sizes", "_law_begins", "_law_lies", "_law_found", "_law_function", "_law_part", "_law_cells", "_law_one", "_law_cell"]) (sc := osc_cost1) (by decide +kernel)) (fun _ _ _ _ _ => (pg_name (i := 12) sc_law_cost.nd rfl (by first | exact Or.inl rfl | exact Or.inr rfl))) (fun _ _ _ _ _ => pts_nil) (fun _ _ _ _ _ => (pe_tup (pa_cons (pv 12) (pa_cons (pv 9) pa_nil))))) pa_nil)) pa_nil))))) pss_nil))))))
      (pss_one (ps_ret (pv 7))))))))), ?_⟩
  obtain ⟨⟨pa, vp, rfl, hpa, hpf⟩, hok, ⟨ta, qa, sa, us, rfl, hta, hqa, hus, hsa⟩, htr⟩ := id hpre
  have hpl := Paired.length hpf
  have hul := Paired.length hus
  have l8 := hok.l8
  have hc := htr.p.count
  have hp := htr.p
  refine ⟨_, rfl, _, rfl, .ref pa, .ref ta, pr, ps, st, dn, rfl, hpre, hdn, fun H1 x s1 hx => ?_⟩
  obtain ⟨r, fl, vs, m, rfl, er, efl, hfill, hfar⟩ := hx
  obtain ⟨hvl, hfl⟩ := hfill.all
  refine ⟨r, _, 0, _, rfl, rfl, SqT.of er, atI_nat (j := 0) rfl, ?_⟩
  obtain ⟨cs, hcs⟩ := cells_ex (pr := pr) hp (dn := dn)
  have hlk := hall_ok hok htr hdn hcs hfar
  obtain ⟨hm1, hm64⟩ := far_le hok htr hdn hfar
  have mk := marks_lays (cs := cs) hp
  show gName 3 (V.ref fl) [some (.ref pa), some (.ref ta), some (.ref tb), none, none, none, none, none, none, none, none, none, none] _ _
  -- sizes
  refine ⟨_, rfl, ta, _, 0, _, rfl, rfl, SqT.of (s1 _ _ hta), atI_nat (j := 0) rfl, qa, rfl, ⟨us, SqT.of (s1 _ _ hqa)⟩, fun Z hZ => ?_⟩
  refine lc_tupY (K := K) (a := qa) (xs := us) (fun i H' => Same H1 H' ∧ H' Z = some (.lst (((ps.take i).map (psz pr)).map V.int))) ⟨Same.new hZ, upd_same⟩ (fun i H' _ e => SqT.of (e.1 _ _ (s1 _ _ hqa))) ?_ ?_
  · rintro i x H2 hi ⟨s2, e2⟩
    obtain ⟨p, hpi, ⟨b, rfl, hb1⟩⟩ := Paired.get2 hus hi
    have hm := List.mem_of_getElem? hpi
    have hil := (List.getElem?_eq_some_iff.mp hi).1
    have hpn := htr.p.plen hm
    have s12 := s1.trans s2
    refine ⟨rfl, _, rfl, b, rfl, ⟨_, SqT.of (s12 _ _ hb1)⟩, fun C hC => ?_⟩
    refine lc_tupY (K := K) (a := b) (xs := nV p) (fun j H' => Same H2 H' ∧ H' C = some (.lst (((p.take j).map (fsz pr)).map V.int))) ⟨Same.new hC, upd_same⟩ (fun j H' _ e => SqT.of (e.1 _ _ (s12 _ _ hb1))) ?_ ?_
    · rintro j x H3 hj ⟨s3, e3⟩
      obtain ⟨y, hy, rfl⟩ := nV_int hj
      have hyl := htr.p.lt hm (List.mem_of_getElem? hy)
      have hjl := (List.getElem?_eq_some_iff.mp hy).1
      obtain ⟨f, hf⟩ : ∃ f, pr[y]? = some f := ⟨_, List.getElem?_eq_getElem hyl⟩
      obtain ⟨u, hu, ⟨c, wv, rfl, hc2, _⟩⟩ := Paired.got hpf hf
      have efs : fsz pr y = f.1 := by unfold fsz; rw [hf]; rfl
      refine ⟨rfl, _, rfl, _, rfl, pa, _, _, _, rfl, rfl, SqT.of (s3 _ _ (s12 _ _ hpa)), atI_nat hu, c, _, 0, _, rfl, rfl, SqT.of (s3 _ _ (s12 _ _ hc2)), atI_nat (j := 0) rfl, _, e3, sm _ (by rw [List.length_map, List.length_map, List.length_take]; omega), Ov.Same.updn s3 hC, ?_⟩
      rw [upd_same, List.take_add_one, hy, List.map_append, List.map_append]
      show some (HO.lst (_ ++ [V.int f.1])) = some (HO.lst (_ ++ [V.int (fsz pr y)]))
      rw [efs]
    · rintro H3 ⟨s3, e3⟩
      rw [nV_len, List.take_length] at e3
      refine ⟨C, _, rfl, SqL.of e3, _, s3 _ _ e2, sm _ (by rw [List.length_map, List.length_map, List.length_take]; omega), Ov.Same.updn (s2.trans s3) hZ, ?_⟩
      rw [upd_same, List.take_add_one, hpi, List.map_append, List.map_append]
      rfl
  rintro H2 ⟨s2, e2⟩
  rw [hul, List.take_length] at e2
  have s12 := s1.trans s2
  show gName 4 (V.ref Z) [some (.ref pa), some (.ref ta), some (.ref tb), some (.ref fl), none, none, none, none, none, none, none, none, none] _ _
  -- where they begin
  refine ⟨_, rfl, ta, _, 0, _, rfl, rfl, SqT.of (s12 _ _ hta), atI_nat (j := 0) rfl, qa, rfl, ⟨us, SqT.of (s12 _ _ hqa)⟩, fun B hB => ?_⟩
  refine lc_tupY (K := K) (a := qa) (xs := us) (fun i H' => Same H2 H' ∧ H' B = some (.lst (((List.range i).map (bgn pr ps dn)).map V.int))) ⟨Same.new hB, upd_same⟩ (fun i H' _ e => SqT.of (e.1 _ _ (s12 _ _ hqa))) ?_ ?_
  · rintro i x H3 hi ⟨s3, e3⟩
    obtain ⟨p, hpi, ⟨b, rfl, hb1⟩⟩ := Paired.get2 hus hi
    have hm := List.mem_of_getElem? hpi
    have hil := (List.getElem?_eq_some_iff.mp hi).1
    obtain ⟨f, hf⟩ : ∃ f, p[0]? = some f := ⟨_, List.getElem?_eq_getElem (List.length_pos_iff.mpr (hp.ne p hm))⟩
    obtain ⟨xv, hxv, tt, dl, rfl, ett, edl⟩ := hfl i p 0 f hpi hf
    refine ⟨rfl, _, rfl, _, rfl, b, _, 0, _, rfl, rfl, SqT.of (s3 _ _ (s12 _ _ hb1)), atI_nat (j := 0) (nV_get hf), fl, _, _, _, rfl, rfl, SqL.of (s3 _ _ (s2 _ _ efl)), atI_nat hxv, tt, _, 0, _, rfl, rfl, SqT.of (s3 _ _ (s2 _ _ ett)), atI_nat (j := 0) rfl, _, e3, sm _ (by rw [List.length_map, List.length_map, List.length_range]; omega), Ov.Same.updn s3 hB, ?_⟩
    rw [upd_same, List.range_succ, List.map_append, List.map_append, List.take_zero]
    show some (HO.lst (_ ++ [V.int (bgn pr ps dn i + 0)])) = some (HO.lst (_ ++ [V.int (bgn pr ps dn i)]))
    rw [Int.add_zero]
  rintro H3 ⟨s3, e3⟩
  rw [hul] at e3
  have s13 := s12.trans s3
  have s23 := s2.trans s3
  have eZ := s3 _ _ e2
  have efl3 := s23 _ _ efl
  show gName 5 (V.ref B) [some (.ref pa), some (.ref ta), some (.ref tb), some (.ref fl), some (.ref Z), none, none, none, none, none, none, none, none] _ _
  have way : ∀ {f : Nat}, f < pr.length → ∃ tt dl x, vs[f]? = some (.ref tt) ∧ H3 tt = some (.tup [.int x, .ref dl]) ∧ H3 dl = some (.lst (nV (wayF ps dn f))) := fun {f} hf => by
    obtain ⟨i, p, j, h1, h2⟩ := hp.stands hf
    obtain ⟨xv, hxv, tt, dl, rfl, ett, edl⟩ := hfl i p j f h1 h2
    refine ⟨tt, dl, _, hxv, s23 _ _ ett, ?_⟩
    unfold wayF
    rw [prt_eq hp h1 (List.mem_of_getElem? h2)]
    exact s23 _ _ edl
  refine fun d hd => ?_
  have nZ : Z ≠ d := ne_of_none eZ hd
  have nB : B ≠ d := ne_of_none e3 hd
  have nF : fl ≠ d := ne_of_none efl3 hd
  have hd0 : H d = none := Same.free s13 hd
  have htb3 := s13 _ _ htb
  have nT : tb ≠ d := ne_of_none htb3 hd
  show gName 6 (V.ref d) [some (.ref pa), some (.ref ta), some (.ref tb), some (.ref fl), some (.ref Z), some (.ref B), none, none, none, none, none, none, none] _ _
  -- what stays: all but the dict
  refine ⟨_, rfl, tb, rfl, ⟨_, SqL.of (by rw [upd_ne nT]; exact htb3)⟩, ?_⟩
  have but0 : ∀ a o, a ≠ d → H3 a = some o → upd H3 d (.dK []) a = some o := fun a o n e => by rw [upd_ne n]; exact e
  refine for_it (walk_list (K := K) (a := tb) (xs := nV ns)) (fun i σ' H' => ∃ (y8 y9 y10 : Option V) (kvs : List (Key × V)) (L : Int → Int), σ' = [some (.ref pa), some (.ref ta), some (.ref tb), some (.ref fl), some (.ref Z), some (.ref B), some (.ref d), some (.int ((tsum (waysF pr.length ps dn) (laysF pr cs ps) (List.replicate 64 none, 0) (ns.take i)).2 : Nat)), y8, y9, y10, none, none] ∧ (∀ a o, a ≠ d → H3 a = some o → H' a = some o) ∧ H' d = some (.dK kvs) ∧ DL kvs L ∧ LRel (laysF pr cs ps) L (tsum (waysF pr.length ps dn) (laysF pr cs ps) (List.replicate 64 none, 0) (ns.take i)).1 ∧ kvs.length ≤ 600 * i) ⟨none, none, none, [], _, rfl, but0, upd_same, DL.nil, LRel.new _ _, Nat.le_refl _⟩ (fun i σ' H' _ ⟨_, _, _, _, _, _, b, _⟩ => SqL.of (b _ _ nT htb3)) ?_ ?_
  · rintro i x σ' H4 H4' hi ⟨y8, y9, y10, kvs, L, rfl, b4, e4, hDL, hLR, hkl⟩ ⟨rfl, hx⟩
    obtain ⟨f, hf, rfl⟩ := nV_int hx
    have hfl2 := hns f (List.mem_of_getElem? hf)
    have hil := (List.getElem?_eq_some_iff.mp hf).1
    obtain ⟨tt, dl, xx, hv, ett, edl⟩ := way hfl2
    have ntt : tt ≠ d := ne_of_none ett hd
    have ndl : dl ≠ d := ne_of_none edl hd
    have eway : (waysF pr.length ps dn)[f]?.getD [] = wayF ps dn f := by
      unfold waysF
      rw [List.getElem?_map, List.getElem?_range hfl2]
      rfl
    rw [List.take_add_one, hf]
    have ets : tsum (waysF pr.length ps dn) (laysF pr cs ps) (List.replicate 64 none, 0) (ns.take i ++ [f]) = (wayF ps dn f).foldl (hstep (laysF pr cs ps)) (tsum (waysF pr.length ps dn) (laysF pr cs ps) (List.replicate 64 none, 0) (ns.take i)) := by
      rw [tsum_snoc, tstep_seq hlk, eway]
    show gName 8 _ _ _ _
    refine ⟨_, rfl, _, rfl, fl, _, _, _, rfl, rfl, SqL.of (b4 _ _ nF efl3), atI_nat hv, tt, _, 1, _, rfl, rfl, SqT.of (b4 _ _ ntt ett), atI_nat (j := 1) rfl, dl, rfl, ⟨_, SqL.of (b4 _ _ ndl edl)⟩, ?_⟩
    show ∃ W, _
    generalize hS0 : tsum (waysF pr.length ps dn) (laysF pr cs ps) (List.replicate 64 none, 0) (ns.take i) = S0 at ets hLR ⊢
    have hw64 : ∀ q ∈ wayF ps dn f, q < ps.length := fun q hq => by
      obtain ⟨i2, p2, j2, h1, h2⟩ := hp.stands hfl2
      have plt : prt ps f < ps.length := by
        rw [prt_eq hp h1 (List.mem_of_getElem? h2)]
        exact (List.getElem?_eq_some_iff.mp h1).1
      unfold wayF at hq
      rcases List.mem_append.mp hq with z | z
      · exact hdn.lt _ plt q z
      · rw [List.mem_singleton.mp z]
        exact plt
    have hwl : (wayF ps dn f).length ≤ 9 := by
      obtain ⟨i2, p2, j2, h1, h2⟩ := hp.stands hfl2
      have plt : prt ps f < ps.length := by
        rw [prt_eq hp h1 (List.mem_of_getElem? h2)]
        exact (List.getElem?_eq_some_iff.mp h1).1
      unfold wayF
      rw [List.length_append, List.length_singleton]
      have := hdn.len _ plt
      omega
    have hS0l : S0.1.length = 64 := by
      rw [← hS0, tsum_len, List.length_replicate]
    refine for_it (walk_list (K := K) (a := dl) (xs := nV (wayF ps dn f))) (fun j σ' H' => ∃ (y9 y10 : Option V) (kvs : List (Key × V)) (L : Int → Int) (S : List (Option Cnt) × Nat), S = ((wayF ps dn f).take j).foldl (hstep (laysF pr cs ps)) S0 ∧ S.1.length = 64 ∧ σ' = [some (.ref pa), some (.ref ta), some (.ref tb), some (.ref fl), some (.ref Z), some (.ref B), some (.ref d), some (.int (S.2 : Nat)), some (.int (f : Int)), y9, y10, none, none] ∧ (∀ a o, a ≠ d → H3 a = some o → H' a = some o) ∧ H' d = some (.dK kvs) ∧ DL kvs L ∧ LRel (laysF pr cs ps) L S.1 ∧ kvs.length ≤ 600 * i + 64 * j) ⟨_, _, kvs, L, S0, rfl, hS0l, rfl, b4, e4, hDL, hLR, hkl⟩ (fun j σ' H' _ ⟨_, _, _, _, _, _, _, _, b, _⟩ => SqL.of (b _ _ ndl edl)) ?_ ?_
    · rintro j x σ' H5 H5' hj ⟨y9, y10, kvs, L, S, hS, hSl, rfl, b5, e5, hDL, hLR, hkl⟩ ⟨rfl, hx⟩
      obtain ⟨qq, hqq, rfl⟩ := nV_int hx
      have hql := hw64 qq (List.mem_of_getElem? hqq)
      have hjl := (List.getElem?_eq_some_iff.mp hqq).1
      have eB5 := b5 _ _ nB e3
      have eZ5 := b5 _ _ nZ eZ
      have hBq : (((List.range ps.length).map (bgn pr ps dn)).map V.int)[qq]? = some (.int (bgn pr ps dn qq)) := by
        rw [List.getElem?_map, List.getElem?_map, List.getElem?_range hql]
        rfl
      have hZq : ((ps.map (psz pr)).map V.int)[qq]? = some (.int (psz pr (ps[qq]?.getD []))) := by
        rw [List.getElem?_map, List.getElem?_map, List.getElem?_eq_getElem hql]
        rfl
      have hb0 := bgn_nn hok hp (dn := dn) (i := qq)
      have hcl := cellsI_rg hok hp hcs qq
      have hc64 := hlk.ln qq
      have hrgl : (psz pr (ps[qq]?.getD [])).toNat ≤ 64 ∧ 0 ≤ psz pr (ps[qq]?.getD []) := by
        have z := lay_len hok hp hcs (q := qq)
        omega
      refine ⟨_, rfl, _, rfl, B, _, _, _, rfl, rfl, SqL.of eB5, atI_nat hBq, _, rfl, _, rfl, B, _, _, _, rfl, rfl, SqL.of eB5, atI_nat hBq, _, rfl, _, rfl, Z, _, _, _, rfl, rfl, SqL.of eZ5, atI_nat hZq, _, _, rfl, rfl, ?_⟩
      have hbm : bgn pr ps dn qq + psz pr (ps[qq]?.getD []) ≤ 64 := by
        have e := List.getElem?_eq_getElem hql
        rw [e]
        exact Int.le_trans (hfar.2 qq _ e) hm64
      refine ⟨_, _, rfl, rfl, RgOk.of_le (by omega) (by omega) (by omega) (by omega), fun c10 hc10 => ?_⟩
      rw [← hcl]
      have hcn := cellsI_nd hlk qq
      have hcln : (cellsI (laysF pr cs ps) qq).length = (lyr (laysF pr cs ps) qq).length := by unfold cellsI; rw [List.length_map]
      have hhas := hLR.has qq
      have ndc : d ≠ c10 := ne_of_none e5 hc10
      have wa := Same.new (o := .lst ((cellsI (laysF pr cs ps) qq).map V.int)) hc10
      have e5a := wa _ _ e5
      have b5a : ∀ a o, a ≠ d → H3 a = some o → upd H5' c10 (.lst ((cellsI (laysF pr cs ps) qq).map V.int)) a = some o := fun a o n e => wa _ _ (b5 a o n e)
      have ec10 : upd H5' c10 (.lst ((cellsI (laysF pr cs ps) qq).map V.int)) c10 = some (.lst ((cellsI (laysF pr cs ps) qq).map V.int)) := upd_same
      generalize upd H5' c10 (.lst ((cellsI (laysF pr cs ps) qq).map V.int)) = H6 at e5a b5a ec10 ⊢
      show gName 10 (V.ref c10) [some (.ref pa), some (.ref ta), some (.ref tb), some (.ref fl), some (.ref Z), some (.ref B), some (.ref d), some (.int (S.2 : Nat)), some (.int (f : Int)), some (.int (qq : Int)), y10, none, none] _ _
      refine ⟨_, rfl, c10, rfl, ⟨_, SqL.of ec10⟩, fun G hG => ?_⟩
      refine lc_list (K := K) (a := c10) (xs := (cellsI (laysF pr cs ps) qq).map V.int) (fun k H' => Same H6 H' ∧ H' G = some (.lst (((((cellsI (laysF pr cs ps) qq).take k).filter fun c => !decide (L c = (qq : Int)))).map V.int))) ⟨Same.new hG, upd_same⟩ (fun k H' _ ⟨s, _⟩ => SqL.of (s _ _ ec10)) ?_ ?_
      · rintro k x H7 hk ⟨s7, e7⟩
        obtain ⟨c, hck, rfl⟩ := ints_int hk
        have hkl2 := (List.getElem?_eq_some_iff.mp hck).1
        have hfl3 : (((cellsI (laysF pr cs ps) qq).take k).filter fun c => !decide (L c = (qq : Int))).length ≤ k := Nat.le_trans (List.length_filter_le _ _) (by rw [List.length_take]; omega)
        refine ⟨rfl, _, rfl, d, rfl, .inl ⟨kvs, .inl (s7 _ _ e5a)⟩, _, rfl, 1, rfl, valV kvs (.inl c), .inl ⟨kvs, .inl c, .inl (s7 _ _ e5a), rfl, rfl⟩, ?_⟩
        have hz : ∀ zz, zz = V.int (-1) → (valV kvs (.inl c)).getD zz = V.int (L c) := fun zz e => by rw [e]; exact hDL.get c
        rw [hz _ rfl]
        refine ⟨_, rfl, rfl, _, rfl, ?_⟩
        rw [List.take_add_one, hck, List.filter_append, show decide (V.int (L c) = V.int (qq : Int)) = decide (L c = (qq : Int)) from decide_eq_decide.mpr ⟨V.int.inj, congrArg V.int⟩]
        cases hb : decide (L c = (qq : Int)) with
        | true =>
          rw [show (some c).toList.filter (fun c => !decide (L c = (qq : Int))) = [] by
            show [c].filter _ = _
            rw [List.filter_cons_of_neg (by rw [hb]; exact Bool.false_ne_true)]
            rfl, List.append_nil]
          exact iteF ⟨s7, e7⟩
        | false =>
          rw [show (some c).toList.filter (fun c => !decide (L c = (qq : Int))) = [c] by
            show [c].filter _ = _
            rw [List.filter_cons_of_pos (by rw [hb]; rfl)]
            rfl]
          refine iteT ⟨_, rfl, _, e7, sm _ (by rw [List.length_map]; omega), Ov.Same.updn s7 hG, ?_⟩
          rw [upd_same, List.map_append]
          rfl
      rintro H7 ⟨s7, e7⟩
      rw [List.length_map, List.take_length] at e7
      refine ⟨sml 0, fun e0 he0 => ?_⟩
      have w0 := Same.new (o := .lst []) he0
      refine ⟨_, _, .lst (SqL.of (w0 _ _ e7)) (dpInts _), .lst (SqL.of upd_same) .nil, intsShaped _, by decide +kernel, ?_⟩
      rw [eqvNil]
      refine ⟨_, rfl, ?_⟩
      have s67 := s7.trans w0
      have e5b := s67 _ _ e5a
      have ec10b := s67 _ _ ec10
      have b5b : ∀ a o, a ≠ d → H3 a = some o → upd H7 e0 (.lst []) a = some o := fun a o n e => s67 _ _ (b5a a o n e)
      have hem : ((cellsI (laysF pr cs ps) qq).filter fun c => !decide (L c = (qq : Int))).isEmpty = Has S.1 (lyr (laysF pr cs ps) qq) := by
        rw [Bool.eq_iff_iff, hhas, List.isEmpty_iff, List.filter_eq_nil_iff]
        constructor
        · intro h c hc
          have := h c hc
          by_cases z : L c = (qq : Int)
          · exact z
          · rw [decide_eq_false z] at this
            exact absurd rfl this
        · intro h c hc
          rw [decide_eq_true (h c hc)]
          exact Bool.false_ne_true
      rw [hem]
      generalize upd H7 e0 (.lst []) = H8 at s67 e5b ec10b b5b ⊢
      have hnext : ((wayF ps dn f).take (j + 1)).foldl (hstep (laysF pr cs ps)) S0 = hstep (laysF pr cs ps) S qq := by
        rw [List.take_add_one, hqq, List.foldl_append, ← hS]
        rfl
      cases hH : Has S.1 (lyr (laysF pr cs ps) qq) with
      | true =>
        refine iteF ?_
        have e : hstep (laysF pr cs ps) S qq = S := by unfold hstep; rw [if_pos hH]
        exact ⟨_, _, kvs, L, S, by rw [hnext, e], hSl, rfl, b5b, e5b, hDL, hLR, by omega⟩
      | false =>
        refine iteT ?_
        have e : hstep (laysF pr cs ps) S qq = (brg S.1 (lyr (laysF pr cs ps) qq), S.2 + (lyr (laysF pr cs ps) qq).length) := by unfold hstep; rw [if_neg (by rw [hH]; exact Bool.false_ne_true)]
        refine ⟨_, rfl, _, rfl, c10, _, rfl, .inl (SqL.of ec10b), _, _, rfl, rfl, ?_⟩
        rw [List.length_map, hcln]
        show gName 7 (V.int _) [some (.ref pa), some (.ref ta), some (.ref tb), some (.ref fl), some (.ref Z), some (.ref B), some (.ref d), some (.int (S.2 : Nat)), some (.int (f : Int)), some (.int (qq : Int)), some (.ref c10), none, none] _ _
        refine ⟨_, rfl, .inr (.inr (.inl ⟨rfl, .inl ⟨_, e5b⟩⟩)), _, rfl, c10, rfl, ⟨_, SqL.of ec10b⟩, fun G2 hG2 => ?_⟩
        have ndG : d ≠ G2 := ne_of_none e5b hG2
        refine lc_listY (K := K) (a := c10) (xs := (cellsI (laysF pr cs ps) qq).map V.int) (fun k H' => ∃ pp : List Addr, Same H8 H' ∧ H' G2 = some (.lst (pp.map V.ref)) ∧ Paired (fun p (kv : Key × V) => H' p = some (.tup [kV kv.1, kv.2])) pp (liesK ((cellsI (laysF pr cs ps) qq).take k) (qq : Int))) ⟨[], Same.new hG2, upd_same, .nil⟩ (fun k H' _ ⟨_, s, _⟩ => SqL.of (s _ _ ec10b)) ?_ ?_
        · rintro k x H9 hk ⟨pp, s9, e9, hpp⟩
          obtain ⟨c, hck, rfl⟩ := ints_int hk
          have hkl2 := (List.getElem?_eq_some_iff.mp hck).1
          have hppl := Paired.length hpp
          unfold liesK at hppl
          rw [List.length_map, List.length_take] at hppl
          refine ⟨rfl, _, rfl, _, rfl, sml 2, fun p hpn => ?_⟩
          have wp := Same.new (o := .tup [V.int c, .int (qq : Int)]) hpn
          have e9p := wp _ _ e9
          have kG := Keep.updL (ys := pp.map V.ref ++ [.ref p]) e9p
          refine ⟨_, e9p, sm _ (by rw [List.length_map]; omega), pp ++ [p], Ov.Same.updn (s9.trans wp) hG2, by rw [upd_same, List.map_append]; rfl, ?_⟩
          rw [List.take_add_one, hck]
          unfold liesK
          rw [List.map_append]
          exact PySem.Paired.snoc (L2.Paired.mapP hpp fun _ _ z => kG _ _ (wp _ _ z)) (kG _ _ upd_same)
        rintro H9 ⟨pp, s9, e9, hpp⟩
        rw [List.length_map, List.take_length] at hpp
        refine ⟨G2, pp, liesK (cellsI (laysF pr cs ps) qq) (qq : Int), rfl, SqL.of e9, L2.Paired.mapP hpp fun _ _ z => SqT.of z, fun p hpn => ?_⟩
        rw [merge_lies hcn]
        have wp := Same.new (o := .dK (liesK (cellsI (laysF pr cs ps) qq) (qq : Int))) hpn
        have e5c := (s9.trans wp) _ _ e5b
        have ndp : d ≠ p := ne_of_none (s9 _ _ e5b) hpn
        have hll : (liesK (cellsI (laysF pr cs ps) qq) (qq : Int)).length ≤ 64 := by unfold liesK; rw [List.length_map, hcln]; exact hc64
        have hml := length_mergeK (liesK (cellsI (laysF pr cs ps) qq) (qq : Int)) kvs
        refine ⟨d, p, kvs, _, rfl, rfl, e5c, upd_same, ndp, by omega, ?_⟩
        refine ⟨_, _, _, _, hstep (laysF pr cs ps) S qq, hnext.symm, by rw [e]; show (brg S.1 _).length = 64; rw [brg_len, hSl], by rw [e]; rfl, fun a o n ea => ?_, upd_same, hDL.put (by omega), by rw [e]; exact LRel.put mk hlk (by omega) hLR qq, by omega⟩
        rw [upd_ne n]
        exact (s9.trans wp) _ _ (b5b a o n ea)
    rintro σ' H5 ⟨y9, y10, kvs, L, S, hS, hSl, rfl, b5, e5, hDL, hLR, hkl⟩
    rw [nV_len, List.take_length] at hS
    rw [nV_len] at hkl
    have e2s : (tsum (waysF pr.length ps dn) (laysF pr cs ps) (List.replicate 64 none, 0) (ns.take i ++ (some f).toList)) = S := by
      show tsum _ _ _ (ns.take i ++ [f]) = S
      rw [ets, hS]
    rw [e2s]
    exact ⟨some (.int (f : Int)), y9, y10, kvs, L, rfl, b5, e5, hDL, hLR, by omega⟩
  rintro σ' H4 ⟨y8, y9, y10, kvs, L, rfl, b4, e4, _⟩
  rw [nV_len, List.take_length]
  exact ⟨_, rfl, q _ cs m (fun a o e => b4 a o (fun z => by rw [z, hd0] at e; cases e) (s13 _ _ e)) hcs hfar⟩
end
end K16

namespace K16
open PySem PySem.Spec PyProof.Rows L2 Ov
section
variable {P : Program} {w : World} {K : PySem.W.Frag} {mg : Str → Option Value} {base : Heap}
theorem sc_law_due : FnScope ["_law_program_here", "_law_room", "_law_trace", "_law_best", "_law_forests_here", "_law_parts_here", "_law_stands", "_law_tree_here", "_law_one", "_law_many"] ["_law_program_here", "_law_room", "_law_trace"] (defScope s_law_due) := ⟨rfl, rfl, rfl, by decide +kernel, rfl, by decide +kernel, by decide +kernel⟩
-- 0 _law_program_here, 1 _law_room, 2 _law_trace, 3 _law_best, 4 _law_forests_here, 5 _law_parts_here, 6 _law_stands, 7 _law_tree_here, 8 _law_one, 9 _law_many
theorem ok_law_due (T : Txt w K mg) : FnOk P w K mg base CX0 4 (He.ga K "_law_due") (fdOf K d_law_due) ["_law_program_here", "_law_room", "_law_trace"] spLawDue := by
  have G_law_forests := ok_law_forests (P := P) (base := base) T
  have G_law_parts := ok_law_parts (P := P) (base := base) T
  have G_law_laid := ok_law_laid (P := P) (base := base) T
  have G_law_cost := ok_law_cost (P := P) (base := base) T
  refine T.F_law_due.ok sc_law_due (fun vs H Q E h => ?_) (fun cdv A outer s H vs Q E hr h => ?_)
  · obtain ⟨v, pr, z, b, ns, rfl, _⟩ := h
    rfl
  obtain ⟨v, pr, z, tb, ns, rfl, hpr, hok, h5, htb, hnl, hns, q⟩ := h
  refine ⟨_, PSs.nox (pss_cons (ps_set (i := 3) sc_law_due.nd rfl (by first | exact Or.inl rfl | exact Or.inr rfl) pe_non)
      (pss_cons (ps_setLc (i := 4) (own := [("_law_many", 9)]) rfl sc_law_due.nd rfl rfl (sw_true rfl rfl rfl (by decide +kernel)) (pi_range1 (by rfl) T.z_range (pa_cons (pe_op op_add (pe_callB (r := Evl.rLenS K) call_len_seq (by rfl) T.z_len PySem.boot_len (pa_cons (pv 0) pa_nil)) pe_int) pa_nil)) (blkOk_by (own := [("_law_many", 9)]) (N := ["_law_program_here", "_law_room", "_law_trace", "_law_best", "_law_forests_here", "_law_parts_here", "_law_stands", "_law_tree_here", "_law_one", "_law_many"]) (sc := defScope s_law_due) (by decide +kernel)) (fun _ _ _ _ _ => (pg_name (i := 9) sc_law_due.nd rfl (by first | exact Or.inl rfl | exact Or.inr rfl))) (fun _ _ _ _ _ => pts_nil) (fun _ _ _ _ _ => (pe_call G_law_forests (hr.mono (by omega)) (by rfl) T.g_law_forests T.kp_law_forests T.b_law_forests .nil pass0 (pa_cons (pv 9) pa_nil))))
      (pss_cons (ps_for PassesOwn.never rfl (Ov.pi_listK (K := K) rfl (pe_call G_law_parts (hr.mono (by omega)) (by rfl) T.g_law_parts T.kp_law_parts T.b_law_parts .nil pass0 (pa_cons (pe_callB (r := Evl.rLenS K) call_len_seq (by rfl) T.z_len PySem.boot_len (pa_cons (pv 0) pa_nil)) pa_nil))) (pg_name (i := 5) sc_law_due.nd rfl (by first | exact Or.inl rfl | exact Or.inr rfl)) (pss_one (ps_for PassesOwn.never rfl (Ov.pi_listK (K := K) rfl (pe_ix (r := rIxL K) ix_list (pv 4) (pe_callB (r := Evl.rLenS K) call_len_seq (by rfl) T.z_len PySem.boot_len (pa_cons (pv 5) pa_nil)) (fun _ _ => rfl))) (pg_name (i := 6) sc_law_due.nd rfl (by first | exact Or.inl rfl | exact Or.inr rfl)) (pss_cons (ps_set (i := 7) sc_law_due.nd rfl (by first | exact Or.inl rfl | exact Or.inr rfl) (pe_tup (pa_cons (pe_callTy (r := Ov.rTupS K) call_tuple_of (by rfl) T.z_tuple (by decide +kernel) (pa_cons (pv 5) pa_nil)) (pa_cons (pv 6) pa_nil))))
      (pss_one (ps_if (pt_cmpR op_le (pe_ix (r := rIxT K) ix_tup (pe_call G_law_laid (hr.mono (by omega)) (by rfl) T.g_law_laid T.kp_law_laid T.b_law_laid .nil pass0 (pa_cons (pv 0) (pa_cons (pv 7) pa_nil))) pe_int (fun _ _ => rfl)) (pv 1) (nomark _)) (pss_cons (ps_set (i := 8) sc_law_due.nd rfl (by first | exact Or.inl rfl | exact Or.inr rfl) (pe_tup (pa_cons (pe_call G_law_cost (hr.mono (by omega)) (by rfl) T.g_law_cost T.kp_law_cost T.b_law_cost .nil pass0 (pa_cons (pv 0) (pa_cons (pv 7) (pa_cons (pv 2) pa_nil)))) (pa_cons (pv 7) pa_nil))))
      (pss_one (ps_set (i := 3) sc_law_due.nd rfl (by first | exact Or.inl rfl | exact Or.inr rfl) (pe_ifExp (PW.pt (pw_or (pt_cmpR op_isN (pv 3) pe_non (nomark _)) (pw_or1 (pt_cmpR (r := Ov.rLtCT K) (Ov.op_ltCT hr.units) (pv 8) (pv 3) (by first | rfl | exact nomark _))))) (pv 8) (pv 3))))) pss_nil))))))
      (pss_one (ps_ret (pv 3)))))), ?_⟩
  obtain ⟨pa, vp, rfl, hpa, hpf⟩ := id hpr
  have hpl : vp.length = pr.length := Paired.length hpf
  refine ⟨_, rfl, pa, _, rfl, .inr (SqT.of hpa), _, _, rfl, rfl, _, rfl, by omega, by omega, fun S hS => ?_⟩
  have en : ((vp.length : Int) + 1).toNat = pr.length + 1 := by omega
  refine lc_rangeY (lo := 0) (n := ((vp.length : Int) + 1).toNat) (fun i H' => ∃ ws, Same H H' ∧ H' S = some (.lst ws) ∧ Paired (StfAt S H') ws (List.range i)) ⟨[], Same.new hS, upd_same, .nil⟩ ?_ ?_
  · rintro i H1 hi ⟨ws, s1, e1, hws⟩
    rw [en] at hi
    have hwl := Paired.length hws
    rw [List.length_range] at hwl
    refine ⟨rfl, _, rfl, i, by rw [Int.zero_add]; rfl, by omega, fun H2 r rs s2 hr er hrs => ?_⟩
    have e2 := s2 _ _ e1
    have nr : r ≠ S := fun z => by
      rw [z] at hr
      rw [hr] at e1
      cases e1
    have kD := Keep.updL (ys := ws ++ [.ref r]) e2
    refine ⟨_, e2, sm _ (by omega), ws ++ [.ref r], Ov.Same.updn (s1.trans s2) hS, upd_same, ?_⟩
    rw [List.range_succ]
    refine PySem.Paired.snoc (L2.Paired.mapP hws fun _ _ z => (z.same s2).updS kD) ⟨r, rs, rfl, nr, by rw [upd_ne nr]; exact er, L2.Paired.mapP hrs fun _ _ z => z.keep kD⟩
  rintro H1 ⟨us, s1, e1, hus⟩
  rw [en] at hus
  show gName 4 (V.ref S) [some (.ref pa), some (.int z), some (.ref tb), some .non, none, none, none, none, none, none] _ _
  refine ⟨_, rfl, pa, _, rfl, .inr (SqT.of (s1 _ _ hpa)), pr.length, by rw [hpl]; rfl, h5, fun H2 r rs s2 hr er hrs => ?_⟩
  have hrl := Paired.length hrs
  have s12 := s1.trans s2
  have e2 := s2 _ _ e1
  have hus2 : Paired (StfAt S H2) us (List.range (pr.length + 1)) := L2.Paired.mapP hus fun _ _ z => z.same s2
  clear hus
  refine ⟨r, rfl, ⟨_, SqL.of er⟩, ?_⟩
  refine for_it (walk_list (K := K) (a := r) (xs := rs)) (fun i σ' H' => ∃ (u : V) (y5 y6 y7 y8 : Option V), σ' = [some (.ref pa), some (.int z), some (.ref tb), some u, some (.ref S), y5, y6, y7, y8, none] ∧ Same H2 H' ∧ BestAt H' u (bestL pr z ns (((partL pr.length).take i).flatMap fun ps => (forestsN ps.length).map fun st => (ps, st)))) ⟨.non, none, none, none, none, rfl, Same.refl _, rfl⟩ (fun i σ' H' _ ⟨_, _, _, _, _, _, s, _⟩ => SqL.of (s _ _ er)) ?_ ?_
  · rintro i x σ' H3 H3' hi ⟨u, y5, y6, y7, y8, rfl, s3, hu⟩ ⟨rfl, hx⟩
    obtain ⟨ps, hps, hpx⟩ := Paired.get2 hrs hx
    have hpm := List.mem_of_getElem? hps
    have hpl2 := partL_len hpm
    obtain ⟨a, vs, rfl, _, ha, hvs⟩ := hpx
    have hvl : vs.length = ps.length := Paired.length hvs
    obtain ⟨uu, huu, b, us2, rfl, nb, hb, hsts⟩ := Paired.got hus2 (List.getElem?_range (show ps.length < pr.length + 1 by omega))
    have hsl := Paired.length hsts
    refine ⟨_, rfl, _, rfl, a, _, rfl, .inl (SqL.of (s3 _ _ ha)), S, _, _, _, rfl, rfl, SqL.of (s3 _ _ e2), by rw [hvl]; exact atI_nat huu, b, rfl, ⟨_, SqL.of (s3 _ _ hb)⟩, ?_⟩
    refine for_it (walk_list (K := K) (a := b) (xs := us2)) (fun j σ' H' => ∃ (u : V) (y6 y7 y8 : Option V), σ' = [some (.ref pa), some (.int z), some (.ref tb), some u, some (.ref S), some (.ref a), y6, y7, y8, none] ∧ Same H2 H' ∧ BestAt H' u (bestL pr z ns ((((partL pr.length).take i).flatMap fun ps => (forestsN ps.length).map fun st => (ps, st)) ++ ((forestsN ps.length).take j).map fun st => (ps, st)))) ⟨u, _, _, _, rfl, s3, by rw [List.take_zero, List.map_nil, List.append_nil]; exact hu⟩ (fun j σ' H' _ ⟨_, _, _, _, _, s, _⟩ => SqL.of (s _ _ hb)) ?_ ?_
    · rintro j y σ' H4 H4' hj ⟨u, y6, y7, y8, rfl, s4, hu⟩ ⟨rfl, hy⟩
      obtain ⟨st, hst, hys⟩ := Paired.get2 hsts hy
      have hto := forests_ok hpm (List.mem_of_getElem? hst)
      rw [List.take_add_one, hst, List.map_append, ← List.append_assoc, show (some st).toList.map (fun st => (ps, st)) = [(ps, st)] from rfl]
      show gName 6 y [some (.ref pa), some (.int z), some (.ref tb), some u, some (.ref S), some (.ref a), y6, y7, y8, none] _ _
      have s14 := s12.trans s4
      -- the tree
      refine ⟨_, rfl, a, _, rfl, .inl ⟨SqL.of (s4 _ _ ha), fun p1 hp1 => ?_⟩⟩
      have w1 := Same.new (o := .tup vs) hp1
      refine ⟨_, rfl, sml 2, fun p2 hp2 => ?_⟩
      have w2 := Same.new (o := .tup [V.ref p1, y]) hp2
      have htr : TrAt (upd (upd H4' p1 (.tup vs)) p2 (.tup [V.ref p1, y])) (.ref p2) ps st := TrAt.of upd_same ⟨p1, vs, rfl, w2 _ _ upd_same, L2.Paired.mapP hvs fun _ _ x => (x.keep (Keep.same s4)).keep (Keep.same (w1.trans w2))⟩ (hys.keep (Keep.same (s4.trans (w1.trans w2))))
      have w12 := w1.trans w2
      generalize upd (upd H4' p1 (.tup vs)) p2 (.tup [V.ref p1, y]) = H5 at htr w12 ⊢
      have s15 := s14.trans w12
      have hu5 := BestAt.keep (Keep.same w12) hu
      show gName 7 (V.ref p2) [some (.ref pa), some (.int z), some (.ref tb), some u, some (.ref S), some (.ref a), some y, y7, y8, none] _ _
      refine ⟨_, rfl, _, rfl, .ref pa, .ref p2, pr, ps, st, dnC pr.length (ps, st), rfl, ⟨hpr.keep (Keep.same s15), hok, htr, hto⟩, dnC_ok hto, fun H6 xl s6 hxl => ?_⟩
      obtain ⟨rl, fl, vl, m, rfl, erl, _, _, hm⟩ := hxl
      obtain rfl : m = farC pr (ps, st) := hm.uniq (farC_ok hok hto)
      refine ⟨rl, _, 1, _, rfl, rfl, SqT.of erl, atI_nat (j := 1) rfl, _, rfl, _, _, rfl, rfl, _, rfl, ?_⟩
      rw [bestL_snoc]
      unfold stepB
      have s16 := s15.trans s6
      have s26 : Same H2 H6 := s4.trans (w12.trans s6)
      have hu6 := BestAt.keep (Keep.same s6) hu5
      have htr6 := htr.keep (Keep.same s6)
      by_cases hf : farC pr (ps, st) ≤ z
      · rw [decide_eq_true hf, if_pos hf]
        refine iteT ?_
        refine ⟨_, rfl, _, rfl, _, rfl, .ref pa, .ref p2, pr, ps, st, dnC pr.length (ps, st), tb, ns, rfl, ⟨hpr.keep (Keep.same s16), hok, htr6, hto⟩, dnC_ok hto, s16 _ _ htb, hnl, hns, fun H7 cs far s7 hcs hfar => ?_⟩
        obtain rfl : cs = csC pr (ps, st) := csC_uniq hto hcs
        refine ⟨_, rfl, sml 2, fun p8 hp8 => ?_⟩
        have w8 := Same.new (o := .tup [.int (cstC pr (ps, st) ns : Nat), .ref p2]) hp8
        have w78 := s7.trans w8
        have hct : CtAt (upd H7 p8 (.tup [.int (cstC pr (ps, st) ns : Nat), .ref p2])) (.ref p8) (cstC pr (ps, st) ns : Nat) (ps, st) := ⟨p8, .ref p2, rfl, upd_same, TrAt.keep (Keep.same w78) htr6⟩
        have hu8 := BestAt.keep (Keep.same w78) hu6
        have s28 := s26.trans w78
        show gName 8 (V.ref p8) [some (.ref pa), some (.int z), some (.ref tb), some u, some (.ref S), some (.ref a), some y, some (.ref p2), y8, none] _ _
        refine ⟨_, rfl, rfl, _, rfl, ?_⟩
        cases hb : bestL pr z ns ((((partL pr.length).take i).flatMap fun ps => (forestsN ps.length).map fun st => (ps, st)) ++ ((forestsN ps.length).take j).map fun st => (ps, st)) with
        | none =>
          rw [hb] at hu8
          obtain rfl : u = .non := hu8
          rw [decide_eq_true rfl]
          refine iteT (iteT ?_)
          exact ⟨_, rfl, .ref p8, _, _, _, rfl, s28, _, _, rfl, hct⟩
        | some c =>
          rw [hb] at hu8
          obtain ⟨n7, t7, rfl, hc7⟩ := id hu8
          have hune : u ≠ .non := by
            obtain ⟨a7, _, e, _⟩ := hc7
            rw [e]
            exact fun z => (nomatch z)
          rw [decide_eq_false hune]
          refine iteF ?_
          refine ⟨_, rfl, _, rfl, _, _, hct.dp, hc7.dp, _, rfl, ?_⟩
          cases hl : ctL (ctO (cstC pr (ps, st) ns : Nat) (ps, st)) (ctO n7 t7) with
          | true =>
            refine iteT ?_
            have e : (if ctL (keyC pr ns (ps, st)) (ctO n7 t7) = true then some (keyC pr ns (ps, st)) else some (ctO n7 t7)) = some (keyC pr ns (ps, st)) := if_pos hl
            refine ⟨_, rfl, .ref p8, _, _, _, rfl, s28, ?_⟩
            show BestAt _ _ (if ctL (keyC pr ns (ps, st)) (ctO n7 t7) = true then some (keyC pr ns (ps, st)) else some (ctO n7 t7))
            rw [e]
            exact ⟨_, _, rfl, hct⟩
          | false =>
            refine iteF ?_
            have e : (if ctL (keyC pr ns (ps, st)) (ctO n7 t7) = true then some (keyC pr ns (ps, st)) else some (ctO n7 t7)) = some (ctO n7 t7) := if_neg (by
              show ¬ ctL (ctO (cstC pr (ps, st) ns : Nat) (ps, st)) (ctO n7 t7) = true
              rw [hl]
              exact Bool.false_ne_true)
            refine ⟨_, rfl, u, _, _, _, rfl, s28, ?_⟩
            show BestAt _ _ (if ctL (keyC pr ns (ps, st)) (ctO n7 t7) = true then some (keyC pr ns (ps, st)) else some (ctO n7 t7))
            rw [e]
            exact hu8
      · rw [decide_eq_false hf, if_neg hf]
        exact iteF ⟨u, _, _, _, rfl, s26, hu6⟩
    · rintro σ' H4 ⟨u, y6, y7, y8, rfl, s4, hu⟩
      rw [hsl, List.take_length] at hu
      refine ⟨u, _, _, _, _, rfl, s4, ?_⟩
      rw [List.take_add_one, hps, List.flatMap_append]
      show BestAt _ _ (bestL _ _ _ (_ ++ ((forestsN ps.length).map (fun st => (ps, st)) ++ [])))
      rw [List.append_nil]
      exact hu
  · rintro σ' H3 ⟨u, y5, y6, y7, y8, rfl, s3, hu⟩
    rw [hrl, List.take_length] at hu
    have hu : BestAt H3 u (bestL pr z ns (treesL pr.length)) := hu
    rw [bestL_eq] at hu
    exact ⟨_, rfl, q H3 u (s12.trans s3) hu⟩
end
end K16

namespace K16
open PySem PySem.Spec PyProof.Rows L2 Ov
section
variable {P : Program} {w : World} {K : PySem.W.Frag} {mg : Str → Option Value} {base : Heap}
theorem sc_with_function : FnScope ["parts", "function", "joined", "at", "part"] ["parts", "function"] (defScope s_with_function) := ⟨rfl, rfl, rfl, by decide +kernel, rfl, by decide +kernel, by decide +kernel⟩
-- 0 parts, 1 function, 2 joined, 3 at, 4 part
theorem ok_with_function (T : Txt w K mg) : FnOk P w K mg base CX0 1 (He.ga K "with_function") (fdOf K d_with_function) ["parts", "function"] spWithF := by
  refine T.F_with_function.ok sc_with_function (fun vs H Q E h => ?_) (fun cdv A outer s H vs Q E hr h => ?_)
  · obtain ⟨v, n, ps, rfl, _⟩ := h
    rfl
  obtain ⟨v, n, ps, rfl, ⟨a, us, rfl, ha, hus⟩, h8, hp8, q⟩ := h
  have hul : us.length = ps.length := Paired.length hus
  refine ⟨_, PSs.nox (pss_cons (ps_setLc (i := 2) (own := [("at", 3), ("part", 4)]) rfl sc_with_function.nd rfl rfl (sw_true rfl rfl rfl (by decide +kernel)) (Ov.pi_en (K := K) .t rfl (by rfl) T.z_enumerate (pa_cons (pv 0) pa_nil)) (blkOk_by (own := [("at", 3), ("part", 4)]) (N := ["parts", "function", "joined", "at", "part"]) (sc := defScope s_with_function) (by decide +kernel)) (fun _ _ _ _ _ => (Ov.pg_tupK (K := K) (n := 2) rfl rfl (pgs_cons (pg_name (i := 3) sc_with_function.nd rfl (by first | exact Or.inl rfl | exact Or.inr rfl)) (pgs_cons (pg_name (i := 4) sc_with_function.nd rfl (by first | exact Or.inl rfl | exact Or.inr rfl)) pgs_nil)))) (fun _ _ _ _ _ => pts_nil) (fun _ _ _ _ _ => (pe_op (r := rCatA K) op_catA (pe_op (r := rCatA K) op_catA (pe_slice (r := rSlA K) sl_tupA (pv 0) po_none (po_some (pv 3))) (pe_tup (pa_cons (pe_op (r := rCatA K) op_catA (pv 4) (pe_tup (pa_cons (pv 1) pa_nil))) pa_nil))) (pe_slice (r := rSlA K) sl_tupA (pv 0) (po_some (pe_op op_add (pv 3) pe_int)) po_none))))
      (pss_one (ps_ret (pe_op op_cat (pv 2) (pe_lst (pa_cons (pe_op (r := rCatA K) op_catA (pv 0) (pe_tup (pa_cons (pe_tup (pa_cons (pv 1) pa_nil)) pa_nil))) pa_nil)))))), ?_⟩
  refine ⟨_, rfl, a, us, rfl, SqT.of ha, fun D hD => ?_⟩
  refine lc_itY (walk_en (K := K) (k := .t) (a := a) (xs := us)) (fun i H' => ∃ rs, Same H H' ∧ H' D = some (.lst rs) ∧ Paired (PtsAt H') rs ((List.range i).map fun i => ps.set i ((ps[i]?.getD []) ++ [n]))) ⟨[], Same.new hD, upd_same, .nil⟩ (fun i H' _ z => SqT.of (z.choose_spec.1 _ _ ha)) ?_ ?_
  · rintro i z H1 H2 hi ⟨rs, s1, e1, hrs⟩ ⟨tt, x, y, rfl, ht, rfl, hx, hy⟩
    obtain rfl := Option.some.inj hx
    obtain ⟨p, hp, ⟨b, rfl, hb⟩⟩ := Paired.get2 hus hy
    have hrl := Paired.length hrs
    rw [List.length_map, List.length_range] at hrl
    have s2 := Same.new (o := .tup [.int (i : Nat), .ref b]) ht
    generalize e3g : upd H1 tt (.tup [.int (i : Nat), .ref b]) = H3 at s2 ⊢
    have et : H3 tt = some (.tup [.int (i : Nat), .ref b]) := by rw [← e3g]; exact upd_same
    have s3 := s1.trans s2
    refine ⟨tt, _, rfl, SqT.of et, rfl, _, _, rfl, _, _, rfl, rfl, rfl, ?_⟩
    have ha3 := s3 _ _ ha
    have hb3 := s3 _ _ hb
    refine ⟨_, rfl, _, rfl, (i : Int), rfl, sl_to rfl ha3 (by omega) fun H4 p4 s4 e4 => ?_⟩
    refine ⟨_, rfl, _, rfl, sml 1, fun p5 hp5 => ?_⟩
    have s5 := Same.new (o := .tup [.int (n : Int)]) hp5
    refine cat_ld (s5 _ _ (s4 _ _ hb3)) upd_same (by rw [nV_len]; have := hp8 p (List.mem_of_getElem? hp); show _ + 1 ≤ _; omega) fun H6 p6 s6 e6 => ⟨sml 1, fun p7 hp7 => ?_⟩
    have s7 := Same.new (o := .tup [V.ref p6]) hp7
    have s47 := s5.trans (s6.trans s7)
    refine cat_ld (s47 _ _ e4) upd_same (by rw [List.length_take]; show _ + 1 ≤ _; omega) fun H8 p8 s8 e8 => ?_
    have s37 := s4.trans (s47.trans s8)
    refine ⟨_, rfl, _, rfl, _, _, rfl, rfl, ((i + 1 : Nat) : Int), by rw [Int.natCast_add]; rfl, ?_⟩
    dsimp only [tNoPart]
    refine sl_from (k := i + 1) rfl (s37 _ _ ha3) (by omega) fun H9 p9 s9 e9 => ?_
    refine cat_ld (s9 _ _ e8) e9 (by rw [List.length_append, List.length_take, List.length_drop]; show _ + 1 + _ ≤ _; omega) fun H10 p10 s10 e10 => ?_
    have s39 := s37.trans (s9.trans s10)
    have s310 := s3.trans s39
    have e1D := (s2.trans s39) _ _ e1
    have kD := Keep.updL (ys := rs ++ [.ref p10]) e1D
    refine ⟨_, e1D, sm _ (by omega), rs ++ [.ref p10], Ov.Same.updn s310 hD, upd_same, ?_⟩
    rw [List.range_succ, List.map_append]
    refine PySem.Paired.snoc (L2.Paired.mapP hrs fun _ _ z => (z.keep (Keep.same (s2.trans s39))).keep kD) (PtsAt.keep kD ?_)
    refine ⟨p10, _, rfl, e10, ?_⟩
    have hpi : us.take i ++ [V.ref p6] ++ us.drop (i + 1) = us.set i (.ref p6) := by
      rw [List.set_eq_take_append_cons_drop, if_pos hi, List.append_assoc]
      rfl
    rw [hpi]
    show Paired _ _ (ps.set i (ps[i]?.getD [] ++ [n]))
    rw [hp]
    refine paired_set (L2.Paired.mapP hus fun _ _ z => z.keep (Keep.same s310)) ⟨p6, rfl, ?_⟩ i
    rw [(s7.trans (s8.trans (s9.trans s10))) _ _ e6, Option.getD_some, nV_app]
  rintro H1 ⟨rs, s1, e1, hrs⟩
  have hrl := Paired.length hrs
  rw [List.length_map, List.length_range] at hrl
  rw [hul] at hrs
  refine ⟨_, rfl, _, rfl, _, rfl, sml 1, fun p5 hp5 => ⟨sml 1, fun p7 hp7 => ?_⟩⟩
  have s5 := Same.new (o := .tup [.int (n : Int)]) hp5
  have s7 := Same.new (o := .tup [V.ref p5]) hp7
  have s57 := s5.trans s7
  refine cat_ld (s57 _ _ (s1 _ _ ha)) upd_same (by show _ + 1 ≤ _; omega) fun H8 p8 s8 e8 => ⟨sml 1, fun q9 hq9 => ?_⟩
  have s9 := Same.new (o := .lst [V.ref p8]) hq9
  have s19 := s57.trans (s8.trans s9)
  refine ⟨_, _, _, _, rfl, rfl, s19 _ _ e1, upd_same, sml _ (by show _ + 1 ≤ _; omega), fun r hr => ?_⟩
  have sr := Same.new (o := .lst (rs ++ [V.ref p8])) hr
  have s1r := s19.trans sr
  refine q _ r _ (s1.trans s1r) (Same.free (s1.trans s19) hr) upd_same ?_
  refine paired_app (L2.Paired.mapP hrs fun _ _ z => z.keep (Keep.same s1r)) (.cons ⟨p8, _, rfl, (s9.trans sr) _ _ e8, ?_⟩ .nil)
  refine paired_app (L2.Paired.mapP hus fun _ _ z => z.keep (Keep.same (s1.trans s1r))) (.cons ⟨p5, rfl, (s7.trans (s8.trans (s9.trans sr))) _ _ upd_same⟩ .nil)
theorem sc_partitions : FnScope ["functions", "found", "function", "parts", "more"] ["functions"] (defScope s_partitions) := ⟨rfl, rfl, rfl, by decide +kernel, rfl, by decide +kernel, by decide +kernel⟩
-- 0 functions, 1 found, 2 function, 3 parts, 4 more
theorem ok_partitions (T : Txt w K mg) : FnOk P w K mg base CX0 2 (He.ga K "partitions") (fdOf K d_partitions) ["functions"] spPartitions := by
  have G_with_function := ok_with_function (P := P) (base := base) T
  refine T.F_partitions.ok sc_partitions (fun vs H Q E h => ?_) (fun cdv A outer s H vs Q E hr h => ?_)
  · obtain ⟨n, rfl, _⟩ := h
    rfl
  obtain ⟨n, rfl, h5, q⟩ := h
  refine ⟨_, PSs.nox (pss_cons (ps_set (i := 1) sc_partitions.nd rfl (by first | exact Or.inl rfl | exact Or.inr rfl) (pe_lst (pa_cons (pe_tup pa_nil) pa_nil)))
      (pss_cons (ps_for PassesOwn.never rfl (pi_range1 (by rfl) T.z_range (pa_cons (pv 0) pa_nil)) (pg_name (i := 2) sc_partitions.nd rfl (by first | exact Or.inl rfl | exact Or.inr rfl)) (pss_one (ps_setLc2 (i := 1) (own := [("parts", 3), ("more", 4)]) (vs1 := [4]) rfl sc_partitions.nd rfl rfl (sw_true rfl rfl rfl (by decide +kernel)) (Ov.pi_listK (K := K) rfl (pv 1)) (blkOk_by (own := [("parts", 3), ("more", 4)]) (N := ["functions", "found", "function", "parts", "more"]) (sc := defScope s_partitions) (by decide +kernel)) (by decide) (fun _ _ _ _ _ => (pg_name (i := 3) sc_partitions.nd rfl (by first | exact Or.inl rfl | exact Or.inr rfl))) (fun _ _ _ _ _ => pts_nil) (fun _ _ _ _ _ => (Ov.pi_listK (K := K) rfl (pe_call G_with_function (hr.mono (by omega)) (by rfl) T.g_with_function T.kp_with_function T.b_with_function .nil pass0 (pa_cons (pv 3) (pa_cons (pv 2) pa_nil))))) (fun _ _ _ _ _ => (pg_name (i := 4) sc_partitions.nd rfl (by first | exact Or.inl rfl | exact Or.inr rfl))) (fun _ _ _ _ _ => pts_nil) (fun _ _ _ _ _ => (pv 4)))))
      (pss_one (ps_ret (pv 1))))), ?_⟩
  refine ⟨sml 0, fun p0 hp0 => ⟨sml 1, fun f0 hf0 => ?_⟩⟩
  have s0 := Same.new (o := .tup []) hp0
  have s1 := Same.new (o := .lst [V.ref p0]) hf0
  have e1 : upd (upd H p0 (.tup [])) f0 (.lst [V.ref p0]) f0 = some (.lst [V.ref p0]) := upd_same
  have ep := s1 _ _ (upd_same : upd H p0 (.tup []) p0 = some (.tup []))
  have sb := s0.trans s1
  have nf0 : H f0 = none := Same.free s0 hf0
  generalize upd (upd H p0 (.tup [])) f0 (.lst [V.ref p0]) = H1 at e1 ep sb ⊢
  refine ⟨_, rfl, (n : Int), rfl, by omega, by omega, ?_⟩
  refine for_range (lo := 0) (n := (n : Int).toNat) (fun k σ' H' => ∃ (f : Addr) (y2 y3 y4 : Option V) (rs : List V), σ' = [some (.int (n : Int)), some (.ref f), y2, y3, y4] ∧ Same H H' ∧ H f = none ∧ H' f = some (.lst rs) ∧ Paired (PtsAt H') rs (partN k)) ⟨f0, none, none, none, _, rfl, sb, nf0, e1, .cons ⟨p0, [], rfl, ep, .nil⟩ .nil⟩ ?_ ?_
  · rintro k σ' H2 hk ⟨f, y2, y3, y4, rs, rfl, s2, nf, e2, hrs⟩
    rw [Int.toNat_natCast] at hk
    have hrl := Paired.length hrs
    have hsz := partN_size (n := k) (by omega)
    refine ⟨_, rfl, f, rfl, ⟨_, SqL.of e2⟩, fun D hD => ?_⟩
    have hD0 : H D = none := Same.free s2 hD
    refine lc2_out (walk_list (K := K) (a := f) (xs := rs)) (fun i H' => ∃ ws, Same H2 H' ∧ H' D = some (.lst ws) ∧ Paired (PtsAt H') ws (((partN k).take i).flatMap fun ps => withF ps k) ∧ ws.length ≤ 9 * i) ⟨[], Same.new hD, upd_same, .nil, Nat.le_refl _⟩ (fun i H' _ ⟨_, e, _⟩ => SqL.of (e _ _ e2)) ?_ ?_
    · rintro i x H3 H4 hi ⟨ws, s3, e3, hws, hwl⟩ ⟨rfl, hx⟩
      obtain ⟨ps, hps, hpx⟩ := Paired.get2 hrs hx
      have hpv := partN_ok k (List.mem_of_getElem? hps)
      have hpl := partN_len k (List.mem_of_getElem? hps)
      refine ⟨rfl, _, rfl, _, rfl, x, k, ps, by rw [Int.zero_add]; rfl, hpx.keep (Keep.same s3), by omega, part_few hpv (by omega), fun H5 r qs s4 hr er hqs => ?_⟩
      have hql := Paired.length hqs
      rw [withF_size] at hql
      have e5 := s4 _ _ e3
      refine ⟨r, rfl, ⟨_, SqL.of er⟩, ?_⟩
      refine lc2_in (walk_list (K := K) (a := r) (xs := qs)) (fun j H' => ∃ ws', Same H2 H' ∧ H' D = some (.lst ws') ∧ H' r = some (.lst qs) ∧ Paired (PtsAt H') qs (withF ps k) ∧ Paired (PtsAt H') ws' ((((partN k).take i).flatMap fun ps => withF ps k) ++ (withF ps k).take j) ∧ ws'.length ≤ 9 * i + j) ⟨ws, s3.trans s4, e5, er, hqs, by rw [List.take_zero, List.append_nil]; exact L2.Paired.mapP hws fun _ _ z => z.keep (Keep.same s4), hwl⟩ (fun j H' _ ⟨_, _, _, z, _⟩ => SqL.of z) ?_ ?_
      · rintro j y H6 H7 hj ⟨ws', s6, e6, er6, hqs6, hws6, hwl6⟩ ⟨rfl, hy⟩
        obtain ⟨qp, hqp, hy6⟩ := Paired.get2 hqs6 hy
        have nDr : r ≠ D := fun z => by
          rw [z] at hr
          rw [hr] at e3
          cases e3
        have kD := Keep.updL (ys := ws' ++ [y]) e6
        refine ⟨rfl, _, rfl, _, e6, smn _ (by omega), ws' ++ [y], Ov.Same.updn s6 hD, upd_same, by rw [upd_ne nDr]; exact er6, L2.Paired.mapP hqs6 fun _ _ z => z.keep kD, ?_, by rw [List.length_append]; show _ + 1 ≤ _; omega⟩
        rw [List.take_add_one, hqp, ← List.append_assoc]
        exact PySem.Paired.snoc (L2.Paired.mapP hws6 fun _ _ z => z.keep kD) (hy6.keep kD)
      · rintro H6 ⟨ws', s6, e6, _, _, hws6, hwl6⟩
        have hl : (withF ps k).length = qs.length := (Paired.length hqs).symm
        rw [← hl, List.take_length] at hws6
        refine ⟨ws', s6, e6, ?_, by omega⟩
        rw [List.take_add_one, hps, List.flatMap_append]
        show Paired _ _ (_ ++ (withF ps k ++ []))
        rw [List.append_nil]
        exact hws6
    · rintro H3 ⟨ws, s3, e3, hws, _⟩
      rw [hrl, List.take_length] at hws
      exact ⟨D, _, _, _, ws, rfl, s2.trans s3, hD0, e3, hws⟩
  · rintro σ' H2 ⟨f, y2, y3, y4, rs, rfl, s2, nf, e2, hrs⟩
    rw [Int.toNat_natCast] at hrs
    exact ⟨_, rfl, q H2 f rs s2 nf e2 hrs⟩
end
end K16

namespace K16
open PySem PySem.Spec PyProof.Rows L2 Ov
section
variable {P : Program} {w : World} {K : PySem.W.Frag} {mg : Str → Option Value} {base : Heap}
theorem sc_add_word : FnScope ["rows", "word", "number", "arms", "arm"] ["rows", "word"] (defScope s_add_word) := ⟨rfl, rfl, rfl, by decide +kernel, rfl, by decide +kernel, by decide +kernel⟩
-- 0 rows, 1 word, 2 number, 3 arms, 4 arm
theorem ok_add_wordS (T : Txt w K mg) {d : Nat} (G_add_word : FnOk P w K mg base CX0 (d + 1) (He.ga K "add_word") (fdOf K d_add_word) ["rows", "word"] (spAddWord d)) :
    FnOk P w K mg base CX0 (d + 2) (He.ga K "add_word") (fdOf K d_add_word) ["rows", "word"] (spAddWord (d + 1)) := by
  have G_arms_of := ok_arms_of (P := P) (base := base) T
  have G_given_of := ok_given_of (P := P) (base := base) T
  refine T.F_add_word.ok sc_add_word (fun vs H Q E h => ?_) (fun cdv A outer s H vs Q E hr h => ?_)
  · obtain ⟨l, v, n, u, xs, rfl, _⟩ := h
    rfl
  obtain ⟨l, v, n, u, xs, rfl, hl, hv, ok, hz, q⟩ := h
  cases hv with
  | @mk a o g vs as ha hs =>
  cases ok with
  | mk h1 h2 h3 =>
  have hlen := hs.length
  rw [W.size_mk] at hz
  have has : as.length ≤ 3 := by rw [h1]; cases o <;> decide
  refine ⟨_, PSs.nox (pss_cons (ps_set (i := 2) sc_add_word.nd rfl (by first | exact Or.inl rfl | exact Or.inr rfl) (pe_callB (r := Evl.rLenS K) call_len_seq (by rfl) T.z_len PySem.boot_len (pa_cons (pv 0) pa_nil)))
      (pss_cons (ps_expr (Ov.pe_bmK (K := K) rfl PySem.F.plainAttrs_list PySem.F.slot_list_append PySem.F.type_list_append mt_append (pv 0) (pa_cons pe_non pa_nil)))
      (pss_cons (ps_set (i := 3) sc_add_word.nd rfl (by first | exact Or.inl rfl | exact Or.inr rfl) (pe_lst pa_nil))
      (pss_cons (ps_for PassesOwn.never rfl (Ov.pi_tupK (K := K) rfl (pe_call G_arms_of (hr.mono (by omega)) (by rfl) T.g_arms_of T.kp_arms_of T.b_arms_of .nil pass0 (pa_cons (pv 1) pa_nil))) (pg_name (i := 4) sc_add_word.nd rfl (by first | exact Or.inl rfl | exact Or.inr rfl)) (pss_one (ps_expr (Ov.pe_bmK (K := K) rfl PySem.F.plainAttrs_list PySem.F.slot_list_append PySem.F.type_list_append mt_append (pv 3) (pa_cons (pe_call G_add_word (hr.mono (by omega)) (by rfl) T.g_add_word T.kp_add_word T.b_add_word .nil pass0 (pa_cons (pv 0) (pa_cons (pv 4) pa_nil))) pa_nil)))))
      (pss_cons (ps_asg (pe_tup (pa_cons (pe_ix (r := rIxT K) ix_tup (pv 1) pe_int (fun _ _ => rfl)) (pa_cons (pe_call G_given_of (hr.mono (by omega)) (by rfl) T.g_given_of T.kp_given_of T.b_given_of .nil pass0 (pa_cons (pv 1) pa_nil)) (pa_cons (pe_callTy (r := Ov.rTupS K) call_tuple_of (by rfl) T.z_tuple (by decide +kernel) (pa_cons (pv 3) pa_nil)) pa_nil)))) (pg_sub (pv 0) (pv 2) set_list))
      (pss_one (ps_ret (pv 2)))))))), ?_⟩
  refine ⟨_, rfl, l, xs, rfl, .inl (SqL.of hl), ?_⟩
  refine ⟨_, rfl, .inl ⟨rfl, _, SqL.of hl⟩, l, xs, _, rfl, rfl, hl, sm _ (by omega), sml 0, fun al hal => ?_⟩
  have nal : l ≠ al := ne_of_none upd_same hal
  have hal0 : H al = none := by rw [upd_ne nal.symm] at hal; exact hal
  have b1 : ButL l H (upd (upd H l (.lst (xs ++ [.non]))) al (.lst [])) := ButL.upd.trans (.same (Same.new hal))
  have hl1 : (upd (upd H l (.lst (xs ++ [.non]))) al (.lst [])) l = some (.lst (xs ++ [.non])) := by rw [upd_ne nal, upd_same]
  have nla : a ≠ l := ne_of ha hl (by intro z; cases z)
  have ha1 := b1 a _ nla ha
  refine ⟨_, rfl, a, o, g, vs, rfl, ⟨ha1, hlen.trans h1⟩, fun p hp => ?_⟩
  have npl : l ≠ p := ne_of_none hl1 hp
  have npa : al ≠ p := ne_of_none upd_same hp
  refine ⟨p, rfl, ⟨_, SqT.of upd_same⟩, for_tup (K := K) (a := p) (xs := vs) (fun i σ H' => ∃ (y4 : Option V) (ys : List V), σ = [some (.ref l), some (.ref a), some (.int (xs.length : Int)), some (.ref al), y4] ∧ ButL l H H' ∧ H' l = some (.lst (xs ++ [.non] ++ ys)) ∧ Paired (RowAt H') ys (W.rowss (xs.length + 1) (as.take i)) ∧ H' al = some (.lst (nV (starts (xs.length + 1) (as.take i)))) ∧ H' p = some (.tup vs))
    ⟨none, [], rfl, b1.trans (.same (Same.new hp)), by rw [upd_ne npl, hl1, List.append_nil], by rw [List.take_zero, W.rowss]; exact .nil, by rw [upd_ne npa, upd_same]; rfl, upd_same⟩ (fun i σ H' _ ⟨_, _, _, _, _, _, _, e⟩ => SqT.of e) ?_ ?_⟩
  · rintro i x σ H1 hi ⟨y4, ys, rfl, b2, hl2, hys, hal2, hp2⟩
    obtain ⟨u, hu, hxu⟩ := WsAt.get hs hi
    have hlr := Paired.length hys
    rw [W.rowss_len] at hlr
    have hsz := size_get as i u hu
    have hlx : (xs ++ [.non] ++ ys : List V).length = xs.length + 1 + W.sizes (as.take i) := by rw [List.length_append, List.length_append, hlr]; rfl
    refine ⟨_, rfl, .inl ⟨rfl, _, SqL.of hal2⟩, _, rfl, _, rfl, l, x, n, u, xs ++ [.non] ++ ys, rfl, hl2, hxu.keep (b2.keep hl), h3 u (List.mem_of_getElem? hu), by rw [hlx]; omega, fun H3 zs b3 hl3 hzs => ?_⟩
    have hal3 := b3 _ _ nal.symm hal2
    have k3 := b3.keep hl2
    have kL := Keep.updL (ys := nV (starts (xs.length + 1) (as.take i)) ++ [V.int ((xs ++ [.non] ++ ys : List V).length : Int)]) hal3
    refine ⟨al, _, _, rfl, rfl, hal3, sm _ (by rw [nV_len, starts_len, List.length_take]; omega), _, ys ++ zs, rfl, ?_, ?_, ?_, ?_, ?_⟩
    · exact fun c u' n1 e => by rw [upd_ne (ne_of_none e hal0)]; exact (b2.trans b3) c u' n1 e
    · rw [upd_ne nal, hl3, List.append_assoc _ ys zs]
    · rw [List.take_add_one, hu]
      show Paired _ _ (W.rowss (xs.length + 1) (as.take i ++ [u]))
      rw [rowss_snoc]
      refine paired_app (L2.Paired.mapP hys fun _ _ z => z.keep (k3.trans kL)) ?_
      rw [hlx] at hzs
      exact L2.Paired.mapP hzs fun _ _ z => z.keep kL
    · rw [upd_same, List.take_add_one, hu]
      show some (HO.lst _) = some (HO.lst (nV (starts (xs.length + 1) (as.take i ++ [u]))))
      rw [starts_snoc, nV_app, hlx]
    · rw [upd_ne (ne_of hp2 hal2 (by intro z; cases z)).symm.symm]
      exact b3 _ _ npl.symm hp2
  · rintro σ H1 ⟨y4, ys, rfl, b2, hl2, hys, hal2, hp2⟩
    rw [hlen, List.take_length] at hys hal2
    have ha2 := b2 a _ nla ha
    refine ⟨_, rfl, a, _, 0, .str o.name, rfl, rfl, SqT.of ha2, atI_nat (j := 0) rfl, _, rfl, a, o, g, vs, rfl, ⟨ha2, hlen.trans h1⟩, _, rfl, al, _, rfl, .inl ⟨SqL.of hal2, fun ta hta => ⟨sml 3, fun t ht => ?_⟩⟩⟩
    have s3 := (Same.new (o := .tup (nV (starts (xs.length + 1) as))) hta).trans (Same.new (o := .tup [.str o.name, o.gV g, .ref ta]) ht)
    have hl3 := s3 _ _ hl2
    refine ⟨_, rfl, _, rfl, l, _, _, xs.length, rfl, rfl, hl3, Evl.ixN_nat (by rw [List.length_append, List.length_append, List.length_singleton]; omega), _, rfl, ?_⟩
    have kL := Keep.updL (ys := (xs ++ [V.non] ++ ys).set xs.length (V.ref t)) hl3
    refine q _ (.ref t :: ys) ((b2.trans (.same s3)).trans ButL.upd) (by rw [upd_same, set_mid]) ?_
    rw [W.rows_mk]
    have nta : ta ≠ t := ne_of_none upd_same ht
    exact .cons ⟨t, ta, rfl, kL _ _ upd_same, kL _ _ (by rw [upd_ne nta, upd_same])⟩ (L2.Paired.mapP hys fun _ _ z => z.keep ((Keep.same s3).trans kL))
theorem ok_add_word (T : Txt w K mg) : ∀ d : Nat, FnOk P w K mg base CX0 (d + 1) (He.ga K "add_word") (fdOf K d_add_word) ["rows", "word"] (spAddWord d)
  | 0 => fn0 fun vs H Q E ⟨_, _, _, _, _, _, _, _, h, _⟩ => nomatch h
  | d + 1 => ok_add_wordS T (ok_add_word T d)
theorem sc_words_of : FnScope ["body", "rows"] ["body"] (defScope s_words_of) := ⟨rfl, rfl, rfl, by decide +kernel, rfl, by decide +kernel, by decide +kernel⟩
-- 0 body, 1 rows
theorem ok_words_of (T : Txt w K mg) : FnOk P w K mg base CX0 9 (He.ga K "words_of") (fdOf K d_words_of) ["body"] spWordsOf := by
  have G_add_word := ok_add_word (P := P) (base := base) T 7
  refine T.F_words_of.ok sc_words_of (fun vs H Q E h => ?_) (fun cdv A outer s H vs Q E hr h => ?_)
  · obtain ⟨v, n, u, rfl, _⟩ := h
    rfl
  obtain ⟨v, n, u, rfl, hv, ok, hz, q⟩ := h
  refine ⟨_, PSs.nox (pss_cons (ps_set (i := 1) sc_words_of.nd rfl (by first | exact Or.inl rfl | exact Or.inr rfl) (pe_lst pa_nil))
      (pss_cons (ps_expr (pe_call G_add_word (hr.mono (by omega)) (by rfl) T.g_add_word T.kp_add_word T.b_add_word .nil pass0 (pa_cons (pv 1) (pa_cons (pv 0) pa_nil))))
      (pss_one (ps_ret (pv 1))))), ?_⟩
  refine ⟨sml 0, fun l hl => ⟨_, rfl, _, rfl, l, v, n, u, [], rfl, upd_same, hv.keep (Keep.same (Same.new hl)), ok, by show 0 + u.size ≤ 1000; omega, fun H' ys b e r => ⟨_, rfl, ?_⟩⟩⟩
  exact q H' l ys (fun a o h => b a o (ne_of_none h hl) (Same.new hl a o h)) hl e r
theorem sc_word_fits : FnScope ["word", "functions", "around", "name", "ahead", "arm"] ["word", "functions", "around"] (defScope s_word_fits) := ⟨rfl, rfl, rfl, by decide +kernel, rfl, by decide +kernel, by decide +kernel⟩
-- 0 word, 1 functions, 2 around, 3 name, 4 ahead, 5 arm
theorem ok_word_fitsS (T : Txt w K mg) {d : Nat} (G_word_fits : FnOk P w K mg base CX0 (d + 2) (He.ga K "word_fits") (fdOf K d_word_fits) ["word", "functions", "around"] (spWordFits d)) :
    FnOk P w K mg base CX0 (d + 3) (He.ga K "word_fits") (fdOf K d_word_fits) ["word", "functions", "around"] (spWordFits (d + 1)) := by
  have G_arms_of := ok_arms_of (P := P) (base := base) T
  have G_given_fits := ok_given_fits (P := P) (base := base) T
  obtain ⟨_, _, D_ARMS⟩ := T.kd_ARMS
  obtain ⟨_, _, D_GIVEN⟩ := T.kd_GIVEN
  refine T.F_word_fits.ok sc_word_fits (fun vs H Q E h => ?_) (fun cdv A outer s H vs Q E hr h => ?_)
  · obtain ⟨v, n, u, r, rfl, _⟩ := h
    rfl
  obtain ⟨v, n, u, r, rfl, hv, ok, r0, r7, q⟩ := h
  cases hv with
  | @mk a o g vs as ha hs =>
  cases ok with
  | mk h1 h2 h3 =>
  have hlen := hs.length
  obtain ⟨ra, ra1, ra2⟩ := arms_in T o
  obtain ⟨rg, rg1, rg2⟩ := given_in T o
  refine ⟨_, PSs.nox (pss_cons (ps_if (PW.pt (pw_or (pt_cmpR op_gt (pv 2) (pe_glob (v := .int 6) (by rfl) T.i_MOST_AROUND.choose_spec ⟨_, rfl⟩) (nomark _)) (pw_or (pt_not (pt_val (pe_callB (r := rIsi K) call_isi (by rfl) T.z_isinstance (by decide +kernel) (pa_cons (pv 0) (pa_cons (pe_bltn (v := .ty "tuple") (by rfl) T.z_tuple (by decide +kernel) rfl) pa_nil))))) (pw_or1 (pt_cmpR op_eq (pe_callB (r := Evl.rLenS K) call_len_seq (by rfl) T.z_len PySem.boot_len (pa_cons (pv 0) pa_nil)) pe_int (nomark _)))))) (pss_one (ps_ret pe_bl)) pss_nil)
      (pss_cons (ps_set (i := 3) sc_word_fits.nd rfl (by first | exact Or.inl rfl | exact Or.inr rfl) (pe_ix (r := rIxT K) ix_tup (pv 0) pe_int (fun _ _ => rfl)))
      (pss_cons (ps_if (PW.pt (pw_or (pt_not (pt_val (pe_callB (r := rIsi K) call_isi (by rfl) T.z_isinstance (by decide +kernel) (pa_cons (pv 3) (pa_cons (pe_bltn (v := .ty "str") (by rfl) T.z_str (by decide +kernel) rfl) pa_nil))))) (pw_or1 (pt_cmpR (r := Ov.rInKd K (He.ga K "ARMS") true) (op_notIn_kd D_ARMS) (pv 3) (pe_glob (v := .ref (He.ga K "ARMS")) (by rfl) T.g_ARMS rfl) (by first | rfl | exact nomark _))))) (pss_one (ps_ret pe_bl)) pss_nil)
      (Evl.pss_cut (ps_if (pt_cmpR (r := Ov.rInKd K (He.ga K "GIVEN") true) (op_notIn_kd D_GIVEN) (pv 3) (pe_glob (v := .ref (He.ga K "GIVEN")) (by rfl) T.g_GIVEN rfl) (by first | rfl | exact nomark _)) (pss_one (ps_set (i := 4) sc_word_fits.nd rfl (by first | exact Or.inl rfl | exact Or.inr rfl) pe_int)) (pss_one (ps_if (PW.pt (pw_and (pt_cmpR op_gt (pe_callB (r := Evl.rLenS K) call_len_seq (by rfl) T.z_len PySem.boot_len (pa_cons (pv 0) pa_nil)) pe_int (nomark _)) (pw_and1 (pt_val (pe_call G_given_fits (hr.mono (by omega)) (by rfl) T.g_given_fits T.kp_given_fits T.b_given_fits .nil pass0 (pa_cons (pe_ix (r := rIxD K w) ix_kdict (pe_glob (v := .ref (He.ga K "GIVEN")) (by rfl) T.g_GIVEN rfl) (pv 3) (fun _ _ => rfl)) (pa_cons (pe_ix (r := rIxT K) ix_tup (pv 0) pe_int (fun _ _ => rfl)) (pa_cons (pv 1) pa_nil)))))))) (pss_one (ps_set (i := 4) sc_word_fits.nd rfl (by first | exact Or.inl rfl | exact Or.inr rfl) pe_int)) (pss_one (ps_ret pe_bl)))))
      (pss_cons (ps_if (pt_cmpR op_ne (pe_callB (r := Evl.rLenS K) call_len_seq (by rfl) T.z_len PySem.boot_len (pa_cons (pv 0) pa_nil)) (pe_op op_add (pv 4) (pe_ix (r := rIxD K w) ix_kdict (pe_glob (v := .ref (He.ga K "ARMS")) (by rfl) T.g_ARMS rfl) (pv 3) (fun _ _ => rfl))) (nomark _)) (pss_one (ps_ret pe_bl)) pss_nil)
      (pss_one (ps_ret (pe_callB (r := rAll K) (cr_all rfl) (by rfl) T.z_all (by decide +kernel) (pa_cons (pe_lc (own := [("arm", 5)]) rfl sc_word_fits.nd (Ov.pi_tupK (K := K) rfl (pe_call G_arms_of (hr.mono (by omega)) (by rfl) T.g_arms_of T.kp_arms_of T.b_arms_of .nil pass0 (pa_cons (pv 0) pa_nil))) (blkOk_by (own := [("arm", 5)]) (N := ["word", "functions", "around", "name", "ahead", "arm"]) (sc := defScope s_word_fits) (by decide +kernel)) (fun _ _ _ _ _ => (pg_name (i := 5) sc_word_fits.nd rfl (by first | exact Or.inl rfl | exact Or.inr rfl))) (fun _ _ _ _ _ => pts_nil) (fun _ _ _ _ _ => (pe_call G_word_fits (hr.mono (by omega)) (by rfl) T.g_word_fits T.kp_word_fits T.b_word_fits .nil pass0 (pa_cons (pv 5) (pa_cons (pv 1) (pa_cons (pe_op op_add (pv 2) pe_int) pa_nil)))))) pa_nil))))))))), ?_⟩
  have e6 : decide ((6 : Int) < r) = false := decide_eq_false (by omega)
  have hn : (.str o.name :: (o.pre g ++ vs) : List V).length = 1 + (o.pre g).length + o.arity := by rw [List.length_cons, List.length_append, hlen, h1]; omega
  have l0 : decide (V.int (((.str o.name :: (o.pre g ++ vs) : List V).length : Nat) : Int) = V.int 0) = false := decide_eq_false fun z => by
    have z1 := V.int.inj z
    rw [hn] at z1
    omega
  refine ⟨_, rfl, r, 6, rfl, rfl, _, rfl, ?_⟩
  rw [e6]
  refine iteF ⟨_, rfl, _, .ty "tuple", .type "tuple", .type "tuple", true, rfl, .ty _, .base (.tup ha), k_tuple_tuple, true, rfl, ?_⟩
  refine iteF ⟨_, rfl, a, _, rfl, .inr (SqT.of ha), rfl, _, rfl, ?_⟩
  rw [l0]
  refine iteF ?_
  refine ⟨_, rfl, a, _, 0, .str o.name, rfl, rfl, SqT.of ha, atI_nat (j := 0) rfl, ?_⟩
  refine ⟨_, rfl, .str o.name, .ty "str", .type "str", .type "str", true, rfl, .ty _, .base (.str _), k_str_str, true, rfl, ?_⟩
  refine iteF ⟨_, rfl, o.name, ra, rfl, rfl, ra1, _, rfl, ?_⟩
  rw [ra2]
  refine iteF ?_
  have epre : (o.pre g).length = if o.gives then 1 else 0 := by
    unfold Op.pre
    split <;> rfl
  refine ⟨fun σ' H' => σ' = [some (.ref a), some (.int (n : Int)), some (.int r), some (.str o.name), some (.int ((1 + (o.pre g).length : Nat) : Int)), none] ∧ H' = H, ?_, ?_⟩
  · refine ⟨_, rfl, o.name, rg, rfl, rfl, rg1, _, rfl, ?_⟩
    show if (!rg.isSome) = true then _ else _
    rw [rg2]
    cases hg : o.gives with
    | false =>
      refine ⟨?_, rfl⟩
      rw [epre, hg]
      rfl
    | true =>
      have egp : o.pre g = [.int g] := by unfold Op.pre; rw [hg]; rfl
      have l1 : decide ((1 : Int) < (((.str o.name :: (o.pre g ++ vs) : List V).length : Nat) : Int)) = true := decide_eq_true (by rw [hn, egp, List.length_singleton]; omega)
      refine ⟨_, rfl, a, _, rfl, .inr (SqT.of ha), _, 1, rfl, rfl, _, rfl, ?_⟩
      show if decide ((1 : Int) < (((.str o.name :: (o.pre g ++ vs) : List V).length : Nat) : Int)) = true then _ else _
      rw [l1]
      refine ⟨_, rfl, _, o.name, .str (gword o), rfl, rfl, given_at T o hg, _, rfl, a, _, 1, .int g, rfl, rfl, SqT.of ha, atI_nat (j := 1) (by rw [egp]; rfl), _, rfl, o, g, n, rfl, hg, h2, true, rfl, ?_⟩
      refine ⟨?_, rfl⟩
      rw [epre, hg]
      rfl
  rintro σ1 H1 ⟨rfl, rfl⟩
  have lne : (!decide (V.int (((.str o.name :: (o.pre g ++ vs) : List V).length : Nat) : Int) = V.int (((1 + (o.pre g).length : Nat) : Int) + (o.arity : Int)))) = false := by
    rw [decide_eq_true (congrArg V.int (by rw [hn]; omega))]
    rfl
  refine ⟨_, rfl, a, _, rfl, .inr (SqT.of ha), _, rfl, _, rfl, _, o.name, _, rfl, rfl, arms_at T o, _, _, rfl, rfl, rfl, _, rfl, ?_⟩
  rw [lne]
  refine iteF ?_
  refine ⟨_, rfl, a, o, g, vs, rfl, ⟨ha, hlen.trans h1⟩, fun p hp => ⟨p, rfl, ⟨_, SqT.of upd_same⟩, fun D hD => ?_⟩⟩
  have npD : p ≠ D := ne_of_none upd_same hD
  have sp := Same.new (o := .tup vs) hp
  refine lc_tupY (K := K) (a := p) (xs := vs) (fun i H' => Same H1 H' ∧ H' p = some (.tup vs) ∧ H' D = some (.lst ((List.replicate i true).map V.bl))) ⟨sp.trans (Same.new hD), by rw [upd_ne npD, upd_same], upd_same⟩ (fun i H' _ e => SqT.of e.2.1) ?_ ?_
  · rintro i x H2 hi ⟨s2, p2, e2⟩
    obtain ⟨u, hu, hxu⟩ := WsAt.get hs hi
    have hiv := (List.getElem?_eq_some_iff.mp hi).1
    have hv3 : vs.length ≤ 3 := by rw [hlen, h1]; cases o <;> decide
    have hD1 : H1 D = none := Same.free sp hD
    refine ⟨rfl, _, rfl, _, rfl, _, rfl, r, 1, rfl, rfl, x, n, u, r + 1, rfl, hxu.keep (Keep.same s2), h3 u (List.mem_of_getElem? hu), by omega, by omega, fun H3 s3 => ⟨_, s3 _ _ e2, sm _ (by rw [List.length_map, List.length_replicate]; omega), Ov.Same.updn (s2.trans s3) hD1, by rw [upd_ne npD]; exact s3 _ _ p2, ?_⟩⟩
    rw [upd_same, List.replicate_succ', List.map_append]
    rfl
  · rintro H2 ⟨s2, p2, e2⟩
    refine ⟨D, _, rfl, SqL.of e2, ?_⟩
    have eall : (List.replicate vs.length true).all id = true := by simp
    show Q (.bl ((List.replicate vs.length true).all id)) H2
    rw [eall]
    exact q H2 s2
theorem ok_word_fits (T : Txt w K mg) : ∀ d : Nat, FnOk P w K mg base CX0 (d + 2) (He.ga K "word_fits") (fdOf K d_word_fits) ["word", "functions", "around"] (spWordFits d)
  | 0 => fn0 fun vs H Q E ⟨_, _, _, _, _, _, h, _⟩ => nomatch h
  | d + 1 => ok_word_fitsS T (ok_word_fits T d)
theorem sc_function_fits : FnScope ["function", "functions", "size", "body"] ["function", "functions"] (defScope s_function_fits) := ⟨rfl, rfl, rfl, by decide +kernel, rfl, by decide +kernel, by decide +kernel⟩
-- 0 function, 1 functions, 2 size, 3 body
theorem ok_function_fits (T : Txt w K mg) : FnOk P w K mg base CX0 10 (He.ga K "function_fits") (fdOf K d_function_fits) ["function", "functions"] spFunctionFits := by
  have G_between := ok_between (P := P) (base := base) T
  have G_word_fits := ok_word_fits (P := P) (base := base) T 7
  have G_words_of := ok_words_of (P := P) (base := base) T
  refine T.F_function_fits.ok sc_function_fits (fun vs H Q E h => ?_) (fun cdv A outer s H vs Q E hr h => ?_)
  · obtain ⟨v, n, f, rfl, _⟩ := h
    rfl
  obtain ⟨v, n, f, rfl, ⟨b, bv, rfl, hb, hw⟩, ⟨f1, f8, fk, fz⟩, q⟩ := h
  refine ⟨_, PSs.nox (pss_cons (ps_if (PW.pt (pw_or (pt_not (pt_val (pe_callB (r := rIsi K) call_isi (by rfl) T.z_isinstance (by decide +kernel) (pa_cons (pv 0) (pa_cons (pe_bltn (v := .ty "tuple") (by rfl) T.z_tuple (by decide +kernel) rfl) pa_nil))))) (pw_or1 (pt_cmpR op_ne (pe_callB (r := Evl.rLenS K) call_len_seq (by rfl) T.z_len PySem.boot_len (pa_cons (pv 0) pa_nil)) pe_int (nomark _))))) (pss_one (ps_ret pe_bl)) pss_nil)
      (pss_cons (ps_asg (pv 0) (Ov.pg_tupK (K := K) (n := 2) rfl rfl (pgs_cons (pg_name (i := 2) sc_function_fits.nd rfl (by first | exact Or.inl rfl | exact Or.inr rfl)) (pgs_cons (pg_name (i := 3) sc_function_fits.nd rfl (by first | exact Or.inl rfl | exact Or.inr rfl)) pgs_nil))))
      (pss_cons (ps_if (PW.pt (pw_or (pt_not (pt_val (pe_call G_between (hr.mono (by omega)) (by rfl) T.g_between T.kp_between T.b_between .nil pass0 (pa_cons (pv 2) (pa_cons pe_int (pa_cons (pe_glob (v := .int 8) (by rfl) T.i_MOST_CELLS.choose_spec ⟨_, rfl⟩) pa_nil)))))) (pw_or1 (pt_not (pt_val (pe_call G_word_fits (hr.mono (by omega)) (by rfl) T.g_word_fits T.kp_word_fits T.b_word_fits .nil pass0 (pa_cons (pv 3) (pa_cons (pv 1) (pa_cons pe_int pa_nil))))))))) (pss_one (ps_ret pe_bl)) pss_nil)
      (pss_one (ps_ret (pe_cmpR op_le (pe_callB (r := Evl.rLenS K) call_len_seq (by rfl) T.z_len PySem.boot_len (pa_cons (pe_call G_words_of (hr.mono (by omega)) (by rfl) T.g_words_of T.kp_words_of T.b_words_of .nil pass0 (pa_cons (pv 3) pa_nil)) pa_nil)) (pe_glob (v := .int 40) (by rfl) T.i_MOST_WORDS.choose_spec ⟨_, rfl⟩) (nomark _))))))), ?_⟩
  refine ⟨_, rfl, _, .ty "tuple", .type "tuple", .type "tuple", true, rfl, .ty _, .base (.tup hb), k_tuple_tuple, true, rfl, ?_⟩
  refine iteF ⟨_, rfl, b, _, rfl, .inr (SqT.of hb), rfl, _, rfl, iteNS rfl ?_⟩
  refine ⟨_, rfl, b, _, rfl, SqT.of hb, rfl, _, _, rfl, _, _, rfl, rfl, ?_⟩
  refine ⟨_, rfl, f.1, 1, 8, rfl, _, rfl, ?_⟩
  rw [decide_eq_true (show (1 : Int) ≤ f.1 ∧ f.1 ≤ 8 from ⟨f1, f8⟩)]
  refine iteF ⟨_, rfl, _, rfl, bv, n, f.2, 0, rfl, hw, fk, by omega, by decide, fun H1 s1 => ⟨true, rfl, iteF ?_⟩⟩
  have hw1 := hw.keep (Keep.same s1)
  refine ⟨_, rfl, bv, n, f.2, rfl, hw1, fk, by omega, fun H2 p ys s2 hp he hr2 => ⟨p, ys, rfl, .inl (SqL.of he), _, 40, rfl, rfl, ?_⟩⟩
  have hl := Paired.length hr2
  rw [W.rows_len] at hl
  have e : decide ((ys.length : Int) ≤ 40) = true := decide_eq_true (by omega)
  show Q (.bl (decide ((ys.length : Int) ≤ 40))) H2
  rw [e]
  exact q H2 (s1.trans s2)
theorem sc_check_program : FnScope ["program", "number", "function"] ["program"] (defScope s_check_program) := ⟨rfl, rfl, rfl, by decide +kernel, rfl, by decide +kernel, by decide +kernel⟩
-- 0 program, 1 number, 2 function
theorem ok_check_program (T : Txt w K mg) : FnOk P w K mg base CX0 11 (He.ga K "check_program") (fdOf K d_check_program) ["program"] spCheckProgram := by
  have G_function_fits := ok_function_fits (P := P) (base := base) T
  refine T.F_check_program.ok sc_check_program (fun vs H Q E h => ?_) (fun cdv A outer s H vs Q E hr h => ?_)
  · obtain ⟨v, p, rfl, _⟩ := h
    rfl
  obtain ⟨v, p, rfl, ⟨a, vs, rfl, ha, hf⟩, ok, q⟩ := h
  have hl := Paired.length hf
  have l1 := ok.l1
  have l8 := ok.l8
  refine ⟨_, PSs.nox (pss_cons (ps_if (pt_cmpR op_eq (pe_callB (r := Evl.rLenS K) call_len_seq (by rfl) T.z_len PySem.boot_len (pa_cons (pv 0) pa_nil)) pe_int (nomark _)) (pss_one ps_never) pss_nil)
      (pss_one (ps_for PassesOwn.never rfl (Ov.pi_en (K := K) .t rfl (by rfl) T.z_enumerate (pa_cons (pv 0) pa_nil)) (Ov.pg_tupK (K := K) (n := 2) rfl rfl (pgs_cons (pg_name (i := 1) sc_check_program.nd rfl (by first | exact Or.inl rfl | exact Or.inr rfl)) (pgs_cons (pg_name (i := 2) sc_check_program.nd rfl (by first | exact Or.inl rfl | exact Or.inr rfl)) pgs_nil))) (pss_one (ps_if (PW.pt (pw_or (pt_cmpR op_ge (pv 1) (pe_glob (v := .int 8) (by rfl) T.i_MOST_FUNCTIONS.choose_spec ⟨_, rfl⟩) (nomark _)) (pw_or1 (pt_not (pt_val (pe_call G_function_fits (hr.mono (by omega)) (by rfl) T.g_function_fits T.kp_function_fits T.b_function_fits .nil pass0 (pa_cons (pv 2) (pa_cons (pe_callB (r := Evl.rLenS K) call_len_seq (by rfl) T.z_len PySem.boot_len (pa_cons (pv 0) pa_nil)) pa_nil)))))))) (pss_one ps_never) pss_nil))))), ?_⟩
  have e0 : decide (V.int ((vs.length : Nat) : Int) = V.int 0) = false := decide_eq_false fun z => by
    have z1 := V.int.inj z
    omega
  refine ⟨_, rfl, a, vs, rfl, .inr (SqT.of ha), rfl, _, rfl, ?_⟩
  rw [e0]
  refine iteF ?_
  refine ⟨_, rfl, a, vs, rfl, SqT.of ha, for_it (walk_en (K := K) (k := .t) (a := a) (xs := vs)) (fun i σ H' => ∃ y1 y2 : Option V, σ = [some (.ref a), y1, y2] ∧ Same H H') ⟨none, none, rfl, Same.refl H⟩ (fun i σ H' _ ⟨_, _, _, s⟩ => SqT.of (s _ _ ha)) ?_ ?_⟩
  · rintro i x σ H1 H2 hi ⟨y1, y2, rfl, s1⟩ ⟨t, x1, x2, rfl, ht, rfl, e1, e2⟩
    have e1' := Option.some.inj e1
    subst e1'
    have s2 := s1.trans (Same.new (o := .tup [.int (i : Nat), x2]) ht)
    obtain ⟨f, hf1, hf2⟩ := Paired.get2 hf e2
    refine ⟨t, _, rfl, SqT.of upd_same, rfl, _, _, rfl, _, _, rfl, rfl, ?_⟩
    have e8 : decide ((8 : Int) ≤ (i : Int)) = false := decide_eq_false (by omega)
    refine ⟨_, rfl, _, 8, rfl, rfl, _, rfl, ?_⟩
    rw [e8]
    refine iteF ?_
    refine ⟨_, rfl, _, rfl, a, vs, rfl, .inr (SqT.of (s2 _ _ ha)), x2, vs.length, f, rfl, hf2.keep (Keep.same s2), by rw [hl]; exact ok.f f (List.mem_of_getElem? hf1), fun H3 s3 => ⟨true, rfl, iteF ?_⟩⟩
    exact ⟨_, _, rfl, s2.trans s3⟩
  · rintro σ H1 ⟨y1, y2, rfl, s1⟩
    exact q H1 s1
end
end K16

namespace K16
open PySem PySem.Spec PyProof.Rows L2 Ov
section
variable {P : Program} {w : World} {K : PySem.W.Frag} {mg : Str → Option Value} {base : Heap}
theorem sc_check_function : FnScope ["function", "functions"] ["function", "functions"] (defScope s_check_function) := ⟨rfl, rfl, rfl, by decide +kernel, rfl, by decide +kernel, by decide +kernel⟩
-- 0 function, 1 functions
theorem ok_check_function (T : Txt w K mg) : FnOk P w K mg base CX0 2 (He.ga K "check_function") (fdOf K d_check_function) ["function", "functions"] spCheckFunction := by
  have G_between := ok_between (P := P) (base := base) T
  refine T.F_check_function.ok sc_check_function (fun vs H Q E h => ?_) (fun cdv A outer s H vs Q E hr h => ?_)
  · obtain ⟨f, n, rfl, _⟩ := h
    rfl
  obtain ⟨f, n, rfl, hlt, q⟩ := h
  refine ⟨_, PSs.nox (pss_one (ps_if (pt_not (pt_val (pe_call G_between (hr.mono (by omega)) (by rfl) T.g_between T.kp_between T.b_between .nil pass0 (pa_cons (pv 0) (pa_cons pe_int (pa_cons (pe_op op_sub (pv 1) pe_int) pa_nil)))))) (pss_one ps_never) pss_nil)), ?_⟩
  refine ⟨_, rfl, _, rfl, _, 1, rfl, rfl, f, 0, _, rfl, _, rfl, ?_⟩
  rw [decide_eq_true (show (0 : Int) ≤ (f : Int) ∧ (f : Int) ≤ (n : Int) - 1 from ⟨by omega, by omega⟩)]
  exact iteF q
end
end K16

namespace K16
open PySem PySem.Spec PyProof.Rows L2 Ov
section
variable {P : Program} {w : World} {K : PySem.W.Frag} {mg : Str → Option Value} {base : Heap}
theorem sc_rises : FnScope ["row", "low", "high"] ["row"] (defScope s_rises) := ⟨rfl, rfl, rfl, by decide +kernel, rfl, by decide +kernel, by decide +kernel⟩
-- 0 row, 1 low, 2 high
theorem ok_rises (T : Txt w K mg) : FnOk P w K mg base CX0 1 (He.ga K "rises") (fdOf K d_rises) ["row"] spRises := by
  refine T.F_rises.ok sc_rises (fun vs H Q E h => ?_) (fun cdv A outer s H vs Q E hr h => ?_)
  · obtain ⟨a, ns, rfl, _⟩ := h
    rfl
  obtain ⟨a, ns, rfl, ha, hp, hl, q⟩ := h
  have hn : ns.length - 1 = min (nV ns).length ((nV ns).drop 1).length := by rw [List.length_drop, nV_len]; omega
  have up : ∀ (i : Nat) (x y : V), (nV ns)[i]? = some x → ((nV ns).drop 1)[i]? = some y → ∃ u v : Nat, x = .int (u : Int) ∧ y = .int (v : Int) ∧ u < v := fun i x y hx hy => by
    rw [List.getElem?_drop] at hy
    obtain ⟨u, hu, rfl⟩ := nV_int hx
    obtain ⟨v, hv, rfl⟩ := nV_int hy
    obtain ⟨h1, e1⟩ := List.getElem?_eq_some_iff.mp hu
    obtain ⟨h2, e2⟩ := List.getElem?_eq_some_iff.mp hv
    have z := List.pairwise_iff_getElem.mp hp i (1 + i) h1 h2 (by omega)
    rw [e1, e2] at z
    exact ⟨u, v, rfl, rfl, z⟩
  rcases ha with ha | ⟨ha, hne⟩
  · refine ⟨_, PSs.nox (pss_one (ps_ret (pe_callB (r := rAll K) (cr_all rfl) (by rfl) T.z_all (by decide +kernel) (pa_cons (pe_lc (own := [("low", 1), ("high", 2)]) rfl sc_rises.nd (Ov.pi_zp (K := K) .l .l rfl (by rfl) T.z_zip (pa_cons (pv 0) (pa_cons (pe_slice (r := rSlL K) sl_list (pv 0) (po_some pe_int) po_none) pa_nil))) (blkOk_by (own := [("low", 1), ("high", 2)]) (N := ["row", "low", "high"]) (sc := defScope s_rises) (by decide +kernel)) (fun _ _ _ _ _ => (Ov.pg_tupK (K := K) (n := 2) rfl rfl (pgs_cons (pg_name (i := 1) sc_rises.nd rfl (by first | exact Or.inl rfl | exact Or.inr rfl)) (pgs_cons (pg_name (i := 2) sc_rises.nd rfl (by first | exact Or.inl rfl | exact Or.inr rfl)) pgs_nil)))) (fun _ _ _ _ _ => pts_nil) (fun _ _ _ _ _ => (pe_cmpR op_lt (pv 1) (pv 2) (nomark _)))) pa_nil)))), ?_⟩
    refine ⟨_, rfl, _, rfl, 1, rfl, a, nV ns, rfl, SqL.of ha, fun c hc => ?_⟩
    have s1 := Same.new (o := .lst (cutV (nV ns) (some 1) none)) hc
    refine ⟨a, c, nV ns, _, rfl, SqL.of (s1 _ _ ha), SqL.of upd_same, fun D hD => ?_⟩
    have ncD : c ≠ D := ne_of_none upd_same hD
    have fD := Same.free s1 hD
    have ecut : cutV (nV ns) (some 1) none = (nV ns).drop 1 := by
      cases ns with
      | nil => rfl
      | cons x r => exact cut_from _ 1 (by rw [nV_len]; exact Nat.succ_le_succ (Nat.zero_le _))
    rw [ecut] at hD s1 ⊢
    refine lc_itY (walk_zp (K := K) (k := .l) (m := .l) (a := a) (b := c) hn) (fun i H' => Same H H' ∧ H' c = some (.lst ((nV ns).drop 1)) ∧ H' D = some (.lst ((List.replicate i true).map V.bl))) ⟨s1.trans (Same.new hD), by rw [upd_ne ncD, upd_same], upd_same⟩ (fun i H' _ e => ⟨SqL.of (e.1 _ _ ha), SqL.of e.2.1⟩) ?_ ?_
    · rintro i z H1 H2 hi ⟨s2, c2, e2⟩ ⟨t, x, y, rfl, ht, rfl, hx, hy⟩
      obtain ⟨u, v, rfl, rfl, lt⟩ := up i x y hx hy
      have s3 := Same.new (o := .tup [.int (u : Int), .int (v : Int)]) ht
      refine ⟨t, _, rfl, SqT.of upd_same, rfl, _, _, rfl, _, _, rfl, rfl, rfl, _, rfl, _, rfl, _, _, rfl, rfl, _, s3 _ _ e2, sm _ (by rw [List.length_map, List.length_replicate]; omega), Ov.Same.updn (s2.trans s3) fD, by rw [upd_ne ncD]; exact s3 _ _ c2, ?_⟩
      have elt : decide (((u : Nat) : Int) < (v : Int)) = true := decide_eq_true (by omega)
      show upd _ D (.lst ((List.replicate i true).map V.bl ++ [.bl (decide (((u : Nat) : Int) < (v : Int)))])) D = _
      rw [upd_same, elt, rep_snoc]
    · rintro H1 ⟨s2, c2, e2⟩
      refine ⟨D, _, rfl, SqL.of e2, ?_⟩
      show Q (.bl ((List.replicate (ns.length - 1) true).all id)) H1
      rw [rep_all]
      exact q H1 s2
  · 
    refine ⟨_, PSs.nox (pss_one (ps_ret (pe_callB (r := rAll K) (cr_all rfl) (by rfl) T.z_all (by decide +kernel) (pa_cons (pe_lc (own := [("low", 1), ("high", 2)]) rfl sc_rises.nd (Ov.pi_zp (K := K) .t .t rfl (by rfl) T.z_zip (pa_cons (pv 0) (pa_cons (pe_slice (r := rSlA K) sl_tupA (pv 0) (po_some pe_int) po_none) pa_nil))) (blkOk_by (own := [("low", 1), ("high", 2)]) (N := ["row", "low", "high"]) (sc := defScope s_rises) (by decide +kernel)) (fun _ _ _ _ _ => (Ov.pg_tupK (K := K) (n := 2) rfl rfl (pgs_cons (pg_name (i := 1) sc_rises.nd rfl (by first | exact Or.inl rfl | exact Or.inr rfl)) (pgs_cons (pg_name (i := 2) sc_rises.nd rfl (by first | exact Or.inl rfl | exact Or.inr rfl)) pgs_nil)))) (fun _ _ _ _ _ => pts_nil) (fun _ _ _ _ _ => (pe_cmpR op_lt (pv 1) (pv 2) (nomark _)))) pa_nil)))), ?_⟩
    have hns : 1 ≤ ns.length := List.length_pos_iff.mpr hne
    have ecut : cutV (nV ns) (some 1) none = (nV ns).drop 1 := cut_from _ 1 (by rw [nV_len]; exact hns)
    refine ⟨_, rfl, _, rfl, 1, rfl, a, nV ns, rfl, SqT.of ha, fun z => ?_, fun _ c hc => ?_⟩
    · have z1 := z.1
      have z2 : HT.sIx (nV ns).length 0 (some 1) = min 1 (nV ns).length := HT.sIx_nat _ 0 1
      rw [nV_len] at z1 z2
      omega
    have s1 := Same.new (o := .tup (cutV (nV ns) (some 1) none)) hc
    refine ⟨a, c, nV ns, _, rfl, SqT.of (s1 _ _ ha), SqT.of upd_same, fun D hD => ?_⟩
    have ncD : c ≠ D := ne_of_none upd_same hD
    have fD := Same.free s1 hD
    rw [ecut] at hD s1 ⊢
    refine lc_itY (walk_zp (K := K) (k := .t) (m := .t) (a := a) (b := c) hn) (fun i H' => Same H H' ∧ H' c = some (.tup ((nV ns).drop 1)) ∧ H' D = some (.lst ((List.replicate i true).map V.bl))) ⟨s1.trans (Same.new hD), by rw [upd_ne ncD, upd_same], upd_same⟩ (fun i H' _ e => ⟨SqT.of (e.1 _ _ ha), SqT.of e.2.1⟩) ?_ ?_
    · rintro i z H1 H2 hi ⟨s2, c2, e2⟩ ⟨t, x, y, rfl, ht, rfl, hx, hy⟩
      obtain ⟨u, v, rfl, rfl, lt⟩ := up i x y hx hy
      have s3 := Same.new (o := .tup [.int (u : Int), .int (v : Int)]) ht
      refine ⟨t, _, rfl, SqT.of upd_same, rfl, _, _, rfl, _, _, rfl, rfl, rfl, _, rfl, _, rfl, _, _, rfl, rfl, _, s3 _ _ e2, sm _ (by rw [List.length_map, List.length_replicate]; omega), Ov.Same.updn (s2.trans s3) fD, by rw [upd_ne ncD]; exact s3 _ _ c2, ?_⟩
      have elt : decide (((u : Nat) : Int) < (v : Int)) = true := decide_eq_true (by omega)
      show upd _ D (.lst ((List.replicate i true).map V.bl ++ [.bl (decide (((u : Nat) : Int) < (v : Int)))])) D = _
      rw [upd_same, elt, rep_snoc]
    · rintro H1 ⟨s2, c2, e2⟩
      refine ⟨D, _, rfl, SqL.of e2, ?_⟩
      show Q (.bl ((List.replicate (ns.length - 1) true).all id)) H1
      rw [rep_all]
      exact q H1 s2
theorem sc_part_fits : FnScope ["part", "functions", "function"] ["part", "functions"] (defScope s_part_fits) := ⟨rfl, rfl, rfl, by decide +kernel, rfl, by decide +kernel, by decide +kernel⟩
-- 0 part, 1 functions, 2 function
theorem ok_part_fits (T : Txt w K mg) : FnOk P w K mg base CX0 2 (He.ga K "part_fits") (fdOf K d_part_fits) ["part", "functions"] spPartFits := by
  have G_between := ok_between (P := P) (base := base) T
  have G_rises := ok_rises (P := P) (base := base) T
  refine T.F_part_fits.ok sc_part_fits (fun vs H Q E h => ?_) (fun cdv A outer s H vs Q E hr h => ?_)
  · obtain ⟨v, n, p, rfl, _⟩ := h
    rfl
  obtain ⟨v, n, p, rfl, ⟨b, rfl, hb⟩, hne, hri, hlt, h8, q⟩ := h
  refine ⟨_, PSs.nox (pss_cons (ps_if (PW.pt (pw_or (pt_not (pt_val (pe_callB (r := rIsi K) call_isi (by rfl) T.z_isinstance (by decide +kernel) (pa_cons (pv 0) (pa_cons (pe_bltn (v := .ty "tuple") (by rfl) T.z_tuple (by decide +kernel) rfl) pa_nil))))) (pw_or1 (pt_cmpR op_eq (pe_callB (r := Evl.rLenS K) call_len_seq (by rfl) T.z_len PySem.boot_len (pa_cons (pv 0) pa_nil)) pe_int (nomark _))))) (pss_one (ps_ret pe_bl)) pss_nil)
      (pss_one (ps_ret (pe_and (pe_callB (r := rAll K) (cr_all rfl) (by rfl) T.z_all (by decide +kernel) (pa_cons (pe_lc (own := [("function", 2)]) rfl sc_part_fits.nd (Ov.pi_tupK (K := K) rfl (pv 0)) (blkOk_by (own := [("function", 2)]) (N := ["part", "functions", "function"]) (sc := defScope s_part_fits) (by decide +kernel)) (fun _ _ _ _ _ => (pg_name (i := 2) sc_part_fits.nd rfl (by first | exact Or.inl rfl | exact Or.inr rfl))) (fun _ _ _ _ _ => pts_nil) (fun _ _ _ _ _ => (pe_call G_between (hr.mono (by omega)) (by rfl) T.g_between T.kp_between T.b_between .nil pass0 (pa_cons (pv 2) (pa_cons pe_int (pa_cons (pe_op op_sub (pv 1) pe_int) pa_nil)))))) pa_nil)) (pe_one (pe_call G_rises (hr.mono (by omega)) (by rfl) T.g_rises T.kp_rises T.b_rises .nil pass0 (pa_cons (pv 0) pa_nil))))))), ?_⟩
  have e0 : decide (V.int (((nV p).length : Nat) : Int) = V.int 0) = false := decide_eq_false fun z => by
    have z1 := V.int.inj z
    have := List.length_pos_iff.mpr hne
    rw [nV_len] at z1
    omega
  refine ⟨_, rfl, _, .ty "tuple", .type "tuple", .type "tuple", true, rfl, .ty _, .base (.tup hb), k_tuple_tuple, true, rfl, iteF ⟨_, rfl, b, _, rfl, .inr (SqT.of hb), rfl, _, rfl, ?_⟩⟩
  rw [e0]
  refine iteF ⟨_, rfl, b, rfl, ⟨_, SqT.of hb⟩, fun D hD => ?_⟩
  refine lc_tupY (K := K) (a := b) (xs := nV p) (fun i H' => Same H H' ∧ H' D = some (.lst ((List.replicate i true).map V.bl))) ⟨Same.new hD, upd_same⟩ (fun i H' _ e => SqT.of (e.1 _ _ hb)) ?_ ?_
  · rintro i x H1 hi ⟨s1, e1⟩
    obtain ⟨y, hy, rfl⟩ := nV_int hi
    have hyn := hlt y (List.mem_of_getElem? hy)
    have hil := (List.getElem?_eq_some_iff.mp hy).1
    refine ⟨rfl, _, rfl, _, rfl, _, 1, rfl, rfl, (y : Int), 0, _, rfl, _, e1, sm _ (by rw [List.length_map, List.length_replicate]; omega), Ov.Same.updn s1 hD, ?_⟩
    rw [upd_same, decide_eq_true (show (0 : Int) ≤ (y : Int) ∧ (y : Int) ≤ (n : Int) - 1 from ⟨by omega, by omega⟩), rep_snoc]
  · rintro H1 ⟨s1, e1⟩
    refine ⟨D, _, rfl, SqL.of e1, _, rfl, ?_⟩
    show if (List.replicate (nV p).length true).all id = true then _ else _
    rw [rep_all]
    refine iteT ?_
    exact ⟨_, rfl, b, p, rfl, .inr ⟨s1 _ _ hb, hne⟩, hri, by omega, fun H2 s2 => q H2 (s1.trans s2)⟩
end
end K16

namespace K16
open PySem PySem.Spec PyProof.Rows L2 Ov
section
variable {P : Program} {w : World} {K : PySem.W.Frag} {mg : Str → Option Value} {base : Heap}
theorem sc_parts_fit : FnScope ["parts", "functions", "held", "part", "function"] ["parts", "functions"] (defScope s_parts_fit) := ⟨rfl, rfl, rfl, by decide +kernel, rfl, by decide +kernel, by decide +kernel⟩
-- 0 parts, 1 functions, 2 held, 3 part, 4 function
theorem ok_parts_fit (T : Txt w K mg) : FnOk P w K mg base CX0 3 (He.ga K "parts_fit") (fdOf K d_parts_fit) ["parts", "functions"] spPartsFit := by
  have G_part_fits := ok_part_fits (P := P) (base := base) T
  have G_rises := ok_rises (P := P) (base := base) T
  refine T.F_parts_fit.ok sc_parts_fit (fun vs H Q E h => ?_) (fun cdv A outer s H vs Q E hr h => ?_)
  · obtain ⟨a, n, us, ps, rfl, _⟩ := h
    rfl
  obtain ⟨a, n, us, ps, rfl, ha, hps, pi, n8, q⟩ := h
  have hl := Paired.length hps
  have hc := pi.count
  refine ⟨_, PSs.nox (pss_cons (ps_if (PW.pt (pw_or (pt_not (pt_val (pe_callB (r := rIsi K) call_isi (by rfl) T.z_isinstance (by decide +kernel) (pa_cons (pv 0) (pa_cons (pe_bltn (v := .ty "tuple") (by rfl) T.z_tuple (by decide +kernel) rfl) pa_nil))))) (pw_or1 (pt_not (pt_val (pe_callB (r := rAll K) (cr_all rfl) (by rfl) T.z_all (by decide +kernel) (pa_cons (pe_lc (own := [("part", 3)]) rfl sc_parts_fit.nd (Ov.pi_tupK (K := K) rfl (pv 0)) (blkOk_by (own := [("part", 3)]) (N := ["parts", "functions", "held", "part", "function"]) (sc := defScope s_parts_fit) (by decide +kernel)) (fun _ _ _ _ _ => (pg_name (i := 3) sc_parts_fit.nd rfl (by first | exact Or.inl rfl | exact Or.inr rfl))) (fun _ _ _ _ _ => pts_nil) (fun _ _ _ _ _ => (pe_call G_part_fits (hr.mono (by omega)) (by rfl) T.g_part_fits T.kp_part_fits T.b_part_fits .nil pass0 (pa_cons (pv 3) (pa_cons (pv 1) pa_nil))))) pa_nil))))))) (pss_one (ps_ret pe_bl)) pss_nil)
      (pss_cons (ps_setLc2 (i := 2) (own := [("part", 3), ("function", 4)]) (vs1 := [4]) rfl sc_parts_fit.nd rfl rfl (sw_true rfl rfl rfl (by decide +kernel)) (Ov.pi_tupK (K := K) rfl (pv 0)) (blkOk_by (own := [("part", 3), ("function", 4)]) (N := ["parts", "functions", "held", "part", "function"]) (sc := defScope s_parts_fit) (by decide +kernel)) (by decide) (fun _ _ _ _ _ => (pg_name (i := 3) sc_parts_fit.nd rfl (by first | exact Or.inl rfl | exact Or.inr rfl))) (fun _ _ _ _ _ => pts_nil) (fun _ _ _ _ _ => (Ov.pi_tupK (K := K) rfl (pv 3))) (fun _ _ _ _ _ => (pg_name (i := 4) sc_parts_fit.nd rfl (by first | exact Or.inl rfl | exact Or.inr rfl))) (fun _ _ _ _ _ => pts_nil) (fun _ _ _ _ _ => (pv 4)))
      (pss_one (ps_ret (pe_and (pe_call G_rises (hr.mono (by omega)) (by rfl) T.g_rises T.kp_rises T.b_rises .nil pass0 (pa_cons (pe_lc (own := [("part", 3)]) rfl sc_parts_fit.nd (Ov.pi_tupK (K := K) rfl (pv 0)) (blkOk_by (own := [("part", 3)]) (N := ["parts", "functions", "held", "part", "function"]) (sc := defScope s_parts_fit) (by decide +kernel)) (fun _ _ _ _ _ => (pg_name (i := 3) sc_parts_fit.nd rfl (by first | exact Or.inl rfl | exact Or.inr rfl))) (fun _ _ _ _ _ => pts_nil) (fun _ _ _ _ _ => (pe_ix (r := rIxT K) ix_tup (pv 3) pe_int (fun _ _ => rfl)))) pa_nil)) (pe_one (pe_cmpR (r := rEqD K) (op_eqD hr.units) (pe_callB (r := rSorted K) cr_sorted (by rfl) T.z_sorted (by decide +kernel) (pa_cons (pv 2) pa_nil)) (pe_listRg rfl (by rfl) T.z_list (prg_1 (by rfl) T.z_range (pv 1))) (nomark _)))))))), ?_⟩
  refine ⟨_, rfl, _, .ty "tuple", .type "tuple", .type "tuple", true, rfl, .ty _, .base (.tup ha), k_tuple_tuple, true, rfl, iteF ⟨_, rfl, a, rfl, ⟨_, SqT.of ha⟩, fun D hD => ?_⟩⟩
  refine lc_tupY (K := K) (a := a) (xs := us) (fun i H' => Same H H' ∧ H' D = some (.lst ((List.replicate i true).map V.bl))) ⟨Same.new hD, upd_same⟩ (fun i H' _ e => SqT.of (e.1 _ _ ha)) ?_ ?_
  · rintro i x H1 hi ⟨s1, e1⟩
    obtain ⟨p, hp, hx⟩ := Paired.get2 hps hi
    have hm := List.mem_of_getElem? hp
    have hil := (List.getElem?_eq_some_iff.mp hi).1
    refine ⟨rfl, _, rfl, _, rfl, x, n, p, rfl, hx.keep (Keep.same s1), pi.ne p hm, pi.rise p hm, fun y hy => pi.lt hm hy, by have := pi.plen hm; omega, fun H2 s2 => ⟨_, s2 _ _ e1, sm _ (by rw [List.length_map, List.length_replicate]; omega), Ov.Same.updn (s1.trans s2) hD, ?_⟩⟩
    rw [upd_same, rep_snoc]
  rintro H1 ⟨s1, e1⟩
  refine ⟨D, _, rfl, SqL.of e1, _, rfl, ?_⟩
  show if (!(List.replicate us.length true).all id) = true then _ else _
  rw [rep_all]
  refine iteF ?_
  -- held
  refine ⟨_, rfl, a, rfl, ⟨_, SqT.of (s1 _ _ ha)⟩, fun B hB => ?_⟩
  refine lc2_out (walk_tup (K := K) (a := a) (xs := us)) (fun i H' => Same H1 H' ∧ H' B = some (.lst (nV (ps.take i).flatten))) ⟨Same.new hB, upd_same⟩ (fun i H' _ e => SqT.of (e.1 _ _ (s1 _ _ ha))) ?_ ?_
  · rintro i x H2 H3 hi ⟨s2, e2⟩ ⟨rfl, hx⟩
    obtain ⟨p, hp, ⟨b, rfl, hb⟩⟩ := Paired.get2 hps hx
    have hm := List.mem_of_getElem? hp
    have hb2 := s2 _ _ (s1 _ _ hb)
    refine ⟨rfl, _, rfl, b, rfl, ⟨_, SqT.of hb2⟩, ?_⟩
    refine lc2_in (walk_tup (K := K) (a := b) (xs := nV p)) (fun j H' => Same H1 H' ∧ H' B = some (.lst (nV ((ps.take i).flatten ++ p.take j)))) ⟨s2, by rw [List.take_zero, List.append_nil]; exact e2⟩ (fun j H' _ e => SqT.of (e.1 _ _ (s1 _ _ hb))) ?_ ?_
    · rintro j y H4 H5 hj ⟨s4, e4⟩ ⟨rfl, hy⟩
      obtain ⟨z, hz, rfl⟩ := nV_int hy
      have hpl := pi.plen hm
      have hfl : (ps.take i).flatten.length ≤ n := by
        have z1 : ps.flatten.length = n := by rw [pi.perm.length_eq, List.length_range]
        have z2 : ps.flatten = (ps.take i).flatten ++ (ps.drop i).flatten := by rw [← List.flatten_append, List.take_append_drop]
        rw [z2, List.length_append] at z1
        omega
      refine ⟨rfl, _, rfl, _, e4, sm _ (by rw [nV_len, List.length_append, List.length_take]; omega), Ov.Same.updn s4 hB, ?_⟩
      rw [upd_same, List.take_add_one, hz, ← List.append_assoc]
      exact congrArg (fun l => some (HO.lst l)) (nV_app _ z).symm
    · rintro H4 ⟨s4, e4⟩
      refine ⟨s4, ?_⟩
      rw [nV_len, List.take_length] at e4
      rw [e4, List.take_add_one, hp]
      simp
  rintro H2 ⟨s2, e2⟩
  rw [hl, List.take_length] at e2
  have s02 := s1.trans s2
  -- rises of the firsts
  refine ⟨_, rfl, a, rfl, ⟨_, SqT.of (s02 _ _ ha)⟩, fun C hC => ?_⟩
  refine lc_tupY (K := K) (a := a) (xs := us) (fun i H' => Same H2 H' ∧ H' C = some (.lst (nV ((ps.take i).map (·.headD 0))))) ⟨Same.new hC, upd_same⟩ (fun i H' _ e => SqT.of (e.1 _ _ (s02 _ _ ha))) ?_ ?_
  · rintro i x H3 hi ⟨s3, e3⟩
    obtain ⟨p, hp, ⟨b, rfl, hb⟩⟩ := Paired.get2 hps hi
    have hm := List.mem_of_getElem? hp
    have hil := (List.getElem?_eq_some_iff.mp hi).1
    have hne := pi.ne p hm
    have h0 : (nV p)[0]? = some (.int ((p.headD 0 : Nat) : Int)) := by
      cases p with
      | nil => exact absurd rfl hne
      | cons x r => rfl
    refine ⟨rfl, _, rfl, b, _, 0, _, rfl, rfl, SqT.of (s3 _ _ (s02 _ _ hb)), atI_nat (j := 0) h0, _, e3, sm _ (by rw [nV_len, List.length_map, List.length_take]; omega), Ov.Same.updn s3 hC, ?_⟩
    rw [upd_same, List.take_add_one, hp, List.map_append]
    exact congrArg (fun l => some (HO.lst l)) (nV_app _ _).symm
  rintro H3 ⟨s3, e3⟩
  rw [hl, List.take_length] at e3
  refine ⟨C, _, rfl, .inl e3, pi.firsts, by rw [List.length_map]; omega, fun H4 s4 => ⟨true, rfl, iteT ?_⟩⟩
  -- sorted(held) == list(range(functions))
  have e4 := s4 _ _ (s3 _ _ e2)
  rw [nV_ints] at e4
  have hfl : ps.flatten.length = n := by rw [pi.perm.length_eq, List.length_range]
  refine ⟨_, rfl, B, _, rfl, SqL.of e4, by rw [List.length_map, hfl]; omega, fun ns p hperm hpw hp => ?_⟩
  have ens := pi.sorted hperm hpw
  refine ⟨_, rfl, _, rfl, RgOk.of_le (by omega) (by omega) (by omega) (by omega), fun r hr2 => ?_⟩
  have npr : p ≠ r := ne_of_none upd_same hr2
  have er : rgV 0 (n : Int) = ns.map V.int := by rw [rgV_nV, nV_ints, ens]
  have s5 := (Same.new (o := .lst (ns.map V.int)) hp).trans (Same.new (o := .lst (rgV 0 (n : Int))) hr2)
  refine ⟨.list (ns.map PyData.int), .list (ns.map PyData.int), .lst (SqL.of (by rw [upd_ne npr]; exact upd_same)) (dpInts ns), .lst (xs := ns.map V.int) (SqL.of (by rw [upd_same, er])) (dpInts ns), intsShaped ns, intsShaped ns, ?_⟩
  rw [eqvInts]
  exact q _ (s02.trans (s3.trans (s4.trans s5)))
theorem sc_has_end : FnScope ["stands", "part", "under", "_"] ["stands", "part"] (defScope s_has_end) := ⟨rfl, rfl, rfl, by decide +kernel, rfl, by decide +kernel, by decide +kernel⟩
-- 0 stands, 1 part, 2 under, 3 _
theorem ok_has_end (T : Txt w K mg) : FnOk P w K mg base CX0 1 (He.ga K "has_end") (fdOf K d_has_end) ["stands", "part"] spHasEnd := by
  refine T.F_has_end.ok sc_has_end (fun vs H Q E h => ?_) (fun cdv A outer s H vs Q E hr h => ?_)
  · obtain ⟨a, st, x, od, rfl, _⟩ := h
    rfl
  obtain ⟨a, st, x, od, rfl, ha, hod, sinv, hx, h8, q⟩ := h
  have hol : od.length = st.length := by rw [hod.length_eq, List.length_range]
  refine ⟨_, PSs.nox (pss_cons (ps_set (i := 2) sc_has_end.nd rfl (by first | exact Or.inl rfl | exact Or.inr rfl) (pv 1))
      (pss_cons (ps_for PassesOwn.never rfl (pi_range1 (by rfl) T.z_range (pa_cons (pe_callB (r := Evl.rLenS K) call_len_seq (by rfl) T.z_len PySem.boot_len (pa_cons (pv 0) pa_nil)) pa_nil)) (pg_name (i := 3) sc_has_end.nd rfl (by first | exact Or.inl rfl | exact Or.inr rfl)) (pss_one (ps_if (pt_cmpR op_ne (pv 2) (pe_glob (v := .int (-1)) (by rfl) T.i_NO_PART.choose_spec ⟨_, rfl⟩) (nomark _)) (pss_one (ps_set (i := 2) sc_has_end.nd rfl (by first | exact Or.inl rfl | exact Or.inr rfl) (pe_ix (r := rIxT K) ix_tup (pv 0) (pv 2) (fun _ _ => rfl)))) pss_nil)))
      (pss_one (ps_ret (pe_cmpR op_eq (pv 2) (pe_glob (v := .int (-1)) (by rfl) T.i_NO_PART.choose_spec ⟨_, rfl⟩) (nomark _)))))), ?_⟩
  refine ⟨_, rfl, _, rfl, a, _, rfl, .inr (SqT.of ha), _, rfl, by omega, by rw [List.length_map]; omega, for_range (lo := 0) (n := (((st.map V.int).length : Nat) : Int).toNat) (fun i σ H' => ∃ (z : Int) (y3 : Option V), σ = [some (.ref a), some (.int (x : Int)), some (.int z), y3] ∧ H' = H ∧ (z = -1 ∨ ∃ t y : Nat, od[t]? = some y ∧ z = (y : Int) ∧ t + i < st.length)) ⟨x, none, rfl, rfl, ?_⟩ ?_ ?_⟩
  · obtain ⟨t, ht⟩ := List.mem_iff_getElem?.mp (hod.mem_iff.mpr (List.mem_range.mpr hx))
    exact .inr ⟨t, x, ht, rfl, by have := (List.getElem?_eq_some_iff.mp ht).1; omega⟩
  · rintro i σ H1 hi ⟨z, y3, rfl, rfl, hz⟩
    refine ⟨_, rfl, rfl, _, rfl, ?_⟩
    rcases hz with rfl | ⟨t, y, ht, rfl, hti⟩
    · show if (!decide (V.int (-1) = V.int (-1))) = true then _ else _
      rw [decide_eq_true rfl]
      exact ⟨-1, _, rfl, rfl, .inl rfl⟩
    · have ne : decide (V.int (y : Int) = V.int (-1)) = false := decide_eq_false fun e => by
        have := V.int.inj e
        omega
      show if (!decide (V.int (y : Int) = V.int (-1))) = true then _ else _
      rw [ne]
      rcases sinv t y ht with e | ⟨j, u, hj, hu, e⟩
      · exact ⟨_, rfl, _, rfl, a, _, _, .int (-1), rfl, rfl, SqT.of ha, atI_nat (by rw [List.getElem?_map, e]; rfl), -1, _, rfl, rfl, .inl rfl⟩
      · exact ⟨_, rfl, _, rfl, a, _, _, .int ((u : Nat) : Int), rfl, rfl, SqT.of ha, atI_nat (by rw [List.getElem?_map, e]; rfl), _, _, rfl, rfl, .inr ⟨j, u, hu, rfl, by omega⟩⟩
  · rintro σ H1 ⟨z, y3, rfl, rfl, hz⟩
    rcases hz with rfl | ⟨t, y, ht, rfl, hti⟩
    · refine ⟨_, rfl, rfl, ?_⟩
      show Q (.bl (decide (V.int (-1) = V.int (-1)))) H1
      rw [decide_eq_true rfl]
      exact q
    · rw [Int.toNat_natCast, List.length_map] at hti
      omega
theorem sc_stands_fit : FnScope ["stands", "parts", "stand", "part"] ["stands", "parts"] (defScope s_stands_fit) := ⟨rfl, rfl, rfl, by decide +kernel, rfl, by decide +kernel, by decide +kernel⟩
-- 0 stands, 1 parts, 2 stand, 3 part
theorem ok_stands_fit (T : Txt w K mg) : FnOk P w K mg base CX0 2 (He.ga K "stands_fit") (fdOf K d_stands_fit) ["stands", "parts"] spStandsFit := by
  have G_between := ok_between (P := P) (base := base) T
  have G_has_end := ok_has_end (P := P) (base := base) T
  refine T.F_stands_fit.ok sc_stands_fit (fun vs H Q E h => ?_) (fun cdv A outer s H vs Q E hr h => ?_)
  · obtain ⟨a, st, m, od, rfl, _⟩ := h
    rfl
  obtain ⟨a, st, m, od, rfl, ha, hm, hod, sinv, h8, q⟩ := h
  have hol : od.length = m := by rw [hod.length_eq, List.length_range]
  have hlm : (st.map V.int).length = m := by rw [List.length_map, hm]
  refine ⟨_, PSs.nox (pss_cons (ps_if (PW.pt (pw_or (pt_not (pt_val (pe_callB (r := rIsi K) call_isi (by rfl) T.z_isinstance (by decide +kernel) (pa_cons (pv 0) (pa_cons (pe_bltn (v := .ty "tuple") (by rfl) T.z_tuple (by decide +kernel) rfl) pa_nil))))) (pw_or1 (pt_cmpR op_ne (pe_callB (r := Evl.rLenS K) call_len_seq (by rfl) T.z_len PySem.boot_len (pa_cons (pv 0) pa_nil)) (pv 1) (nomark _))))) (pss_one (ps_ret pe_bl)) pss_nil)
      (pss_cons (ps_if (pt_not (pt_val (pe_callB (r := rAll K) (cr_all rfl) (by rfl) T.z_all (by decide +kernel) (pa_cons (pe_lc (own := [("stand", 2)]) rfl sc_stands_fit.nd (Ov.pi_tupK (K := K) rfl (pv 0)) (blkOk_by (own := [("stand", 2)]) (N := ["stands", "parts", "stand", "part"]) (sc := defScope s_stands_fit) (by decide +kernel)) (fun _ _ _ _ _ => (pg_name (i := 2) sc_stands_fit.nd rfl (by first | exact Or.inl rfl | exact Or.inr rfl))) (fun _ _ _ _ _ => pts_nil) (fun _ _ _ _ _ => (pe_call G_between (hr.mono (by omega)) (by rfl) T.g_between T.kp_between T.b_between .nil pass0 (pa_cons (pv 2) (pa_cons (pe_glob (v := .int (-1)) (by rfl) T.i_NO_PART.choose_spec ⟨_, rfl⟩) (pa_cons (pe_op op_sub (pv 1) pe_int) pa_nil)))))) pa_nil)))) (pss_one (ps_ret pe_bl)) pss_nil)
      (pss_one (ps_ret (pe_callB (r := rAll K) (cr_all rfl) (by rfl) T.z_all (by decide +kernel) (pa_cons (pe_lc (own := [("part", 3)]) rfl sc_stands_fit.nd (pi_range1 (by rfl) T.z_range (pa_cons (pv 1) pa_nil)) (blkOk_by (own := [("part", 3)]) (N := ["stands", "parts", "stand", "part"]) (sc := defScope s_stands_fit) (by decide +kernel)) (fun _ _ _ _ _ => (pg_name (i := 3) sc_stands_fit.nd rfl (by first | exact Or.inl rfl | exact Or.inr rfl))) (fun _ _ _ _ _ => pts_nil) (fun _ _ _ _ _ => (pe_call G_has_end (hr.mono (by omega)) (by rfl) T.g_has_end T.kp_has_end T.b_has_end .nil pass0 (pa_cons (pv 0) (pa_cons (pv 3) pa_nil))))) pa_nil)))))), ?_⟩
  have enm : (!decide (V.int (((st.map V.int).length : Nat) : Int) = V.int (m : Int))) = false := by rw [hlm, decide_eq_true rfl]; rfl
  refine ⟨_, rfl, _, .ty "tuple", .type "tuple", .type "tuple", true, rfl, .ty _, .base (.tup ha), k_tuple_tuple, true, rfl, iteF ⟨_, rfl, a, _, rfl, .inr (SqT.of ha), _, rfl, rfl, _, rfl, ?_⟩⟩
  rw [enm]
  refine iteF ⟨_, rfl, a, rfl, ⟨_, SqT.of ha⟩, fun D hD => ?_⟩
  refine lc_tupY (K := K) (a := a) (xs := st.map V.int) (fun i H' => Same H H' ∧ H' D = some (.lst ((List.replicate i true).map V.bl))) ⟨Same.new hD, upd_same⟩ (fun i H' _ e => SqT.of (e.1 _ _ ha)) ?_ ?_
  · rintro i x H1 hi ⟨s1, e1⟩
    obtain ⟨y, hy, rfl⟩ := ints_int hi
    have hil := (List.getElem?_eq_some_iff.mp hy).1
    have hb : -1 ≤ y ∧ y ≤ (m : Int) - 1 := by
      obtain ⟨t, ht⟩ := List.mem_iff_getElem?.mp (hod.mem_iff.mpr (List.mem_range.mpr (by omega : i < m)))
      rcases sinv t i ht with e | ⟨j, u, hj, hu, e⟩
      · have := Option.some.inj (hy.symm.trans e)
        omega
      · have z1 := Option.some.inj (hy.symm.trans e)
        have z2 := List.mem_range.mp (hod.mem_iff.mp (List.mem_of_getElem? hu))
        omega
    refine ⟨rfl, _, rfl, _, rfl, _, 1, rfl, rfl, y, -1, _, rfl, _, e1, sm _ (by rw [List.length_map, List.length_replicate]; omega), Ov.Same.updn s1 hD, ?_⟩
    rw [upd_same, decide_eq_true hb, rep_snoc]
  rintro H1 ⟨s1, e1⟩
  refine ⟨D, _, rfl, SqL.of e1, true, ?_, iteF ?_⟩
  · show V.bl ((List.replicate (st.map V.int).length true).all id) = V.bl true
    rw [rep_all]
  refine ⟨_, rfl, _, rfl, by omega, by omega, fun B hB => ?_⟩
  refine lc_rangeY (lo := 0) (n := ((m : Nat) : Int).toNat) (fun i H' => Same H1 H' ∧ H' B = some (.lst ((List.replicate i true).map V.bl))) ⟨Same.new hB, upd_same⟩ ?_ ?_
  · rintro i H2 hi ⟨s2, e2⟩
    rw [Int.toNat_natCast] at hi
    refine ⟨rfl, _, rfl, _, rfl, a, st, i, od, ?_, s2 _ _ (s1 _ _ ha), by rw [hm]; exact hod, sinv, by omega, by omega, _, e2, sm _ (by rw [List.length_map, List.length_replicate]; omega), Ov.Same.updn s2 hB, ?_⟩
    · show [V.ref a, V.int (0 + (i : Int))] = _
      rw [Int.zero_add]
    · rw [upd_same, rep_snoc]
  · rintro H2 ⟨s2, e2⟩
    refine ⟨B, _, rfl, SqL.of e2, ?_⟩
    show Q (.bl ((List.replicate ((m : Nat) : Int).toNat true).all id)) H2
    rw [rep_all]
    exact q H2 (s1.trans s2)
theorem sc_check_tree : FnScope ["program", "tree"] ["program", "tree"] (defScope s_check_tree) := ⟨rfl, rfl, rfl, by decide +kernel, rfl, by decide +kernel, by decide +kernel⟩
-- 0 program, 1 tree
theorem ok_check_tree (T : Txt w K mg) : FnOk P w K mg base CX0 12 (He.ga K "check_tree") (fdOf K d_check_tree) ["program", "tree"] spCheckTree := by
  have G_check_program := ok_check_program (P := P) (base := base) T
  have G_parts_fit := ok_parts_fit (P := P) (base := base) T
  have G_stands_fit := ok_stands_fit (P := P) (base := base) T
  refine T.F_check_tree.ok sc_check_tree (fun vs H Q E h => ?_) (fun cdv A outer s H vs Q E hr h => ?_)
  · obtain ⟨v, t, pr, ps, st, rfl, _⟩ := h
    rfl
  obtain ⟨v, t, pr, ps, st, rfl, ⟨hpr, hok, ⟨a, pa, sa, us, rfl, ha, hpa, hus, hsa⟩, htr⟩, q⟩ := h
  obtain ⟨od, hod, sinv⟩ := htr.ord
  have l8 := hok.l8
  have hc := htr.p.count
  refine ⟨_, PSs.nox (pss_cons (ps_expr (pe_call G_check_program (hr.mono (by omega)) (by rfl) T.g_check_program T.kp_check_program T.b_check_program .nil pass0 (pa_cons (pv 0) pa_nil)))
      (pss_cons (ps_if (PW.pt (pw_or (pt_cmpR op_ne (pe_callB (r := Evl.rLenS K) call_len_seq (by rfl) T.z_len PySem.boot_len (pa_cons (pv 1) pa_nil)) pe_int (nomark _)) (pw_or1 (pt_not (pt_val (pe_call G_parts_fit (hr.mono (by omega)) (by rfl) T.g_parts_fit T.kp_parts_fit T.b_parts_fit .nil pass0 (pa_cons (pe_ix (r := rIxT K) ix_tup (pv 1) pe_int (fun _ _ => rfl)) (pa_cons (pe_callB (r := Evl.rLenS K) call_len_seq (by rfl) T.z_len PySem.boot_len (pa_cons (pv 0) pa_nil)) pa_nil)))))))) (pss_one ps_never) pss_nil)
      (pss_one (ps_if (pt_not (pt_val (pe_call G_stands_fit (hr.mono (by omega)) (by rfl) T.g_stands_fit T.kp_stands_fit T.b_stands_fit .nil pass0 (pa_cons (pe_ix (r := rIxT K) ix_tup (pv 1) pe_int (fun _ _ => rfl)) (pa_cons (pe_callB (r := Evl.rLenS K) call_len_seq (by rfl) T.z_len PySem.boot_len (pa_cons (pe_ix (r := rIxT K) ix_tup (pv 1) pe_int (fun _ _ => rfl)) pa_nil)) pa_nil))))) (pss_one ps_never) pss_nil)))), ?_⟩
  refine ⟨_, rfl, v, pr, rfl, hpr, hok, fun H1 s1 => ?_⟩
  obtain ⟨pp, pvs, rfl, hpp, hpf⟩ := hpr.keep (Keep.same s1)
  have hpl := Paired.length hpf
  have hul := Paired.length hus
  refine ⟨_, rfl, a, _, rfl, .inr (SqT.of (s1 _ _ ha)), rfl, _, rfl, iteNS rfl ?_⟩
  refine ⟨_, rfl, a, _, 0, _, rfl, rfl, SqT.of (s1 _ _ ha), atI_nat (j := 0) rfl, _, rfl, pp, _, rfl, .inr (SqT.of hpp), pa, pr.length, us, ps, by rw [hpl]; rfl, s1 _ _ hpa, L2.Paired.mapP hus fun _ _ z => z.keep (Keep.same s1), htr.p, l8, fun H2 s2 => ⟨true, rfl, iteF ?_⟩⟩
  have s02 := s1.trans s2
  refine ⟨_, rfl, a, _, 1, _, rfl, rfl, SqT.of (s02 _ _ ha), atI_nat (j := 1) rfl, _, rfl, a, _, 0, _, rfl, rfl, SqT.of (s02 _ _ ha), atI_nat (j := 0) rfl, pa, us, rfl, .inr (SqT.of (s02 _ _ hpa)), ?_⟩
  exact ⟨sa, st, us.length, od, rfl, s02 _ _ hsa, by rw [htr.len, hul], by rw [hul]; exact hod, sinv, by omega, fun H3 s3 => ⟨true, rfl, iteF (q H3 (s02.trans s3))⟩⟩
end
end K16

namespace K16
open PySem PySem.Spec PyProof.Rows L2 Ov
section
variable {P : Program} {w : World} {K : PySem.W.Frag} {mg : Str → Option Value} {base : Heap}

theorem ok_has_endE (T : Txt w K mg) : FnOk P w K mg base CX0 1 (He.ga K "has_end") (fdOf K d_has_end) ["stands", "part"] spHasEndE := by
  refine T.F_has_end.ok sc_has_end (fun vs H Q E h => ?_) (fun cdv A outer s H vs Q E hr h => ?_)
  · obtain ⟨a, st, x, rfl, _⟩ := h
    rfl
  obtain ⟨a, st, x, rfl, ha, hin, hx, h5, q⟩ := h
  have hx0 : -1 ≤ ((x : Nat) : Int) ∧ ((x : Nat) : Int) ≤ (st.length : Int) - 1 := by omega
  refine ⟨_, PSs.nox (pss_cons (ps_set (i := 2) sc_has_end.nd rfl (by first | exact Or.inl rfl | exact Or.inr rfl) (pv 1))
      (pss_cons (ps_for PassesOwn.never rfl (pi_range1 (by rfl) T.z_range (pa_cons (pe_callB (r := Evl.rLenS K) call_len_seq (by rfl) T.z_len PySem.boot_len (pa_cons (pv 0) pa_nil)) pa_nil)) (pg_name (i := 3) sc_has_end.nd rfl (by first | exact Or.inl rfl | exact Or.inr rfl)) (pss_one (ps_if (pt_cmpR op_ne (pv 2) (pe_glob (v := .int (-1)) (by rfl) T.i_NO_PART.choose_spec ⟨_, rfl⟩) (nomark _)) (pss_one (ps_set (i := 2) sc_has_end.nd rfl (by first | exact Or.inl rfl | exact Or.inr rfl) (pe_ix (r := rIxT K) ix_tup (pv 0) (pv 2) (fun _ _ => rfl)))) pss_nil)))
      (pss_one (ps_ret (pe_cmpR op_eq (pv 2) (pe_glob (v := .int (-1)) (by rfl) T.i_NO_PART.choose_spec ⟨_, rfl⟩) (nomark _)))))), ?_⟩
  refine ⟨_, rfl, _, rfl, a, _, rfl, .inr (SqT.of ha), _, rfl, by omega, by rw [List.length_map]; omega, for_range (lo := 0) (n := (((st.map V.int).length : Nat) : Int).toNat) (fun i σ H' => ∃ (y3 : Option V), σ = [some (.ref a), some (.int (x : Int)), some (.int (undr st i (x : Int))), y3] ∧ H' = H) ⟨none, rfl, rfl⟩ ?_ ?_⟩
  · rintro i σ H1 hi ⟨y3, rfl, rfl⟩
    obtain ⟨z1, z2⟩ := und_in hin i hx0
    have es := undr_succ st i (x : Int)
    generalize undr st i (x : Int) = z at z1 z2 es ⊢
    refine ⟨_, rfl, rfl, _, rfl, ?_⟩
    by_cases c : z = -1
    · subst c
      show if (!decide (V.int (-1) = V.int (-1))) = true then _ else _
      rw [decide_eq_true rfl]
      exact ⟨_, by rw [es]; rfl, rfl⟩
    · show if (!decide (V.int z = V.int (-1))) = true then _ else _
      rw [decide_eq_false fun e => c (V.int.inj e)]
      obtain ⟨u, rfl⟩ : ∃ u : Nat, z = (u : Int) := ⟨z.toNat, by omega⟩
      have e : st[u]? = some (st[u]'(by omega)) := List.getElem?_eq_getElem _
      rw [if_neg c, Int.toNat_natCast, e, Option.getD_some] at es
      exact ⟨_, rfl, _, rfl, a, _, _, .int (st[u]'(by omega)), rfl, rfl, SqT.of ha, atI_nat (by rw [List.getElem?_map, e]; rfl), ⟨_, by rw [es]; rfl, rfl⟩⟩
  · rintro σ H1 ⟨y3, rfl, rfl⟩
    rw [Int.toNat_natCast, List.length_map]
    refine ⟨_, rfl, rfl, ?_⟩
    rw [show decide (V.int (undr st st.length (x : Int)) = V.int (-1)) = decide (undr st st.length (x : Int) = -1) from decide_eq_decide.mpr ⟨V.int.inj, congrArg V.int⟩]
    exact q

theorem ok_stands_fitE (T : Txt w K mg) : FnOk P w K mg base CX0 2 (He.ga K "stands_fit") (fdOf K d_stands_fit) ["stands", "parts"] spStandsFitE := by
  have G_between := ok_between (P := P) (base := base) T
  have G_has_end := ok_has_endE (P := P) (base := base) T
  refine T.F_stands_fit.ok sc_stands_fit (fun vs H Q E h => ?_) (fun cdv A outer s H vs Q E hr h => ?_)
  · obtain ⟨v, st, rfl, _⟩ := h
    rfl
  obtain ⟨v, st, rfl, ⟨a, rfl, ha⟩, hin, h5, q⟩ := h
  have hlm : (st.map V.int).length = st.length := List.length_map _
  refine ⟨_, PSs.nox (pss_cons (ps_if (PW.pt (pw_or (pt_not (pt_val (pe_callB (r := rIsi K) call_isi (by rfl) T.z_isinstance (by decide +kernel) (pa_cons (pv 0) (pa_cons (pe_bltn (v := .ty "tuple") (by rfl) T.z_tuple (by decide +kernel) rfl) pa_nil))))) (pw_or1 (pt_cmpR op_ne (pe_callB (r := Evl.rLenS K) call_len_seq (by rfl) T.z_len PySem.boot_len (pa_cons (pv 0) pa_nil)) (pv 1) (nomark _))))) (pss_one (ps_ret pe_bl)) pss_nil)
      (pss_cons (ps_if (pt_not (pt_val (pe_callB (r := rAll K) (cr_all rfl) (by rfl) T.z_all (by decide +kernel) (pa_cons (pe_lc (own := [("stand", 2)]) rfl sc_stands_fit.nd (Ov.pi_tupK (K := K) rfl (pv 0)) (blkOk_by (own := [("stand", 2)]) (N := ["stands", "parts", "stand", "part"]) (sc := defScope s_stands_fit) (by decide +kernel)) (fun _ _ _ _ _ => (pg_name (i := 2) sc_stands_fit.nd rfl (by first | exact Or.inl rfl | exact Or.inr rfl))) (fun _ _ _ _ _ => pts_nil) (fun _ _ _ _ _ => (pe_call G_between (hr.mono (by omega)) (by rfl) T.g_between T.kp_between T.b_between .nil pass0 (pa_cons (pv 2) (pa_cons (pe_glob (v := .int (-1)) (by rfl) T.i_NO_PART.choose_spec ⟨_, rfl⟩) (pa_cons (pe_op op_sub (pv 1) pe_int) pa_nil)))))) pa_nil)))) (pss_one (ps_ret pe_bl)) pss_nil)
      (pss_one (ps_ret (pe_callB (r := rAll K) (cr_all rfl) (by rfl) T.z_all (by decide +kernel) (pa_cons (pe_lc (own := [("part", 3)]) rfl sc_stands_fit.nd (pi_range1 (by rfl) T.z_range (pa_cons (pv 1) pa_nil)) (blkOk_by (own := [("part", 3)]) (N := ["stands", "parts", "stand", "part"]) (sc := defScope s_stands_fit) (by decide +kernel)) (fun _ _ _ _ _ => (pg_name (i := 3) sc_stands_fit.nd rfl (by first | exact Or.inl rfl | exact Or.inr rfl))) (fun _ _ _ _ _ => pts_nil) (fun _ _ _ _ _ => (pe_call G_has_end (hr.mono (by omega)) (by rfl) T.g_has_end T.kp_has_end T.b_has_end .nil pass0 (pa_cons (pv 0) (pa_cons (pv 3) pa_nil))))) pa_nil)))))), ?_⟩
  have enm : (!decide (V.int (((st.map V.int).length : Nat) : Int) = V.int (st.length : Int))) = false := by rw [hlm, decide_eq_true rfl]; rfl
  refine ⟨_, rfl, _, .ty "tuple", .type "tuple", .type "tuple", true, rfl, .ty _, .base (.tup ha), k_tuple_tuple, true, rfl, iteF ⟨_, rfl, a, _, rfl, .inr (SqT.of ha), _, rfl, rfl, _, rfl, ?_⟩⟩
  rw [enm]
  refine iteF ⟨_, rfl, a, rfl, ⟨_, SqT.of ha⟩, fun D hD => ?_⟩
  refine lc_tupY (K := K) (a := a) (xs := st.map V.int) (fun i H' => Same H H' ∧ H' D = some (.lst ((List.replicate i true).map V.bl))) ⟨Same.new hD, upd_same⟩ (fun i H' _ e => SqT.of (e.1 _ _ ha)) ?_ ?_
  · rintro i x H1 hi ⟨s1, e1⟩
    obtain ⟨y, hy, rfl⟩ := ints_int hi
    have hil := (List.getElem?_eq_some_iff.mp hy).1
    have hb := hin y (List.mem_of_getElem? hy)
    refine ⟨rfl, _, rfl, _, rfl, _, 1, rfl, rfl, y, -1, _, rfl, _, e1, sm _ (by rw [List.length_map, List.length_replicate]; omega), Ov.Same.updn s1 hD, ?_⟩
    rw [upd_same, decide_eq_true hb, rep_snoc]
  rintro H1 ⟨s1, e1⟩
  refine ⟨D, _, rfl, SqL.of e1, true, ?_, iteF ?_⟩
  · show V.bl ((List.replicate (st.map V.int).length true).all id) = V.bl true
    rw [rep_all]
  refine ⟨_, rfl, _, rfl, by omega, by omega, fun B hB => ?_⟩
  refine lc_rangeY (lo := 0) (n := ((st.length : Nat) : Int).toNat) (fun i H' => Same H1 H' ∧ H' B = some (.lst (((List.range i).map fun x => decide (undr st st.length ((x : Nat) : Int) = -1)).map V.bl))) ⟨Same.new hB, upd_same⟩ ?_ ?_
  · rintro i H2 hi ⟨s2, e2⟩
    rw [Int.toNat_natCast] at hi
    refine ⟨rfl, _, rfl, _, rfl, a, st, i, ?_, s2 _ _ (s1 _ _ ha), hin, hi, h5, _, e2, sm _ (by rw [List.length_map, List.length_map, List.length_range]; omega), Ov.Same.updn s2 hB, ?_⟩
    · show [V.ref a, V.int (0 + (i : Int))] = _
      rw [Int.zero_add]
    · rw [upd_same, List.range_succ, List.map_append, List.map_append]
      rfl
  · rintro H2 ⟨s2, e2⟩
    refine ⟨B, _, rfl, SqL.of e2, ?_⟩
    rw [Int.toNat_natCast, List.all_map]
    exact q H2 (s1.trans s2)
theorem sc_stands_of : FnScope ["parts", "rows", "_", "row", "stand"] ["parts"] (defScope s_stands_of) := ⟨rfl, rfl, rfl, by decide +kernel, rfl, by decide +kernel, by decide +kernel⟩
-- 0 parts, 1 rows, 2 _, 3 row, 4 stand
theorem ok_stands_of (T : Txt w K mg) : FnOk P w K mg base CX0 3 (He.ga K "stands_of") (fdOf K d_stands_of) ["parts"] spStandsOf := by
  have G_stands_fit := ok_stands_fitE (P := P) (base := base) T
  refine T.F_stands_of.ok sc_stands_of (fun vs H Q E h => ?_) (fun cdv A outer s H vs Q E hr h => ?_)
  · obtain ⟨n, rfl, _⟩ := h
    rfl
  obtain ⟨n, rfl, h5, q⟩ := h
  refine ⟨_, PSs.nox (pss_cons (ps_set (i := 1) sc_stands_of.nd rfl (by first | exact Or.inl rfl | exact Or.inr rfl) (pe_lst (pa_cons (pe_tup pa_nil) pa_nil)))
      (pss_cons (ps_for PassesOwn.never rfl (pi_range1 (by rfl) T.z_range (pa_cons (pv 0) pa_nil)) (pg_name (i := 2) sc_stands_of.nd rfl (by first | exact Or.inl rfl | exact Or.inr rfl)) (pss_one (ps_setLc2 (i := 1) (own := [("row", 3), ("stand", 4)]) (vs1 := [4]) rfl sc_stands_of.nd rfl rfl (sw_true rfl rfl rfl (by decide +kernel)) (Ov.pi_listK (K := K) rfl (pv 1)) (blkOk_by (own := [("row", 3), ("stand", 4)]) (N := ["parts", "rows", "_", "row", "stand"]) (sc := defScope s_stands_of) (by decide +kernel)) (by decide) (fun _ _ _ _ _ => (pg_name (i := 3) sc_stands_of.nd rfl (by first | exact Or.inl rfl | exact Or.inr rfl))) (fun _ _ _ _ _ => pts_nil) (fun _ _ _ _ _ => (pi_range2 (by rfl) T.z_range (pa_cons (pe_glob (v := .int (-1)) (by rfl) T.i_NO_PART.choose_spec ⟨_, rfl⟩) (pa_cons (pv 0) pa_nil)))) (fun _ _ _ _ _ => (pg_name (i := 4) sc_stands_of.nd rfl (by first | exact Or.inl rfl | exact Or.inr rfl))) (fun _ _ _ _ _ => pts_nil) (fun _ _ _ _ _ => (pe_op (r := rCatA K) op_catA (pv 3) (pe_tup (pa_cons (pv 4) pa_nil)))))))
      (pss_one (ps_ret (pe_lc (own := [("row", 3)]) rfl sc_stands_of.nd (Ov.pi_listK (K := K) rfl (pv 1)) (blkOk_by (own := [("row", 3)]) (N := ["parts", "rows", "_", "row", "stand"]) (sc := defScope s_stands_of) (by decide +kernel)) (fun _ _ _ _ _ => (pg_name (i := 3) sc_stands_of.nd rfl (by first | exact Or.inl rfl | exact Or.inr rfl))) (fun _ _ _ _ _ => pts_one (pt_val (pe_call G_stands_fit (hr.mono (by omega)) (by rfl) T.g_stands_fit T.kp_stands_fit T.b_stands_fit .nil pass0 (pa_cons (pv 3) (pa_cons (pv 0) pa_nil))))) (fun _ _ _ _ _ => (pv 3))))))), ?_⟩
  refine ⟨sml 0, fun p0 hp0 => ⟨sml 1, fun f0 hf0 => ?_⟩⟩
  have s0 := Same.new (o := .tup []) hp0
  have s1 := Same.new (o := .lst [V.ref p0]) hf0
  have e1 : upd (upd H p0 (.tup [])) f0 (.lst [V.ref p0]) f0 = some (.lst [V.ref p0]) := upd_same
  have ep := s1 _ _ (upd_same : upd H p0 (.tup []) p0 = some (.tup []))
  have sb := s0.trans s1
  have nf0 : H f0 = none := Same.free s0 hf0
  generalize upd (upd H p0 (.tup [])) f0 (.lst [V.ref p0]) = H1 at e1 ep sb ⊢
  refine ⟨_, rfl, (n : Int), rfl, by omega, by omega, ?_⟩
  refine for_range (lo := 0) (n := (n : Int).toNat) (fun k σ' H' => ∃ (f : Addr) (y2 y3 y4 : Option V) (rs : List V), σ' = [some (.int (n : Int)), some (.ref f), y2, y3, y4] ∧ Same H H' ∧ H f = none ∧ H' f = some (.lst rs) ∧ Paired (RowI H') rs (rowN n k)) ⟨f0, none, none, none, _, rfl, sb, nf0, e1, .cons ⟨p0, rfl, ep⟩ .nil⟩ ?_ ?_
  · rintro k σ' H2 hk ⟨f, y2, y3, y4, rs, rfl, s2, nf, e2, hrs⟩
    rw [Int.toNat_natCast] at hk
    have hrl := Paired.length hrs
    have hsz := rowN_few (m := n) (k := k) h5 (by omega)
    refine ⟨_, rfl, f, rfl, ⟨_, SqL.of e2⟩, fun D hD => ?_⟩
    have hD0 : H D = none := Same.free s2 hD
    refine lc2_out (walk_list (K := K) (a := f) (xs := rs)) (fun i H' => ∃ ws, Same H2 H' ∧ H' D = some (.lst ws) ∧ Paired (RowI H') ws (((rowN n k).take i).flatMap fun r => (stdI n).map fun x => r ++ [x]) ∧ ws.length ≤ 6 * i) ⟨[], Same.new hD, upd_same, .nil, Nat.le_refl _⟩ (fun i H' _ ⟨_, e, _⟩ => SqL.of (e _ _ e2)) ?_ ?_
    · rintro i x H3 H4 hi ⟨ws, s3, e3, hws, hwl⟩ ⟨rfl, hx⟩
      obtain ⟨r, hr, hxr⟩ := Paired.get2 hrs hx
      obtain ⟨a, rfl, ha⟩ := hxr
      have hrn := ((rowN_mem k).mp (List.mem_of_getElem? hr)).1
      refine ⟨rfl, _, rfl, -1, (n : Int), rfl, ⟨by omega, by omega, by omega, by omega⟩, ?_⟩
      have en : ((n : Int) - -1).toNat = n + 1 := by omega
      have hsl : (stdI n).length = n + 1 := by unfold stdI; rw [List.length_map, List.length_range]
      refine lc2_in (walk_range (lo := -1) (n := ((n : Int) - -1).toNat)) (fun j H' => ∃ ws', Same H2 H' ∧ H' D = some (.lst ws') ∧ Paired (RowI H') ws' ((((rowN n k).take i).flatMap fun r => (stdI n).map fun x => r ++ [x]) ++ ((stdI n).take j).map fun x => r ++ [x]) ∧ ws'.length ≤ 6 * i + j) ⟨ws, s3, e3, by rw [List.take_zero, List.map_nil, List.append_nil]; exact hws, hwl⟩ (fun _ _ _ _ => True.intro) ?_ ?_
      · rintro j y H6 H7 hj ⟨ws', s6, e6, hws6, hwl6⟩ ⟨rfl, hy⟩
        obtain rfl : y = .int (-1 + (j : Int)) := hy
        have ej : (stdI n)[j]? = some (-1 + (j : Int)) := by
          unfold stdI
          rw [List.getElem?_map, List.getElem?_range (by omega)]
          rfl
        refine ⟨rfl, _, rfl, _, rfl, sml 1, fun p7 hp7 => ?_⟩
        have s7 := Same.new (o := .tup [.int (-1 + (j : Int))]) hp7
        refine cat_ld (s7 _ _ (s6 _ _ ha)) upd_same (by rw [List.length_map]; show _ + 1 ≤ _; omega) fun H8 p8 s8 e8 => ?_
        have s68 := s7.trans s8
        have e8D := s68 _ _ e6
        have kD := Keep.updL (ys := ws' ++ [.ref p8]) e8D
        refine ⟨_, e8D, smn _ (by omega), ws' ++ [.ref p8], Ov.Same.updn (s6.trans s68) hD, upd_same, ?_, by rw [List.length_append]; show _ + 1 ≤ _; omega⟩
        rw [List.take_add_one, ej, List.map_append, ← List.append_assoc]
        refine PySem.Paired.snoc (L2.Paired.mapP hws6 fun _ _ z => (z.keep (Keep.same s68)).keep kD) (RowI.keep kD ⟨p8, rfl, ?_⟩)
        rw [e8, List.map_append]
        rfl
      · rintro H6 ⟨ws', s6, e6, hws6, hwl6⟩
        rw [en, ← hsl, List.take_length] at hws6
        refine ⟨ws', s6, e6, ?_, by omega⟩
        rw [List.take_add_one, hr, List.flatMap_append]
        show Paired _ _ (_ ++ ((stdI n).map (fun x => r ++ [x]) ++ []))
        rw [List.append_nil]
        exact hws6
    · rintro H3 ⟨ws, s3, e3, hws, _⟩
      rw [hrl, List.take_length] at hws
      exact ⟨D, _, _, _, ws, rfl, s2.trans s3, hD0, e3, hws⟩
  · rintro σ' H2 ⟨f, y2, y3, y4, rs, rfl, s2, nf, e2, hrs⟩
    rw [Int.toNat_natCast] at hrs
    have hrl := Paired.length hrs
    have hsz := rowN_few (m := n) (k := n) h5 h5
    refine ⟨_, rfl, f, rfl, ⟨_, SqL.of e2⟩, fun D hD => ?_⟩
    have hD0 : H D = none := Same.free s2 hD
    refine lc_list (K := K) (a := f) (xs := rs) (fun i H' => ∃ ws, Same H2 H' ∧ H' D = some (.lst ws) ∧ Paired (RowI H') ws (((rowN n n).take i).filter fitB) ∧ ws.length ≤ i) ⟨[], Same.new hD, upd_same, .nil, Nat.le_refl _⟩ (fun i H' _ ⟨_, e, _⟩ => SqL.of (e _ _ e2)) ?_ ?_
    · rintro i x H3 hi ⟨ws, s3, e3, hws, hwl⟩
      obtain ⟨r, hr, hxr⟩ := Paired.get2 hrs hi
      obtain ⟨h1, h2⟩ := (rowN_mem n).mp (List.mem_of_getElem? hr)
      have hil := (List.getElem?_eq_some_iff.mp hi).1
      refine ⟨rfl, _, rfl, _, rfl, x, r, by rw [h1]; rfl, hxr.keep (Keep.same s3), by rw [h1]; exact h2, by omega, fun H4 s4 => ⟨_, rfl, ?_⟩⟩
      have e4 := s4 _ _ e3
      rw [List.take_add_one, hr, List.filter_append]
      by_cases c : fitB r = true
      · rw [show (some r).toList.filter fitB = [r] by simp [c]]
        rw [c]
        have kD := Keep.updL (ys := ws ++ [x]) e4
        refine iteT ⟨_, rfl, _, e4, smn _ (by omega), ws ++ [x], Ov.Same.updn (s3.trans s4) hD, upd_same, ?_, by rw [List.length_append]; show _ + 1 ≤ _; omega⟩
        exact PySem.Paired.snoc (L2.Paired.mapP hws fun _ _ z => (z.keep (Keep.same s4)).keep kD) ((hxr.keep (Keep.same (s3.trans s4))).keep kD)
      · rw [show (some r).toList.filter fitB = [] by simp [c], List.append_nil]
        rw [show fitB r = false by simpa using c]
        exact iteF ⟨ws, s3.trans s4, e4, L2.Paired.mapP hws fun _ _ z => z.keep (Keep.same s4), by omega⟩
    rintro H3 ⟨ws, s3, e3, hws, _⟩
    rw [hrl, List.take_length] at hws
    exact q _ D ws (s2.trans s3) hD0 e3 hws
end
end K16

namespace K16
open PySem PySem.Spec PyProof.Rows L2 Ov
section
variable {P : Program} {w : World} {K : PySem.W.Frag} {mg : Str → Option Value} {base : Heap}
theorem sc_trees_of : FnScope ["functions", "stands", "parts", "stand"] ["functions"] (defScope s_trees_of) := ⟨rfl, rfl, rfl, by decide +kernel, rfl, by decide +kernel, by decide +kernel⟩
-- 0 functions, 1 stands, 2 parts, 3 stand
theorem ok_trees_of (T : Txt w K mg) : FnOk P w K mg base CX0 4 (He.ga K "trees_of") (fdOf K d_trees_of) ["functions"] spTreesOf := by
  have G_partitions := ok_partitions (P := P) (base := base) T
  have G_stands_of := ok_stands_of (P := P) (base := base) T
  refine T.F_trees_of.ok sc_trees_of (fun vs H Q E h => ?_) (fun cdv A outer s H vs Q E hr h => ?_)
  · obtain ⟨n, rfl, _⟩ := h
    rfl
  obtain ⟨n, rfl, h5, q⟩ := h
  refine ⟨_, PSs.nox (pss_cons (ps_set (i := 1) sc_trees_of.nd rfl (by first | exact Or.inl rfl | exact Or.inr rfl) (pe_lc (own := [("parts", 2)]) rfl sc_trees_of.nd (pi_range1 (by rfl) T.z_range (pa_cons (pe_op op_add (pv 0) pe_int) pa_nil)) (blkOk_by (own := [("parts", 2)]) (N := ["functions", "stands", "parts", "stand"]) (sc := defScope s_trees_of) (by decide +kernel)) (fun _ _ _ _ _ => (pg_name (i := 2) sc_trees_of.nd rfl (by first | exact Or.inl rfl | exact Or.inr rfl))) (fun _ _ _ _ _ => pts_nil) (fun _ _ _ _ _ => (pe_call G_stands_of (hr.mono (by omega)) (by rfl) T.g_stands_of T.kp_stands_of T.b_stands_of .nil pass0 (pa_cons (pv 2) pa_nil)))))
      (pss_one (ps_ret (pe_lc2 (own := [("parts", 2), ("stand", 3)]) (vs1 := [3]) rfl sc_trees_of.nd (Ov.pi_listK (K := K) rfl (pe_call G_partitions (hr.mono (by omega)) (by rfl) T.g_partitions T.kp_partitions T.b_partitions .nil pass0 (pa_cons (pv 0) pa_nil))) (blkOk_by (own := [("parts", 2), ("stand", 3)]) (N := ["functions", "stands", "parts", "stand"]) (sc := defScope s_trees_of) (by decide +kernel)) (by decide) (fun _ _ _ _ _ => (pg_name (i := 2) sc_trees_of.nd rfl (by first | exact Or.inl rfl | exact Or.inr rfl))) (fun _ _ _ _ _ => pts_nil) (fun _ _ _ _ _ => (Ov.pi_listK (K := K) rfl (pe_ix (r := rIxL K) ix_list (pv 1) (pe_callB (r := Evl.rLenS K) call_len_seq (by rfl) T.z_len PySem.boot_len (pa_cons (pv 2) pa_nil)) (fun _ _ => rfl)))) (fun _ _ _ _ _ => (pg_name (i := 3) sc_trees_of.nd rfl (by first | exact Or.inl rfl | exact Or.inr rfl))) (fun _ _ _ _ _ => pts_nil) (fun _ _ _ _ _ => (pe_tup (pa_cons (pv 2) (pa_cons (pv 3) pa_nil)))))))), ?_⟩
  refine ⟨_, rfl, _, _, rfl, rfl, _, rfl, by omega, by omega, fun S hS => ?_⟩
  have en : ((n : Int) + 1).toNat = n + 1 := by omega
  refine lc_rangeY (lo := 0) (n := ((n : Int) + 1).toNat) (fun i H' => ∃ ws, Same H H' ∧ H' S = some (.lst ws) ∧ Paired (StsAt S H') ws (List.range i)) ⟨[], Same.new hS, upd_same, .nil⟩ ?_ ?_
  · rintro i H1 hi ⟨ws, s1, e1, hws⟩
    rw [en] at hi
    have hwl := Paired.length hws
    rw [List.length_range] at hwl
    refine ⟨rfl, _, rfl, i, by rw [Int.zero_add]; rfl, by omega, fun H2 r rs s2 hr er hrs => ?_⟩
    have e2 := s2 _ _ e1
    have nr : r ≠ S := fun z => by
      rw [z] at hr
      rw [hr] at e1
      cases e1
    have kD := Keep.updL (ys := ws ++ [.ref r]) e2
    refine ⟨_, e2, sm _ (by omega), ws ++ [.ref r], Ov.Same.updn (s1.trans s2) hS, upd_same, ?_⟩
    rw [List.range_succ]
    refine PySem.Paired.snoc (L2.Paired.mapP hws fun _ _ z => (z.same s2).updS kD) ⟨r, rs, rfl, nr, by rw [upd_ne nr]; exact er, L2.Paired.mapP hrs fun _ _ z => z.keep kD⟩
  rintro H1 ⟨us, s1, e1, hus⟩
  rw [en] at hus
  have hul := Paired.length hus
  rw [List.length_range] at hul
  show gName 1 (V.ref S) [some (.int (n : Int)), none, none, none] _ _
  refine ⟨_, rfl, n, rfl, h5, fun H2 r rs s2 hr er hrs => ?_⟩
  have hrl := Paired.length hrs
  have hsz := partN_size h5
  have e2 := s2 _ _ e1
  have hus2 : Paired (StsAt S H2) us (List.range (n + 1)) := L2.Paired.mapP hus fun _ _ z => z.same s2
  have s12 := s1.trans s2
  clear hus s1 s2 e1
  refine ⟨r, rfl, ⟨_, SqL.of er⟩, fun D hD => ?_⟩
  have hD0 : H D = none := Same.free s12 hD
  refine lc2_out (walk_list (K := K) (a := r) (xs := rs)) (fun i H' => ∃ ws, Same H2 H' ∧ H' D = some (.lst ws) ∧ Paired (TreV H') ws (((partN n).take i).flatMap fun ps => (standsN ps.length).map fun st => (ps, st)) ∧ ws.length ≤ 7776 * i) ⟨[], Same.new hD, upd_same, .nil, Nat.le_refl _⟩ (fun i H' _ ⟨_, e, _⟩ => SqL.of (e _ _ er)) ?_ ?_
  · rintro i x H3 H4 hi ⟨ws, s3, e3, hws, hwl⟩ ⟨rfl, hx⟩
    obtain ⟨ps, hps, hpx⟩ := Paired.get2 hrs hx
    obtain ⟨a, vs, rfl, ha, hvs⟩ := id hpx
    have hpl := partN_len n (List.mem_of_getElem? hps)
    have hvl : vs.length = ps.length := Paired.length hvs
    obtain ⟨u, hu, b, us2, rfl, nb, hb, hsts⟩ := Paired.got hus2 (List.getElem?_range (show ps.length < n + 1 by omega))
    have hsl := Paired.length hsts
    have hs7 := standsN_few (m := ps.length) (by omega)
    refine ⟨rfl, _, rfl, _, rfl, a, _, rfl, .inr (SqT.of (s3 _ _ ha)), S, _, _, _, rfl, rfl, SqL.of (s3 _ _ e2), by rw [hvl]; exact atI_nat hu, b, rfl, ⟨_, SqL.of (s3 _ _ hb)⟩, ?_⟩
    refine lc2_in (walk_list (K := K) (a := b) (xs := us2)) (fun j H' => ∃ ws', Same H2 H' ∧ H' D = some (.lst ws') ∧ Paired (TreV H') ws' ((((partN n).take i).flatMap fun ps => (standsN ps.length).map fun st => (ps, st)) ++ ((standsN ps.length).take j).map fun st => (ps, st)) ∧ ws'.length ≤ 7776 * i + j) ⟨ws, s3, e3, by rw [List.take_zero, List.map_nil, List.append_nil]; exact hws, hwl⟩ (fun j H' _ ⟨_, z, _⟩ => SqL.of (z _ _ hb)) ?_ ?_
    · rintro j y H6 H7 hj ⟨ws', s6, e6, hws6, hwl6⟩ ⟨rfl, hy⟩
      obtain ⟨st, hst, hys⟩ := Paired.get2 hsts hy
      refine ⟨rfl, _, rfl, _, rfl, sml 2, fun p7 hp7 => ?_⟩
      have s7 := Same.new (o := .tup [.ref a, y]) hp7
      have e7 := s7 _ _ e6
      have kD := Keep.updL (ys := ws' ++ [.ref p7]) e7
      refine ⟨_, e7, smn _ (by omega), ws' ++ [.ref p7], Ov.Same.updn (s6.trans s7) hD, upd_same, ?_, by rw [List.length_append]; show _ + 1 ≤ _; omega⟩
      rw [List.take_add_one, hst, List.map_append, ← List.append_assoc]
      refine PySem.Paired.snoc (L2.Paired.mapP hws6 fun _ _ z => (TrAt.keep (Keep.same s7) z).keep kD) (TrAt.keep kD ?_)
      exact TrAt.of upd_same (hpx.keep (Keep.same (s6.trans s7))) (hys.keep (Keep.same (s6.trans s7)))
    · rintro H6 ⟨ws', s6, e6, hws6, hwl6⟩
      rw [hsl, List.take_length] at hws6
      refine ⟨ws', s6, e6, ?_, by omega⟩
      rw [List.take_add_one, hps, List.flatMap_append]
      show Paired _ _ (_ ++ ((standsN ps.length).map (fun st => (ps, st)) ++ []))
      rw [List.append_nil]
      exact hws6
  · rintro H3 ⟨ws, s3, e3, hws, _⟩
    rw [hrl, List.take_length] at hws
    exact q _ D ws (s12.trans s3) hD0 e3 hws
end
end K16

namespace K16
open PySem PySem.Spec PyProof.Rows L2 Ov
section
variable {P : Program} {w : World} {K : PySem.W.Frag} {mg : Str → Option Value} {base : Heap}
theorem sc_parts_below : FnScope ["stands", "part", "below", "under"] ["stands", "part"] (defScope s_parts_below) := ⟨rfl, rfl, rfl, by decide +kernel, rfl, by decide +kernel, by decide +kernel⟩
-- 0 stands, 1 part, 2 below, 3 under
theorem ok_parts_below (T : Txt w K mg) : FnOk P w K mg base CX0 1 (He.ga K "parts_below") (fdOf K d_parts_below) ["stands", "part"] spPartsBelow := by
  refine T.F_parts_below.ok sc_parts_below (fun vs H Q E h => ?_) (fun cdv A outer s H vs Q E hr h => ?_)
  · obtain ⟨a, st, x, l, rfl, _⟩ := h
    rfl
  obtain ⟨a, st, x, l, rfl, ha, hd, hl, q⟩ := h
  refine ⟨_, PSs.nox (pss_cons (ps_set (i := 2) sc_parts_below.nd rfl (by first | exact Or.inl rfl | exact Or.inr rfl) (pe_lst pa_nil))
      (pss_cons (ps_set (i := 3) sc_parts_below.nd rfl (by first | exact Or.inl rfl | exact Or.inr rfl) (pe_ix (r := rIxT K) ix_tup (pv 0) (pv 1) (fun _ _ => rfl)))
      (pss_cons (ps_while PassesOwn.never (pt_cmpR op_ne (pv 3) (pe_glob (v := .int (-1)) (by rfl) T.i_NO_PART.choose_spec ⟨_, rfl⟩) (nomark _)) (pss_cons (ps_expr (Ov.pe_bmK (K := K) rfl PySem.F.plainAttrs_list PySem.F.slot_list_append PySem.F.type_list_append mt_append (pv 2) (pa_cons (pv 3) pa_nil)))
      (pss_one (ps_set (i := 3) sc_parts_below.nd rfl (by first | exact Or.inl rfl | exact Or.inr rfl) (pe_ix (r := rIxT K) ix_tup (pv 0) (pv 3) (fun _ _ => rfl))))))
      (pss_one (ps_ret (Ov.pe_revLK (K := K) rfl (pv 2))))))), ?_⟩
  refine ⟨sml 0, fun D hD => ?_⟩
  have s1 := Same.new (o := .lst []) hD
  obtain ⟨z, hz⟩ := hd.get
  refine ⟨_, rfl, _, rfl, a, _, _, _, rfl, rfl, SqT.of (s1 _ _ ha), atI_nat (by rw [List.getElem?_map, hz]; rfl), ?_⟩
  refine ⟨fun m σ H' => ∃ (c : Nat) (z : Int) (l' acc : List Nat), σ = [some (.ref a), some (.int (x : Int)), some (.ref D), some (.int z)] ∧ Same H H' ∧ H' D = some (.lst (nV acc)) ∧ Down st c l' ∧ st[c]? = some z ∧ l = l' ++ acc.reverse ∧ m = l'.length, ⟨_, x, z, l, [], rfl, s1, upd_same, hd, hz, by rw [List.reverse_nil, List.append_nil], rfl⟩, ?_⟩
  rintro m σ H1 ⟨c, z, l', acc, rfl, s2, e2, d2, hz2, el, rfl⟩
  have hlen : l.length = l'.length + acc.length := by rw [el, List.length_append, List.length_reverse]
  refine ⟨_, rfl, rfl, _, rfl, ?_⟩
  cases d2 with
  | base e =>
    obtain rfl : z = -1 := Option.some.inj (hz2.symm.trans e)
    show if (!decide (V.int (-1) = V.int (-1))) = true then _ else _
    rw [decide_eq_true (rfl : V.int (-1) = V.int (-1))]
    refine iteF ?_
    refine ⟨_, rfl, D, _, rfl, SqL.of e2, fun p hp => ?_⟩
    have er : (nV acc).reverse = nV l := by rw [el]; unfold nV; rw [List.nil_append, List.map_reverse]
    rw [er]
    exact q _ p (s2.trans (Same.new hp)) (Same.free s2 hp) upd_same
  | @step _ y l2 e d3 =>
    obtain rfl : z = (y : Int) := Option.some.inj (hz2.symm.trans e)
    have ne : decide (V.int (y : Int) = V.int (-1)) = false := decide_eq_false fun e => by
      have := V.int.inj e
      omega
    show if (!decide (V.int (y : Int) = V.int (-1))) = true then _ else _
    rw [ne]
    obtain ⟨z3, hz3⟩ := d3.get
    have e1 := s2 _ _ ha
    rw [List.length_append, List.length_singleton] at hlen
    refine iteT ⟨_, fun σ' H' h => h, ?_⟩
    refine ⟨_, rfl, .inl ⟨rfl, _, SqL.of e2⟩, _, rfl, D, _, _, rfl, rfl, e2, sm _ (by rw [nV_len]; omega), ?_⟩
    refine ⟨_, rfl, _, rfl, a, _, _, _, rfl, rfl, SqT.of (Ov.Same.updn s2 hD _ _ ha), atI_nat (by rw [List.getElem?_map, hz3]; rfl), ?_⟩
    refine ⟨l2.length, by rw [List.length_append, List.length_singleton]; omega, y, z3, l2, acc ++ [y], rfl, Ov.Same.updn s2 hD, ?_, d3, hz3, ?_, rfl⟩
    · rw [upd_same, nV_app]
    · rw [el, List.reverse_append, List.append_assoc]
      rfl
theorem sc_size_of : FnScope ["program", "part", "function"] ["program", "part"] (defScope s_size_of) := ⟨rfl, rfl, rfl, by decide +kernel, rfl, by decide +kernel, by decide +kernel⟩
-- 0 program, 1 part, 2 function
theorem ok_size_of (T : Txt w K mg) : FnOk P w K mg base CX0 1 (He.ga K "size_of") (fdOf K d_size_of) ["program", "part"] spSizeOf := by
  refine T.F_size_of.ok sc_size_of (fun vs H Q E h => ?_) (fun cdv A outer s H vs Q E hr h => ?_)
  · obtain ⟨v, u, pr, p, rfl, _⟩ := h
    rfl
  obtain ⟨v, u, pr, p, rfl, ⟨a, vs, rfl, ha, hvs⟩, ⟨b, rfl, hb⟩, hlt, hl, q⟩ := h
  refine ⟨_, PSs.nox (pss_one (ps_ret (pe_callB (r := rSum K) (cr_sum rfl) (by rfl) T.z_sum (by decide +kernel) (pa_cons (pe_lc (own := [("function", 2)]) rfl sc_size_of.nd (Ov.pi_tupK (K := K) rfl (pv 1)) (blkOk_by (own := [("function", 2)]) (N := ["program", "part", "function"]) (sc := defScope s_size_of) (by decide +kernel)) (fun _ _ _ _ _ => (pg_name (i := 2) sc_size_of.nd rfl (by first | exact Or.inl rfl | exact Or.inr rfl))) (fun _ _ _ _ _ => pts_nil) (fun _ _ _ _ _ => (pe_ix (r := rIxT K) ix_tup (pe_ix (r := rIxT K) ix_tup (pv 0) (pv 2) (fun _ _ => rfl)) pe_int (fun _ _ => rfl)))) pa_nil)))), ?_⟩
  refine ⟨_, rfl, b, rfl, ⟨_, SqT.of hb⟩, fun D hD => ?_⟩
  refine lc_tupY (K := K) (a := b) (xs := nV p) (fun i H' => Same H H' ∧ H' D = some (.lst (((p.take i).map (fsz pr)).map V.int))) ⟨Same.new hD, upd_same⟩ (fun i H' _ e => SqT.of (e.1 _ _ hb)) ?_ ?_
  · rintro i x H1 hi ⟨s1, e1⟩
    obtain ⟨y, hy, rfl⟩ := nV_int hi
    have hyl := hlt y (List.mem_of_getElem? hy)
    obtain ⟨f, hf⟩ : ∃ f, pr[y]? = some f := ⟨_, List.getElem?_eq_getElem hyl⟩
    obtain ⟨u, hu, ⟨c, wv, rfl, hc, _⟩⟩ := Paired.got hvs hf
    have efs : fsz pr y = f.1 := by unfold fsz; rw [hf]; rfl
    refine ⟨rfl, _, rfl, _, rfl, a, _, _, _, rfl, rfl, SqT.of (s1 _ _ ha), atI_nat hu, c, _, 0, _, rfl, rfl, SqT.of (s1 _ _ hc), atI_nat (j := 0) rfl, _, e1, sm _ (by rw [List.length_map, List.length_map, List.length_take]; omega), Ov.Same.updn s1 hD, ?_⟩
    rw [upd_same, List.take_add_one, hy, List.map_append, List.map_append]
    show some (HO.lst (_ ++ [V.int f.1])) = some (HO.lst (_ ++ [V.int (fsz pr y)]))
    rw [efs]
  · rintro H1 ⟨s1, e1⟩
    rw [nV_len, List.take_length] at e1
    exact ⟨D, _, rfl, SqL.of e1, q H1 s1⟩
def osc_begins : Scope := { kind := .function, names := [(".0", .local), ("part", .local), ("sum", .globalImplicit), ("parts_below", .globalImplicit), ("sizes", .cell), ("stands", .cell)], isGenerator := false, isCoroutine := false }
theorem sc_begins : FnScope ["program", "tree", "parts", "stands", "sizes", "part", "under"] ["program", "tree"] (defScope s_begins) := ⟨rfl, rfl, rfl, by decide +kernel, rfl, by decide +kernel, by decide +kernel⟩
-- 0 program, 1 tree, 2 parts, 3 stands, 4 sizes, 5 part, 6 under
theorem ok_begins (T : Txt w K mg) : FnOk P w K mg base CX0 2 (He.ga K "begins") (fdOf K d_begins) ["program", "tree"] spBegins := by
  have G_parts_below := ok_parts_below (P := P) (base := base) T
  have G_size_of := ok_size_of (P := P) (base := base) T
  refine T.F_begins.ok sc_begins (fun vs H Q E h => ?_) (fun cdv A outer s H vs Q E hr h => ?_)
  · obtain ⟨v, t, pr, ps, st, dn, rfl, _⟩ := h
    rfl
  obtain ⟨v, t, pr, ps, st, dn, rfl, ⟨hpr, hok, ⟨a, pa, sa, us, rfl, ha, hpa, hus, hsa⟩, htr⟩, hdn, q⟩ := h
  have l8 := hok.l8
  have hc := htr.p.count
  have hul := Paired.length hus
  refine ⟨_, PSs.nox (pss_cons (ps_asg (pv 1) (Ov.pg_tupK (K := K) (n := 2) rfl rfl (pgs_cons (pg_name (i := 2) sc_begins.nd rfl (by first | exact Or.inl rfl | exact Or.inr rfl)) (pgs_cons (pg_name (i := 3) sc_begins.nd rfl (by first | exact Or.inl rfl | exact Or.inr rfl)) pgs_nil))))
      (pss_cons (ps_set (i := 4) sc_begins.nd rfl (by first | exact Or.inl rfl | exact Or.inr rfl) (pe_lc (own := [("part", 5)]) rfl sc_begins.nd (Ov.pi_tupK (K := K) rfl (pv 2)) (by first | exact blkOk_by (own := [("part", 5)]) (N := ["program", "tree", "parts", "stands", "sizes", "part", "under"]) (sc := defScope s_begins) (by decide +kernel) | exact blkOk_by (own := [("part", 5)]) (N := ["program", "tree", "parts", "stands", "sizes", "part", "under"]) (sc := osc_begins) (by decide +kernel)) (fun _ _ _ _ _ => (pg_name (i := 5) sc_begins.nd rfl (by first | exact Or.inl rfl | exact Or.inr rfl))) (fun _ _ _ _ _ => pts_nil) (fun _ _ _ _ _ => (pe_call G_size_of (hr.mono (by omega)) (by rfl) T.g_size_of T.kp_size_of T.b_size_of .nil pass0 (pa_cons (pv 0) (pa_cons (pv 5) pa_nil))))))
      (pss_one (ps_ret (pe_lc (own := [("part", 5)]) rfl sc_begins.nd (pi_range1 (by rfl) T.z_range (pa_cons (pe_callB (r := Evl.rLenS K) call_len_seq (by rfl) T.z_len PySem.boot_len (pa_cons (pv 2) pa_nil)) pa_nil)) (by first | exact blkOk_by (own := [("part", 5)]) (N := ["program", "tree", "parts", "stands", "sizes", "part", "under"]) (sc := defScope s_begins) (by decide +kernel) | exact blkOk_by (own := [("part", 5)]) (N := ["program", "tree", "parts", "stands", "sizes", "part", "under"]) (sc := osc_begins) (by decide +kernel)) (fun _ _ _ _ _ => (pg_name (i := 5) sc_begins.nd rfl (by first | exact Or.inl rfl | exact Or.inr rfl))) (fun _ _ _ _ _ => pts_nil) (fun _ _ _ _ _ => (pe_callB (r := rSum K) (cr_sum rfl) (by rfl) T.z_sum (by decide +kernel) (pa_cons (pe_lc (own := [("under", 6)]) rfl sc_begins.nd (Ov.pi_listK (K := K) rfl (pe_call G_parts_below (hr.mono (by omega)) (by rfl) T.g_parts_below T.kp_parts_below T.b_parts_below .nil pass0 (pa_cons (pv 3) (pa_cons (pv 5) pa_nil)))) (by first | exact blkOk_by (own := [("under", 6)]) (N := ["program", "tree", "parts", "stands", "sizes", "part", "under"]) (sc := defScope s_begins) (by decide +kernel) | exact blkOk_by (own := [("under", 6)]) (N := ["program", "tree", "parts", "stands", "sizes", "part", "under"]) (sc := osc_begins) (by decide +kernel)) (fun _ _ _ _ _ => (pg_name (i := 6) sc_begins.nd rfl (by first | exact Or.inl rfl | exact Or.inr rfl))) (fun _ _ _ _ _ => pts_nil) (fun _ _ _ _ _ => (pe_ix (r := rIxL K) ix_list (pv 4) (pv 6) (fun _ _ => rfl)))) pa_nil)))))))), ?_⟩
  refine ⟨_, rfl, a, _, rfl, SqT.of ha, rfl, _, _, rfl, _, _, rfl, rfl, _, rfl, pa, rfl, ⟨us, SqT.of hpa⟩, fun D hD => ?_⟩
  refine lc_tupY (K := K) (a := pa) (xs := us) (fun i H' => Same H H' ∧ H' D = some (.lst (((ps.take i).map (psz pr)).map V.int))) ⟨Same.new hD, upd_same⟩ (fun i H' _ e => SqT.of (e.1 _ _ hpa)) ?_ ?_
  · rintro i x H1 hi ⟨s1, e1⟩
    obtain ⟨p, hp, hx⟩ := Paired.get2 hus hi
    have hm := List.mem_of_getElem? hp
    have hil := (List.getElem?_eq_some_iff.mp hp).1
    refine ⟨rfl, _, rfl, _, rfl, v, x, pr, p, rfl, hpr.keep (Keep.same s1), hx.keep (Keep.same s1), fun y hy => htr.p.lt hm hy, by have := htr.p.plen hm; omega, fun H2 s2 => ⟨_, s2 _ _ e1, sm _ (by rw [List.length_map, List.length_map, List.length_take]; omega), Ov.Same.updn (s1.trans s2) hD, ?_⟩⟩
    rw [upd_same, List.take_add_one, hp, List.map_append, List.map_append]
    rfl
  rintro H1 ⟨s1, e1⟩
  rw [hul, List.take_length] at e1
  refine ⟨_, rfl, pa, _, rfl, .inr (SqT.of (s1 _ _ hpa)), _, rfl, by omega, by omega, fun B hB => ?_⟩
  refine lc_rangeY (lo := 0) (n := ((us.length : Nat) : Int).toNat) (fun i H' => Same H1 H' ∧ H' B = some (.lst (((List.range i).map (bgn pr ps dn)).map V.int))) ⟨Same.new hB, upd_same⟩ ?_ ?_
  · rintro i H2 hi ⟨s2, e2⟩
    rw [Int.toNat_natCast, hul] at hi
    have sz : ∀ y, y < ps.length → (((ps.map (psz pr)).map V.int))[y]? = some (.int (psz pr (ps[y]?.getD []))) := fun y hy => by
      rw [List.getElem?_map, List.getElem?_map, List.getElem?_eq_getElem hy]
      rfl
    refine ⟨rfl, _, rfl, _, rfl, sa, st, i, dn i, ?_, s2 _ _ (s1 _ _ hsa), hdn.down i hi, by have := hdn.len i hi; omega, fun H3 p s3 hp3 e3 => ?_⟩
    · show [V.ref sa, V.int (0 + (i : Int))] = _
      rw [Int.zero_add]
    refine ⟨p, rfl, ⟨_, SqL.of e3⟩, fun C hC => ?_⟩
    refine lc_listY (K := K) (a := p) (xs := nV (dn i)) (fun j H' => Same H3 H' ∧ H' C = some (.lst ((((dn i).take j).map fun y => psz pr (ps[y]?.getD [])).map V.int))) ⟨Same.new hC, upd_same⟩ (fun j H' _ e => SqL.of (e.1 _ _ e3)) ?_ ?_
    · rintro j x H4 hj ⟨s4, e4⟩
      obtain ⟨y, hy, rfl⟩ := nV_int hj
      have hjl := (List.getElem?_eq_some_iff.mp hy).1
      have hdl := hdn.len i hi
      refine ⟨rfl, _, rfl, _, rfl, D, _, _, _, rfl, rfl, SqL.of (s4 _ _ (s3 _ _ (s2 _ _ e1))), atI_nat (sz y (hdn.lt i hi y (List.mem_of_getElem? hy))), _, e4, sm _ (by rw [List.length_map, List.length_map, List.length_take]; omega), Ov.Same.updn s4 hC, ?_⟩
      rw [upd_same, List.take_add_one, hy, List.map_append, List.map_append]
      rfl
    · rintro H4 ⟨s4, e4⟩
      rw [nV_len, List.take_length] at e4
      refine ⟨C, _, rfl, SqL.of e4, _, s4 _ _ (s3 _ _ e2), sm _ (by rw [List.length_map, List.length_map, List.length_range]; omega), Ov.Same.updn (s2.trans (s3.trans s4)) hB, ?_⟩
      rw [upd_same, List.range_succ, List.map_append, List.map_append]
      rfl
  · rintro H2 ⟨s2, e2⟩
    rw [Int.toNat_natCast, hul] at e2
    exact q H2 B (s1.trans s2) (Same.free s1 hB) e2
end
end K16

namespace K16
open PySem PySem.Spec PyProof.Rows L2 Ov
section
variable {P : Program} {w : World} {K : PySem.W.Frag} {mg : Str → Option Value} {base : Heap}
theorem sc_firsts_of : FnScope ["program", "tree", "firsts", "part", "begin", "cell", "function"] ["program", "tree"] (defScope s_firsts_of) := ⟨rfl, rfl, rfl, by decide +kernel, rfl, by decide +kernel, by decide +kernel⟩
-- 0 program, 1 tree, 2 firsts, 3 part, 4 begin, 5 cell, 6 function
theorem ok_firsts_of (T : Txt w K mg) : FnOk P w K mg base CX0 3 (He.ga K "firsts_of") (fdOf K d_firsts_of) ["program", "tree"] spPlaces := by
  have G_begins := ok_begins (P := P) (base := base) T
  refine T.F_firsts_of.ok sc_firsts_of (fun vs H Q E h => ?_) (fun cdv A outer s H vs Q E hr h => ?_)
  · obtain ⟨v, t, pr, ps, st, dn, rfl, _⟩ := h
    rfl
  obtain ⟨v, t, pr, ps, st, dn, rfl, hpre, hdn, q⟩ := h
  refine ⟨_, PSs.nox (pss_cons (ps_set (i := 2) sc_firsts_of.nd rfl (by first | exact Or.inl rfl | exact Or.inr rfl) (pe_op op_rep (pe_lst (pa_cons pe_int pa_nil)) (pe_callB (r := Evl.rLenS K) call_len_seq (by rfl) T.z_len PySem.boot_len (pa_cons (pv 0) pa_nil))))
      (pss_cons (ps_for PassesOwn.never rfl (Ov.pi_zp (K := K) .t .l rfl (by rfl) T.z_zip (pa_cons (pe_ix (r := rIxT K) ix_tup (pv 1) pe_int (fun _ _ => rfl)) (pa_cons (pe_call G_begins (hr.mono (by omega)) (by rfl) T.g_begins T.kp_begins T.b_begins .nil pass0 (pa_cons (pv 0) (pa_cons (pv 1) pa_nil))) pa_nil))) (Ov.pg_tupK (K := K) (n := 2) rfl rfl (pgs_cons (pg_name (i := 3) sc_firsts_of.nd rfl (by first | exact Or.inl rfl | exact Or.inr rfl)) (pgs_cons (pg_name (i := 4) sc_firsts_of.nd rfl (by first | exact Or.inl rfl | exact Or.inr rfl)) pgs_nil))) (pss_cons (ps_set (i := 5) sc_firsts_of.nd rfl (by first | exact Or.inl rfl | exact Or.inr rfl) (pv 4))
      (pss_one (ps_for PassesOwn.never rfl (Ov.pi_tupK (K := K) rfl (pv 3)) (pg_name (i := 6) sc_firsts_of.nd rfl (by first | exact Or.inl rfl | exact Or.inr rfl)) (pss_cons (ps_asg (pv 5) (pg_sub (pv 2) (pv 6) set_list))
      (pss_one (ps_aug (i := 5) sc_firsts_of.nd rfl (by first | exact Or.inl rfl | exact Or.inr rfl) (pe_ix (r := rIxT K) ix_tup (pe_ix (r := rIxT K) ix_tup (pv 0) (pv 6) (fun _ _ => rfl)) pe_int (fun _ _ => rfl)) ip_add)))))))
      (pss_one (ps_ret (pv 2))))), ?_⟩
  have hpre1 := hpre
  obtain ⟨⟨pa, vp, rfl, hpa, hpf⟩, hok, ⟨a, qa, sa, us, rfl, ha, hqa, hus, hsa⟩, htr⟩ := hpre1
  have hpl := Paired.length hpf
  have hul := Paired.length hus
  have l8 := hok.l8
  have hc := htr.p.count
  refine ⟨sml 1, fun l2 hl2 => ⟨_, rfl, pa, _, rfl, .inr (SqT.of (Same.new hl2 _ _ hpa)), ?_⟩⟩
  refine ⟨l2, ((vp.length : Nat) : Int), _, rfl, rfl, upd_same, by omega, by omega, sml _ (by rw [List.length_singleton, Int.toNat_natCast]; omega), fun F hF => ?_⟩
  rw [rep_v]
  have s2 : Same H (upd (upd H l2 (.lst [V.int 0])) F (.lst (List.replicate vp.length (V.int 0)))) := (Same.new hl2).trans (Same.new hF)
  have fF := Same.free (Same.new (o := .lst [V.int 0]) hl2) hF
  have hpre2 := hpre.keep (Keep.same s2)
  refine ⟨_, rfl, a, _, 0, _, rfl, rfl, SqT.of (s2 _ _ ha), atI_nat (j := 0) rfl, _, rfl, _, rfl, .ref pa, .ref a, pr, ps, st, dn, rfl, hpre2, hdn, fun H2 p s3 hp2 e2 => ?_⟩
  have nFp : F ≠ p := ne_of_none upd_same hp2
  refine ⟨qa, p, us, _, rfl, SqT.of (s3 _ _ (s2 _ _ hqa)), SqL.of e2, ?_⟩
  refine for_it (walk_zp (K := K) (k := .t) (m := .l) (a := qa) (b := p) (n := ps.length) (by rw [List.length_map, List.length_map, List.length_range]; omega)) (fun i σ' H' => ∃ (y3 y4 y5 y6 : Option V) (cs : List Int), σ' = [some (.ref pa), some (.ref a), some (.ref F), y3, y4, y5, y6] ∧ Same H H' ∧ H' p = some (.lst (((List.range ps.length).map (bgn pr ps dn)).map V.int)) ∧ H' F = some (.lst (cs.map V.int)) ∧ Fill pr.length ps (IsCell pr ps dn) i 0 cs)
    ⟨none, none, none, none, List.replicate vp.length 0, rfl, s2.trans s3, e2, by rw [List.map_replicate]; exact s3 _ _ upd_same, Fill.start (by rw [List.length_replicate, hpl])⟩ (fun i σ' H' _ ⟨_, _, _, _, _, _, z1, z2, _⟩ => ⟨SqT.of (z1 _ _ hqa), SqL.of z2⟩) ?_ ?_
  · rintro i z σ' H3 H4 hi ⟨y3, y4, y5, y6, cs, rfl, s4, ep, eF, fl⟩ ⟨tt, x, y, rfl, ht, rfl, hx, hy⟩
    obtain ⟨pt, hpt, ⟨b, rfl, hb⟩⟩ := Paired.get2 hus hx
    obtain ⟨yb, hyb, rfl⟩ := ints_int hy
    rw [List.getElem?_map, List.getElem?_range hi] at hyb
    obtain rfl := Option.some.inj hyb
    have s5 := Same.new (o := .tup [.ref b, .int (bgn pr ps dn i)]) ht
    have s45 := s4.trans s5
    refine ⟨tt, _, rfl, SqT.of upd_same, rfl, _, _, rfl, _, _, rfl, rfl, _, rfl, _, rfl, b, rfl, ⟨_, SqT.of (s45 _ _ hb)⟩, ?_⟩
    refine for_tup (K := K) (a := b) (xs := nV pt) (fun j σ' H' => ∃ (y6 : Option V) (cs : List Int), σ' = [some (.ref pa), some (.ref a), some (.ref F), some (.ref b), some (.int (bgn pr ps dn i)), some (.int (bgn pr ps dn i + psz pr (pt.take j))), y6] ∧ Same H H' ∧ H' p = some (.lst (((List.range ps.length).map (bgn pr ps dn)).map V.int)) ∧ H' F = some (.lst (cs.map V.int)) ∧ Fill pr.length ps (IsCell pr ps dn) i j cs)
      ⟨y6, cs, ?_, s45, s5 _ _ ep, s5 _ _ eF, fl⟩ (fun j σ' H' _ ⟨_, _, _, z1, _⟩ => SqT.of (z1 _ _ hb)) ?_ ?_
    · have e0 : bgn pr ps dn i + psz pr (pt.take 0) = bgn pr ps dn i := by
        rw [List.take_zero]
        exact Int.add_zero _
      rw [e0]
      rfl
    · rintro j x σ' H5 hj ⟨y6, cs, rfl, s6, ep, eF, fl⟩
      obtain ⟨f, hf, rfl⟩ := nV_int hj
      have hm := List.mem_of_getElem? hpt
      have hfl := htr.p.lt hm (List.mem_of_getElem? hf)
      obtain ⟨g, hg⟩ : ∃ g, pr[f]? = some g := ⟨_, List.getElem?_eq_getElem hfl⟩
      obtain ⟨u, hu, ⟨c, wv, rfl, hc2, _⟩⟩ := Paired.got hpf hg
      have efs : fsz pr f = g.1 := by unfold fsz; rw [hg]; rfl
      have s7 := Ov.Same.updn (o := .lst ((cs.map V.int).set f (.int (bgn pr ps dn i + psz pr (pt.take j))))) s6 fF
      refine ⟨_, rfl, _, rfl, _, rfl, F, _, _, f, rfl, rfl, eF, ixN_nat (by rw [List.length_map, fl.1]; exact hfl), ?_⟩
      refine ⟨_, rfl, _, rfl, _, rfl, pa, _, _, _, rfl, rfl, SqT.of (s7 _ _ hpa), atI_nat hu, c, _, 0, _, rfl, rfl, SqT.of (s7 _ _ hc2), atI_nat (j := 0) rfl, _, _, rfl, rfl, some (.int (f : Int)), cs.set f (bgn pr ps dn i + psz pr (pt.take j)), ?_, s7, ?_, ?_, fl.step htr.p hpt hf ?_⟩
      · have ez : bgn pr ps dn i + psz pr (pt.take j) + g.1 = bgn pr ps dn i + psz pr (pt.take (j + 1)) := by
          rw [List.take_add_one, hf]
          show _ = bgn pr ps dn i + psz pr (pt.take j ++ [f])
          rw [psz_snoc, efs, Int.add_assoc]
        rw [← ez]
        rfl
      · rw [upd_ne nFp.symm]
        exact ep
      · rw [upd_same, List.map_set]
      · unfold IsCell
        rw [hpt]
        rfl
    · rintro σ' H5 ⟨y6, cs, rfl, s6, ep, eF, fl⟩
      rw [nV_len] at fl
      exact ⟨_, _, _, _, cs, rfl, s6, ep, eF, fl.next hpt⟩
  · rintro σ' H3 ⟨y3, y4, y5, y6, cs, rfl, s4, ep, eF, fl⟩
    exact ⟨_, rfl, q H3 F cs (s4) (fF) eF fl.cells⟩
theorem sc_end_of : FnScope ["program", "tree", "part", "begin"] ["program", "tree"] (defScope s_end_of) := ⟨rfl, rfl, rfl, by decide +kernel, rfl, by decide +kernel, by decide +kernel⟩
-- 0 program, 1 tree, 2 part, 3 begin
theorem ok_end_of (T : Txt w K mg) : FnOk P w K mg base CX0 3 (He.ga K "end_of") (fdOf K d_end_of) ["program", "tree"] spWanted := by
  have G_begins := ok_begins (P := P) (base := base) T
  have G_size_of := ok_size_of (P := P) (base := base) T
  refine T.F_end_of.ok sc_end_of (fun vs H Q E h => ?_) (fun cdv A outer s H vs Q E hr h => ?_)
  · obtain ⟨v, t, pr, ps, st, dn, rfl, _⟩ := h
    rfl
  obtain ⟨v, t, pr, ps, st, dn, rfl, hpre, hdn, q⟩ := h
  refine ⟨_, PSs.nox (pss_one (ps_ret (pe_callB (r := rMax K) (cr_max rfl) (by rfl) T.z_max (by decide +kernel) (pa_cons (pe_lc (own := [("part", 2), ("begin", 3)]) rfl sc_end_of.nd (Ov.pi_zp (K := K) .t .l rfl (by rfl) T.z_zip (pa_cons (pe_ix (r := rIxT K) ix_tup (pv 1) pe_int (fun _ _ => rfl)) (pa_cons (pe_call G_begins (hr.mono (by omega)) (by rfl) T.g_begins T.kp_begins T.b_begins .nil pass0 (pa_cons (pv 0) (pa_cons (pv 1) pa_nil))) pa_nil))) (blkOk_by (own := [("part", 2), ("begin", 3)]) (N := ["program", "tree", "part", "begin"]) (sc := defScope s_end_of) (by decide +kernel)) (fun _ _ _ _ _ => (Ov.pg_tupK (K := K) (n := 2) rfl rfl (pgs_cons (pg_name (i := 2) sc_end_of.nd rfl (by first | exact Or.inl rfl | exact Or.inr rfl)) (pgs_cons (pg_name (i := 3) sc_end_of.nd rfl (by first | exact Or.inl rfl | exact Or.inr rfl)) pgs_nil)))) (fun _ _ _ _ _ => pts_nil) (fun _ _ _ _ _ => (pe_op op_add (pv 3) (pe_call G_size_of (hr.mono (by omega)) (by rfl) T.g_size_of T.kp_size_of T.b_size_of .nil pass0 (pa_cons (pv 0) (pa_cons (pv 2) pa_nil)))))) pa_nil)))), ?_⟩
  have hpre1 := hpre
  have hpre1' := hpre1
  obtain ⟨hpr, hok, ⟨a, qa, sa, us, rfl, ha, hqa, hus, hsa⟩, htr⟩ := hpre1'
  have hul := Paired.length hus
  have l8 := hok.l8
  have hc := htr.p.count
  have hc1 := htr.p.pos hok.l1
  refine ⟨_, rfl, a, _, 0, _, rfl, rfl, SqT.of ha, atI_nat (j := 0) rfl, _, rfl, _, rfl, v, .ref a, pr, ps, st, dn, rfl, hpre1, hdn, fun H2 p s2 hp2 e2 => ?_⟩
  refine ⟨qa, p, us, _, rfl, SqT.of (s2 _ _ hqa), SqL.of e2, fun D hD => ?_⟩
  have npD : p ≠ D := ne_of_none e2 hD
  refine lc_itY (walk_zp (K := K) (k := .t) (m := .l) (a := qa) (b := p) (n := ps.length) (by rw [List.length_map, List.length_map, List.length_range]; omega)) (fun i H' => Same H2 H' ∧ H' D = some (.lst ((((List.range i).map fun k => bgn pr ps dn k + psz pr (ps[k]?.getD []))).map V.int)))
    ⟨Same.new hD, upd_same⟩ (fun i H' _ z => ⟨SqT.of (z.1 _ _ (s2 _ _ hqa)), SqL.of (z.1 _ _ e2)⟩) ?_ ?_
  · rintro i z H3 H4 hi ⟨s3, e3⟩ ⟨tt, x, y, rfl, ht, rfl, hx, hy⟩
    obtain ⟨pt, hpt, hxp⟩ := Paired.get2 hus hx
    obtain ⟨yb, hyb, rfl⟩ := ints_int hy
    rw [List.getElem?_map, List.getElem?_range hi] at hyb
    obtain rfl := Option.some.inj hyb
    have hm := List.mem_of_getElem? hpt
    have s5 := Same.new (o := .tup [x, .int (bgn pr ps dn i)]) ht
    have s35 := s2.trans (s3.trans s5)
    refine ⟨tt, _, rfl, SqT.of upd_same, rfl, _, _, rfl, _, _, rfl, rfl, rfl, _, rfl, _, rfl, _, rfl, v, x, pr, pt, rfl, hpr.keep (Keep.same s35), hxp.keep (Keep.same s35), fun f hf => htr.p.lt hm hf, by have := htr.p.plen hm; omega, fun H5 s6 => ?_⟩
    refine ⟨_, _, rfl, rfl, _, s6 _ _ (s5 _ _ e3), sm _ (by rw [List.length_map, List.length_map, List.length_range]; omega), Ov.Same.updn (s3.trans (s5.trans s6)) hD, ?_⟩
    rw [upd_same, List.range_succ, List.map_append, List.map_append]
    show some (HO.lst (_ ++ [V.int (bgn pr ps dn i + psz pr pt)])) = some (HO.lst (_ ++ [V.int (bgn pr ps dn i + psz pr (ps[i]?.getD []))]))
    rw [hpt]
    rfl
  · rintro H3 ⟨s3, e3⟩
    refine ⟨D, _, rfl, SqL.of e3, by rw [List.length_map, List.length_range]; omega, fun m hm hle => q H3 m (s2.trans s3) ⟨?_, fun i pt hpt => ?_⟩⟩
    · obtain ⟨k, hk, rfl⟩ := List.mem_map.mp hm
      have hk := List.mem_range.mp hk
      exact ⟨k, ps[k], List.getElem?_eq_getElem hk, by rw [List.getElem?_eq_getElem hk]; rfl⟩
    · have hi := (List.getElem?_eq_some_iff.mp hpt).1
      refine hle _ (List.mem_map.mpr ⟨i, List.mem_range.mpr hi, ?_⟩)
      rw [hpt]
      rfl
theorem sc_way_of : FnScope ["tree", "function", "parts", "stands", "own", "number", "part"] ["tree", "function"] (defScope s_way_of) := ⟨rfl, rfl, rfl, by decide +kernel, rfl, by decide +kernel, by decide +kernel⟩
-- 0 tree, 1 function, 2 parts, 3 stands, 4 own, 5 number, 6 part
theorem ok_way_of (T : Txt w K mg) : FnOk P w K mg base CX0 2 (He.ga K "way_of") (fdOf K d_way_of) ["tree", "function"] spWayOf := by
  have G_parts_below := ok_parts_below (P := P) (base := base) T
  refine T.F_way_of.ok sc_way_of (fun vs H Q E h => ?_) (fun cdv A outer s H vs Q E hr h => ?_)
  · obtain ⟨t, n, ps, st, dn, f, i, pt, rfl, _⟩ := h
    rfl
  obtain ⟨t, n, ps, st, dn, f, i, pt, rfl, ⟨a, qa, sa, us, rfl, ha, hqa, hus, hsa⟩, htr, l8, hdn, hpt, hf, q⟩ := h
  refine ⟨_, PSs.nox (pss_cons (ps_asg (pv 0) (Ov.pg_tupK (K := K) (n := 2) rfl rfl (pgs_cons (pg_name (i := 2) sc_way_of.nd rfl (by first | exact Or.inl rfl | exact Or.inr rfl)) (pgs_cons (pg_name (i := 3) sc_way_of.nd rfl (by first | exact Or.inl rfl | exact Or.inr rfl)) pgs_nil))))
      (pss_cons (ps_setLc (i := 4) (own := [("number", 5), ("part", 6)]) rfl sc_way_of.nd rfl rfl (sw_true rfl rfl rfl (by decide +kernel)) (Ov.pi_en (K := K) .t rfl (by rfl) T.z_enumerate (pa_cons (pv 2) pa_nil)) (blkOk_by (own := [("number", 5), ("part", 6)]) (N := ["tree", "function", "parts", "stands", "own", "number", "part"]) (sc := defScope s_way_of) (by decide +kernel)) (fun _ _ _ _ _ => (Ov.pg_tupK (K := K) (n := 2) rfl rfl (pgs_cons (pg_name (i := 5) sc_way_of.nd rfl (by first | exact Or.inl rfl | exact Or.inr rfl)) (pgs_cons (pg_name (i := 6) sc_way_of.nd rfl (by first | exact Or.inl rfl | exact Or.inr rfl)) pgs_nil)))) (fun _ _ _ _ _ => (pts_one (pt_cmpR (r := rIn K false) op_in_seq (pv 1) (pv 6) (by first | rfl | exact nomark _)))) (fun _ _ _ _ _ => (pv 5)))
      (pss_one (ps_ret (pe_op op_cat (pe_call G_parts_below (hr.mono (by omega)) (by rfl) T.g_parts_below T.kp_parts_below T.b_parts_below .nil pass0 (pa_cons (pv 3) (pa_cons (pe_ix (r := rIxL K) ix_list (pv 4) pe_int (fun _ _ => rfl)) pa_nil))) (pv 4)))))), ?_⟩
  have hul := Paired.length hus
  have hc := htr.p.count
  have hm := List.mem_of_getElem? hpt
  have hil := (List.getElem?_eq_some_iff.mp hpt).1
  refine ⟨_, rfl, a, _, rfl, SqT.of ha, rfl, _, _, rfl, _, _, rfl, rfl, _, rfl, qa, us, rfl, SqT.of hqa, fun D hD => ?_⟩
  refine lc_it (walk_en (K := K) (k := .t) (a := qa) (xs := us)) (fun k H' => Same H H' ∧ H' D = some (.lst (if i < k then [V.int (i : Int)] else [])))
    ⟨Same.new hD, upd_same⟩ (fun k H' _ z => SqT.of (z.1 _ _ hqa)) ?_ ?_
  · rintro k z H2 H3 hk ⟨s2, e2⟩ ⟨tt, x, y, rfl, ht, rfl, hx, hy⟩
    obtain rfl := Option.some.inj hx
    obtain ⟨pk, hpk, ⟨b, rfl, hb⟩⟩ := Paired.get2 hus hy
    have s3 := Same.new (o := .tup [.int (k : Nat), .ref b]) ht
    have hb3 := s3 _ _ (s2 _ _ hb)
    refine ⟨tt, _, rfl, SqT.of upd_same, rfl, _, _, rfl, _, _, rfl, rfl, rfl, _, rfl, _, rfl, b, _, rfl, .inr (SqT.of hb3), rfl, nVflat pk, ?_⟩
    refine ⟨_, rfl, ?_⟩
    have es := s3 _ _ e2
    by_cases ek : k = i
    · subst ek
      obtain rfl : pk = pt := Option.some.inj (hpk.symm.trans hpt)
      rw [if_neg (Nat.lt_irrefl _)] at es
      show if inV (.int (f : Int)) (nV pk) = true then _ else _
      rw [inVnat, decide_eq_true hf]
      refine iteT ⟨_, rfl, _, es, sm 0, Ov.Same.updn (s2.trans s3) hD, ?_⟩
      rw [upd_same, if_pos (Nat.lt_succ_self _)]
      rfl
    · have nin : ¬ f ∈ pk := fun z => by
        obtain ⟨j1, h1⟩ := List.mem_iff_getElem?.mp z
        obtain ⟨j2, h2⟩ := List.mem_iff_getElem?.mp hf
        exact ek (htr.p.uniq hpk h1 hpt h2).1
      show if inV (.int (f : Int)) (nV pk) = true then _ else _
      rw [inVnat, decide_eq_false nin]
      refine iteF ⟨s2.trans s3, ?_⟩
      rw [es]
      by_cases lt : i < k
      · rw [if_pos lt, if_pos (by omega)]
      · rw [if_neg lt, if_neg (by omega)]
  · rintro H2 ⟨s2, e2⟩
    rw [hul, if_pos hil] at e2
    refine ⟨_, rfl, _, rfl, D, _, 0, _, rfl, rfl, SqL.of e2, atI_nat (j := 0) rfl, sa, st, i, dn i, rfl, s2 _ _ hsa, hdn.down i hil, by have := hdn.len i hil; omega, fun H3 p s3 hp e3 => ?_⟩
    refine ⟨_, rfl, p, D, _, _, rfl, rfl, e3, s3 _ _ e2, sml _ (by rw [nV_len, List.length_singleton]; have := hdn.len i hil; omega), fun l hl => ?_⟩
    refine q _ l (s2.trans (s3.trans (Same.new hl))) (Same.free (s2.trans s3) hl) ?_
    rw [upd_same, nV_app]
end
end K16

namespace K16
open PySem PySem.Spec PyProof.Rows L2 Ov
section
variable {P : Program} {w : World} {K : PySem.W.Frag} {mg : Str → Option Value} {base : Heap}
theorem sc_check_room : FnScope ["room"] ["room"] (defScope s_check_room) := ⟨rfl, rfl, rfl, by decide +kernel, rfl, by decide +kernel, by decide +kernel⟩
-- 0 room
theorem ok_check_room (T : Txt w K mg) : FnOk P w K mg base CX0 2 (He.ga K "check_room") (fdOf K d_check_room) ["room"] spCheckRoom := by
  have G_between := ok_between (P := P) (base := base) T
  refine T.F_check_room.ok sc_check_room (fun vs H Q E h => ?_) (fun cdv A outer s H vs Q E hr h => ?_)
  · obtain ⟨r, rfl, _⟩ := h
    rfl
  obtain ⟨r, rfl, h1, h2, q⟩ := h
  refine ⟨_, PSs.nox (pss_one (ps_if (pt_not (pt_val (pe_call G_between (hr.mono (by omega)) (by rfl) T.g_between T.kp_between T.b_between .nil pass0 (pa_cons (pv 0) (pa_cons pe_int (pa_cons (pe_glob (v := .int 64) (by rfl) T.i_MOST_ROOM.choose_spec ⟨_, rfl⟩) pa_nil)))))) (pss_one ps_never) pss_nil)), ?_⟩
  refine ⟨_, rfl, r, 1, 64, rfl, _, rfl, ?_⟩
  rw [decide_eq_true (show (1 : Int) ≤ r ∧ r ≤ 64 from ⟨h1, h2⟩)]
  exact iteF q
def osc_lay : Scope := { kind := .function, names := [(".0", .local), ("part", .local), ("firsts", .cell), ("program", .cell)], isGenerator := false, isCoroutine := false }
theorem sc_layouts : FnScope ["program", "tree", "firsts", "part", "function", "number"] ["program", "tree"] (defScope s_layouts) := ⟨rfl, rfl, rfl, by decide +kernel, rfl, by decide +kernel, by decide +kernel⟩
-- 0 program, 1 tree, 2 firsts, 3 part, 4 function, 5 number
theorem ok_layouts (T : Txt w K mg) : FnOk P w K mg base CX0 4 (He.ga K "layouts") (fdOf K d_layouts) ["program", "tree"] spLayouts := by
  have G_firsts_of := ok_firsts_of (P := P) (base := base) T
  refine T.F_layouts.ok sc_layouts (fun vs H Q E h => ?_) (fun cdv A outer s H vs Q E hr h => ?_)
  · obtain ⟨v, t, pr, ps, st, dn, rfl, _⟩ := h
    rfl
  obtain ⟨v, t, pr, ps, st, dn, rfl, hpre, hdn, q⟩ := h
  refine ⟨_, PSs.nox (pss_cons (ps_set (i := 2) sc_layouts.nd rfl (by first | exact Or.inl rfl | exact Or.inr rfl) (pe_call G_firsts_of (hr.mono (by omega)) (by rfl) T.g_firsts_of T.kp_firsts_of T.b_firsts_of .nil pass0 (pa_cons (pv 0) (pa_cons (pv 1) pa_nil))))
      (pss_one (ps_ret (pe_lc (own := [("part", 3)]) rfl sc_layouts.nd (Ov.pi_tupK (K := K) rfl (pe_ix (r := rIxT K) ix_tup (pv 1) pe_int (fun _ _ => rfl))) (by first | exact blkOk_by (own := [("part", 3)]) (N := ["program", "tree", "firsts", "part", "function", "number"]) (sc := defScope s_layouts) (by decide +kernel) | exact blkOk_by (own := [("part", 3)]) (N := ["program", "tree", "firsts", "part", "function", "number"]) (sc := osc_lay) (by decide +kernel)) (fun _ _ _ _ _ => (pg_name (i := 3) sc_layouts.nd rfl (by first | exact Or.inl rfl | exact Or.inr rfl))) (fun _ _ _ _ _ => pts_nil) (fun _ _ _ _ _ => (pe_lc2 (own := [("function", 4), ("number", 5)]) (vs1 := [5]) rfl sc_layouts.nd (Ov.pi_tupK (K := K) rfl (pv 3)) (by first | exact blkOk_by (own := [("function", 4), ("number", 5)]) (N := ["program", "tree", "firsts", "part", "function", "number"]) (sc := defScope s_layouts) (by decide +kernel) | exact blkOk_by (own := [("function", 4), ("number", 5)]) (N := ["program", "tree", "firsts", "part", "function", "number"]) (sc := osc_lay) (by decide +kernel)) (by decide) (fun _ _ _ _ _ => (pg_name (i := 4) sc_layouts.nd rfl (by first | exact Or.inl rfl | exact Or.inr rfl))) (fun _ _ _ _ _ => pts_nil) (fun _ _ _ _ _ => (pi_range1 (by rfl) T.z_range (pa_cons (pe_ix (r := rIxT K) ix_tup (pe_ix (r := rIxT K) ix_tup (pv 0) (pv 4) (fun _ _ => rfl)) pe_int (fun _ _ => rfl)) pa_nil))) (fun _ _ _ _ _ => (pg_name (i := 5) sc_layouts.nd rfl (by first | exact Or.inl rfl | exact Or.inr rfl))) (fun _ _ _ _ _ => pts_nil) (fun _ _ _ _ _ => (pe_tup (pa_cons (pe_op op_add (pe_ix (r := rIxL K) ix_list (pv 2) (pv 4) (fun _ _ => rfl)) (pv 5)) (pa_cons (pe_tup (pa_cons (pv 4) (pa_cons (pv 5) pa_nil))) pa_nil)))))))))), ?_⟩
  refine ⟨_, rfl, _, rfl, v, t, pr, ps, st, dn, rfl, hpre, hdn, fun H1 F cs s1 hF eF hcs => ?_⟩
  obtain ⟨⟨pa, vp, rfl, hpa, hpf⟩, hok, ⟨a, qa, sa, us, rfl, ha, hqa, hus, hsa⟩, htr⟩ := hpre.keep (Keep.same s1)
  have hul := Paired.length hus
  have l8 := hok.l8
  have hc := htr.p.count
  refine ⟨_, rfl, a, _, 0, _, rfl, rfl, SqT.of ha, atI_nat (j := 0) rfl, qa, rfl, ⟨us, SqT.of hqa⟩, fun D hD => ?_⟩
  refine lc_tupY (K := K) (a := qa) (xs := us) (fun i H' => ∃ ls : List Addr, Same H1 H' ∧ H' D = some (.lst (ls.map V.ref)) ∧ Paired (fun b l => LayAt H' b l ∧ H b = none ∧ b ≠ D) ls ((ps.take i).map (layP pr cs))) ⟨[], Same.new hD, upd_same, .nil⟩ (fun i H' _ ⟨_, e, _⟩ => SqT.of (e _ _ hqa)) ?_ ?_
  · rintro i x H2 hi ⟨ls, s2, eD, hls⟩
    obtain ⟨p, hp, ⟨b, rfl, hb⟩⟩ := Paired.get2 hus hi
    have hil := (List.getElem?_eq_some_iff.mp hp).1
    have hm := List.mem_of_getElem? hp
    have hbl := Paired.length hls
    rw [List.length_map, List.length_take] at hbl
    refine ⟨rfl, _, rfl, b, rfl, ⟨_, SqT.of (s2 _ _ hb)⟩, fun B hB => ?_⟩
    have nDB : D ≠ B := ne_of_none eD hB
    have cell : ∀ {j f : Nat}, p[j]? = some f → cs[f]? = some (bgn pr ps dn i + psz pr (p.take j)) ∧ (layP pr cs (p.take j)).length ≤ 64 ∧ 0 ≤ bgn pr ps dn i + psz pr (p.take j) := fun {j f} hj => by
      have lj := (List.getElem?_eq_some_iff.mp hj).1
      have z := congrArg List.length (lay_cells hok htr.p hcs hp j (by omega))
      rw [List.length_map, List.length_map, List.length_range] at z
      have y := psz_nn hok (p := p.take j) fun x hx => htr.p.lt hm (List.mem_of_mem_take hx)
      have b0 := bgn_nn hok htr.p (dn := dn) (i := i)
      have := htr.p.plen hm
      have := List.length_take_le j p
      have : (p.take j).length ≤ 8 := by rw [List.length_take]; omega
      exact ⟨hcs.2 i p j f hp hj, by omega, by omega⟩
    refine lc2_out (walk_tup (K := K) (a := b) (xs := nV p)) (fun j H' => ∃ vs, Same H2 H' ∧ H' B = some (.lst vs) ∧ Paired (EntL H') vs (layP pr cs (p.take j))) ⟨[], Same.new hB, upd_same, .nil⟩ (fun j H' _ ⟨_, e, _⟩ => SqT.of (e _ _ (s2 _ _ hb))) ?_ ?_
    · rintro j y H3 H4 hj ⟨vs, s3, eB, hvs⟩ ⟨rfl, hy⟩
      obtain ⟨f, hf, rfl⟩ := nV_int hy
      have hfl := htr.p.lt hm (List.mem_of_getElem? hf)
      obtain ⟨hcf, l64, h0⟩ := cell hf
      obtain ⟨g, hg⟩ : ∃ g, pr[f]? = some g := ⟨_, List.getElem?_eq_getElem hfl⟩
      obtain ⟨u, hu, ⟨c, wv, rfl, hc2, _⟩⟩ := Paired.got hpf hg
      have efs : fsz pr f = g.1 := by unfold fsz; rw [hg]; rfl
      have f8 := fsz_pos hok hfl
      have s23 := s2.trans s3
      refine ⟨rfl, _, rfl, _, rfl, pa, _, _, _, rfl, rfl, SqT.of (s23 _ _ hpa), atI_nat hu, c, _, 0, _, rfl, rfl, SqT.of (s23 _ _ hc2), atI_nat (j := 0) rfl, g.1, rfl, by omega, by omega, ?_⟩
      refine lc2_in (walk_range (lo := 0) (n := g.1.toNat)) (fun n H' => ∃ vs, Same H2 H' ∧ H' B = some (.lst vs) ∧ Paired (EntL H') vs (layP pr cs (p.take j) ++ (List.range n).map fun n => ((cs[f]?.getD 0).toNat + n, (f, n)))) ⟨vs, s3, eB, by rw [List.range_zero, List.map_nil, List.append_nil]; exact hvs⟩ (fun _ _ _ _ => True.intro) ?_ ?_
      · rintro n z H5a H5 hn ⟨ws, s5, eB5, hws⟩ ⟨rfl, hz⟩
        obtain rfl : z = .int (0 + (n : Int)) := hz
        have s25 := s2.trans s5
        have hwl := Paired.length hws
        rw [List.length_append, List.length_map, List.length_range] at hwl
        refine ⟨rfl, _, rfl, _, rfl, F, _, _, _, rfl, rfl, SqL.of (s25 _ _ eF), atI_nat (by rw [List.getElem?_map, hcf]; rfl), _, rfl, _, _, rfl, rfl, _, rfl, _, rfl, sml 2, fun t ht => ?_⟩
        have s6 := Same.new (o := .tup [.int (f : Int), .int (0 + (n : Int))]) ht
        have e6 : upd H5 t (.tup [.int (f : Int), .int (0 + (n : Int))]) t = some (.tup [.int (f : Int), .int (0 + (n : Int))]) := upd_same
        have eB6 := s6 _ _ eB5
        generalize upd H5 t (.tup [.int (f : Int), .int (0 + (n : Int))]) = H6 at s6 e6 eB6 ⊢
        refine ⟨sml 2, fun t2 ht2 => ?_⟩
        have s7 := Same.new (o := .tup [.int (bgn pr ps dn i + psz pr (p.take j) + (0 + (n : Int))), .ref t]) ht2
        have e7 : upd H6 t2 (.tup [.int (bgn pr ps dn i + psz pr (p.take j) + (0 + (n : Int))), .ref t]) t2 = some (.tup [.int (bgn pr ps dn i + psz pr (p.take j) + (0 + (n : Int))), .ref t]) := upd_same
        have eB7 := s7 _ _ eB6
        have e67 := s7 _ _ e6
        generalize upd H6 t2 (.tup [.int (bgn pr ps dn i + psz pr (p.take j) + (0 + (n : Int))), .ref t]) = H7 at s7 e7 eB7 e67 ⊢
        have kB := Keep.updL (ys := ws ++ [.ref t2]) eB7
        refine ⟨_, eB7, sm _ (by omega), ws ++ [.ref t2], Ov.Same.updn (s5.trans (s6.trans s7)) hB, upd_same, ?_⟩
        rw [List.range_succ, List.map_append, ← List.append_assoc]
        refine PySem.Paired.snoc (L2.Paired.mapP hws fun _ _ z => (z.keep (Keep.same (s6.trans s7))).keep kB) ?_
        refine EntL.keep kB ⟨t2, .ref t, rfl, ?_, t, rfl, ?_⟩
        · rw [e7, hcf]
          show some (HO.tup [V.int _, V.ref t]) = some (HO.tup [V.int (((bgn pr ps dn i + psz pr (p.take j)).toNat + n : Nat) : Int), V.ref t])
          rw [show (((bgn pr ps dn i + psz pr (p.take j)).toNat + n : Nat) : Int) = bgn pr ps dn i + psz pr (p.take j) + (0 + (n : Int)) by omega]
        · rw [e67, show (0 : Int) + (n : Int) = (n : Int) by omega]
      · rintro H5 ⟨ws, s5, eB5, hws⟩
        refine ⟨ws, s5, eB5, ?_⟩
        rw [List.take_add_one, hf]
        show Paired _ ws (layP pr cs (p.take j ++ [f]))
        rw [layP_snoc, efs]
        exact hws
    · rintro H3 ⟨vs, s3, eB, hvs⟩
      rw [nV_len, List.take_length] at hvs
      have s23 := s2.trans s3
      have eD3 := s3 _ _ eD
      have kD := Keep.updL (ys := ls.map V.ref ++ [.ref B]) eD3
      refine ⟨_, eD3, sm _ (by rw [List.length_map]; omega), ls ++ [B], Ov.Same.updn s23 hD, by rw [upd_same, List.map_append]; rfl, ?_⟩
      rw [List.take_add_one, hp, List.map_append]
      refine PySem.Paired.snoc (L2.Paired.mapP hls fun b' l' ⟨⟨us', z1, z2⟩, z3, z4⟩ => ⟨⟨us', by rw [upd_ne z4]; exact s3 _ _ z1, L2.Paired.mapP z2 fun _ _ y => (y.keep (Keep.same s3)).keep kD⟩, z3, z4⟩) ?_
      exact ⟨⟨vs, by rw [upd_ne nDB.symm]; exact eB, L2.Paired.mapP hvs fun _ _ y => y.keep kD⟩, Same.free (s1.trans s2) hB, nDB.symm⟩
  · rintro H2 ⟨ls, s2, eD, hls⟩
    rw [hul, List.take_length] at hls
    exact q H2 D ls cs (s1.trans s2) (Same.free s1 hD) eD hcs (L2.Paired.mapP hls fun _ _ z => ⟨z.1, z.2.1⟩)
end
end K16

namespace K16
open PySem PySem.Spec PyProof.Rows L2 Ov
section
variable {P : Program} {w : World} {K : PySem.W.Frag} {mg : Str → Option Value} {base : Heap}
theorem sc_Hall_has_part : FnScope ["self", "part", "cell", "content"] ["self", "part"] (defScope s_Hall_has_part) := ⟨rfl, rfl, rfl, by decide +kernel, rfl, by decide +kernel, by decide +kernel⟩
-- 0 self, 1 part, 2 cell, 3 content
theorem ok_Hall_has_part (T : Txt w K mg) : FnOk P w K mg base CX0 1 (He.ma K (He.ga K "Hall") "has_part") (fdOf K d_Hall_has_part) ["self", "part"] (spHasPart K) := by
  refine T.F_Hall_has_part.ok sc_Hall_has_part (fun vs H Q E h => ?_) (fun cdv A outer s H vs Q E hr h => ?_)
  · obtain ⟨H0, x, wys, L, lc, mv, far, q, rfl, _⟩ := h
    rfl
  obtain ⟨H0, x, wys, L, lc, mv, far, q, rfl, ⟨hat, hok, hle⟩, hq, hQ⟩ := h
  refine ⟨_, PSs.nox (pss_one (ps_ret (pe_callB (r := rAll K) (cr_all rfl) (by rfl) T.z_all (by decide +kernel) (pa_cons (pe_lc (own := [("cell", 2), ("content", 3)]) rfl sc_Hall_has_part.nd (Ov.pi_listK (K := K) rfl (pe_ix (r := rIxL K) ix_list (Ov.pe_fldK (K := K) rfl (pv 0) rfl) (pv 1) (fun _ _ => rfl))) (blkOk_by (own := [("cell", 2), ("content", 3)]) (N := ["self", "part", "cell", "content"]) (sc := defScope s_Hall_has_part) (by decide +kernel)) (fun _ _ _ _ _ => (Ov.pg_tupK (K := K) (n := 2) rfl rfl (pgs_cons (pg_name (i := 2) sc_Hall_has_part.nd rfl (by first | exact Or.inl rfl | exact Or.inr rfl)) (pgs_cons (pg_name (i := 3) sc_Hall_has_part.nd rfl (by first | exact Or.inl rfl | exact Or.inr rfl)) pgs_nil)))) (fun _ _ _ _ _ => pts_nil) (fun _ _ _ _ _ => (pe_cmpR (r := rEqD K) (op_eqD hr.units) (pe_ix (r := rIxL K) ix_list (Ov.pe_fldK (K := K) rfl (pv 0) rfl) (pv 2) (fun _ _ => rfl)) (pv 3) (by first | rfl | exact nomark _)))) pa_nil)))), ?_⟩
  obtain ⟨ls, hlo, hls⟩ := hat.lo
  obtain ⟨us, hly, hus⟩ := hat.ly
  have hul := Paired.length hus
  obtain ⟨l, hl⟩ : ∃ l, L[q]? = some l := ⟨_, List.getElem?_eq_getElem hq⟩
  have el : lyr L q = l := by unfold lyr; rw [hl]; rfl
  obtain ⟨b, hb, ⟨es, hes, hent⟩, _, nbl⟩ := Paired.got hls hl
  have hel := Paired.length hent
  have h64 := hok.ln q
  have hlt := hok.lt q
  rw [el] at h64 hlt hQ
  refine ⟨_, rfl, x.a, _, _, _, _, rfl, hat.ob, T.c_Hall, T.a_Hall_layouts, rfl, _, rfl, x.lo, _, _, _, rfl, rfl, SqL.of hlo, atI_nat (by rw [List.getElem?_map, hb]; rfl), b, rfl, ⟨_, SqL.of hes⟩, fun D hD => ?_⟩
  refine lc_listY (K := K) (a := b) (xs := es) (fun i H' => Same H H' ∧ H' D = some (.lst (((l.take i).map fun e => decide (lc[e.1]? = some (some e.2))).map V.bl))) ⟨Same.new hD, upd_same⟩ (fun i H' _ e => SqL.of (e.1 _ _ hes)) ?_ ?_
  · rintro i y H1 hi ⟨s1, e1⟩
    obtain ⟨e, he, t, u, rfl, ht, hc⟩ := Paired.get2 hent hi
    have hem := hlt e (List.mem_of_getElem? he)
    obtain ⟨c, hcc⟩ : ∃ c, lc[e.1]? = some c := ⟨_, List.getElem?_eq_getElem (by omega)⟩
    obtain ⟨v, hv, hcell⟩ := Paired.got hus hcc
    refine ⟨t, _, rfl, SqT.of (s1 _ _ ht), rfl, _, _, rfl, _, _, rfl, rfl, rfl, _, rfl, x.a, _, _, _, _, rfl, s1 _ _ hat.ob, T.c_Hall, T.a_Hall_lying, rfl, _, rfl, x.ly, _, _, _, rfl, rfl, SqL.of (s1 _ _ hly), atI_nat hv, _, rfl, cellD c, cellD (some e.2), cell_dp (hcell.keep (Keep.same s1)), cell_dp (c := some e.2) (hc.keep (Keep.same s1)), cell_shaped _, cell_shaped _, ?_⟩
    rw [cell_eqv]
    refine ⟨_, e1, sm _ (by rw [List.length_map, List.length_map, List.length_take]; omega), Ov.Same.updn s1 hD, ?_⟩
    rw [upd_same, List.take_add_one, he, List.map_append, List.map_append]
    show some (HO.lst (_ ++ [V.bl (decide (c = some e.2))])) = some (HO.lst (_ ++ [V.bl (decide (lc[e.1]? = some (some e.2)))]))
    rw [hcc]
    congr 4
    refine congrArg V.bl (Bool.eq_iff_iff.mpr ?_)
    rw [decide_eq_true_iff, decide_eq_true_iff]
    exact ⟨fun z => by rw [z], fun z => Option.some.inj z⟩
  · rintro H1 ⟨s1, e1⟩
    rw [hel, List.take_length] at e1
    refine ⟨D, _, rfl, SqL.of e1, ?_⟩
    show Q (.bl ((l.map fun e => decide (lc[e.1]? = some (some e.2))).all id)) H1
    rw [List.all_map]
    exact hQ H1 s1
theorem sc_Hall_bring : FnScope ["self", "part", "cell", "content"] ["self", "part"] (defScope s_Hall_bring) := ⟨rfl, rfl, rfl, by decide +kernel, rfl, by decide +kernel, by decide +kernel⟩
-- 0 self, 1 part, 2 cell, 3 content
theorem ok_Hall_bring (T : Txt w K mg) : FnOk P w K mg base CX0 1 (He.ma K (He.ga K "Hall") "bring") (fdOf K d_Hall_bring) ["self", "part"] (spBring K) := by
  refine T.F_Hall_bring.ok sc_Hall_bring (fun vs H Q E h => ?_) (fun cdv A outer s H vs Q E hr h => ?_)
  · obtain ⟨H0, x, wys, L, lc, mv, far, q, rfl, _⟩ := h
    rfl
  obtain ⟨H0, x, wys, L, lc, mv, far, q, rfl, ⟨hat, hok, hle⟩, hq, hQ⟩ := h
  refine ⟨_, PSs.nox (pss_one (ps_for PassesOwn.never rfl (Ov.pi_listK (K := K) rfl (pe_ix (r := rIxL K) ix_list (Ov.pe_fldK (K := K) rfl (pv 0) rfl) (pv 1) (fun _ _ => rfl))) (Ov.pg_tupK (K := K) (n := 2) rfl rfl (pgs_cons (pg_name (i := 2) sc_Hall_bring.nd rfl (by first | exact Or.inl rfl | exact Or.inr rfl)) (pgs_cons (pg_name (i := 3) sc_Hall_bring.nd rfl (by first | exact Or.inl rfl | exact Or.inr rfl)) pgs_nil))) (pss_cons (ps_asg (pv 3) (pg_sub (Ov.pe_fldK (K := K) rfl (pv 0) rfl) (pv 2) set_list))
      (pss_one (ps_fldaug (pv 0) pe_int in_add))))), ?_⟩
  obtain ⟨ls, hlo, hls⟩ := hat.lo
  obtain ⟨l, hl⟩ : ∃ l, L[q]? = some l := ⟨_, List.getElem?_eq_getElem hq⟩
  have el : lyr L q = l := by unfold lyr; rw [hl]; rfl
  obtain ⟨b, hb, ⟨es, hes, hent⟩, _, nbl⟩ := Paired.got hls hl
  have hel := Paired.length hent
  have hlt := hok.lt q
  rw [el] at hlt hQ
  have nba : b ≠ x.a := ne_of hes hat.ob (by intro z; cases z)
  refine ⟨_, rfl, x.a, _, _, _, _, rfl, hat.ob, T.c_Hall, T.a_Hall_layouts, rfl, _, rfl, x.lo, _, _, _, rfl, rfl, SqL.of hlo, atI_nat (by rw [List.getElem?_map, hb]; rfl), b, rfl, ⟨_, SqL.of hes⟩, ?_⟩
  refine for_list (K := K) (a := b) (xs := es) (fun i σ' H' => ∃ y2 y3 : Option V, σ' = [some (.ref x.a), some (.int (q : Int)), y2, y3] ∧ ButHl x H H' ∧ HallAt K H0 H' x wys L (brg lc (l.take i)) (mv + (i : Int))) ⟨none, none, rfl, ButHl.refl, by rw [List.take_zero]; show HallAt K H0 H x wys L lc (mv + 0); rw [Int.add_zero]; exact hat⟩ (fun i σ' H' _ ⟨_, _, _, z, _⟩ => SqL.of (z _ _ nba nbl hes)) ?_ ?_
  · rintro i y σ' H1 hi ⟨y2, y3, rfl, b1, h1⟩
    obtain ⟨e, he, t, u, rfl, ht, hc⟩ := Paired.get2 hent hi
    have k1 := ButHl.keep hat b1
    have hem := hlt e (List.mem_of_getElem? he)
    obtain ⟨vs, hly, hvs⟩ := h1.ly
    have hvl := Paired.length hvs
    rw [brg_len] at hvl
    refine ⟨t, _, rfl, SqT.of (k1 _ _ ht), rfl, _, _, rfl, _, _, rfl, rfl, _, rfl, _, rfl, x.a, _, _, _, _, rfl, h1.ob, T.c_Hall, T.a_Hall_lying, rfl, _, rfl, x.ly, _, _, e.1, rfl, rfl, hly, ixN_nat (by omega), ?_⟩
    obtain ⟨h2, b2⟩ := h1.setc hly (hc.keep k1) e.1
    generalize upd H1 x.ly (.lst (vs.set e.1 u)) = H2 at h2 b2 ⊢
    refine ⟨_, rfl, x.a, _, _, _, _, rfl, h2.ob, T.c_Hall, T.a_Hall_moved, rfl, _, _, rfl, rfl, x.dx, _, h2.ob, by show 4 < 1000; decide, ?_⟩
    obtain ⟨h3, b3⟩ := h2.mvd (mv + (i : Int) + 1)
    refine ⟨_, _, rfl, b1.trans (b2.trans b3), ?_⟩
    rw [List.take_add_one, he]
    show HallAt K H0 _ x wys L (brg lc (l.take i ++ [e])) _
    rw [brg_snoc, show mv + ((i + 1 : Nat) : Int) = mv + (i : Int) + 1 by omega]
    exact h3
  · rintro σ' H1 ⟨y2, y3, rfl, b1, h1⟩
    rw [hel, List.take_length] at h1
    exact hQ H1 b1 ⟨h1, hok, by rw [brg_len]; exact hle⟩
theorem sc_Hall_look : FnScope ["self", "function", "missing", "part"] ["self", "function"] (defScope s_Hall_look) := ⟨rfl, rfl, rfl, by decide +kernel, rfl, by decide +kernel, by decide +kernel⟩
-- 0 self, 1 function, 2 missing, 3 part
theorem ok_Hall_look (T : Txt w K mg) : FnOk P w K mg base CX0 3 (He.ma K (He.ga K "Hall") "look") (fdOf K d_Hall_look) ["self", "function"] (spLook K) := by
  have G_check_function := ok_check_function (P := P) (base := base) T
  have G_Hall_has_part := ok_Hall_has_part (P := P) (base := base) T
  have G_Hall_bring := ok_Hall_bring (P := P) (base := base) T
  refine T.F_Hall_look.ok sc_Hall_look (fun vs H Q E h => ?_) (fun cdv A outer s H vs Q E hr h => ?_)
  · obtain ⟨H0, x, wys, L, lc, mv, far, f, w, rfl, _⟩ := h
    rfl
  obtain ⟨H0, x, wys, L, lc, mv, far, f, w, rfl, hin, hw, hQ⟩ := h
  refine ⟨_, PSs.nox (pss_cons (ps_expr (pe_call G_check_function (hr.mono (by omega)) (by rfl) T.g_check_function T.kp_check_function T.b_check_function .nil pass0 (pa_cons (pv 1) (pa_cons (pe_callB (r := Evl.rLenS K) call_len_seq (by rfl) T.z_len PySem.boot_len (pa_cons (Ov.pe_fldK (K := K) rfl (pv 0) rfl) pa_nil)) pa_nil))))
      (pss_cons (ps_setLc (i := 2) (own := [("part", 3)]) rfl sc_Hall_look.nd rfl rfl (sw_true rfl rfl rfl (by decide +kernel)) (Ov.pi_listK (K := K) rfl (pe_ix (r := rIxL K) ix_list (Ov.pe_fldK (K := K) rfl (pv 0) rfl) (pv 1) (fun _ _ => rfl))) (blkOk_by (own := [("part", 3)]) (N := ["self", "function", "missing", "part"]) (sc := defScope s_Hall_look) (by decide +kernel)) (fun _ _ _ _ _ => (pg_name (i := 3) sc_Hall_look.nd rfl (by first | exact Or.inl rfl | exact Or.inr rfl))) (fun _ _ _ _ _ => (pts_one (pt_not (pt_val (pe_meth (pv 0) T.c_Hall T.m_Hall_has_part G_Hall_has_part (hr.mono (by omega)) T.b_Hall_has_part .nil pass0 (pa_cons (pv 3) pa_nil)))))) (fun _ _ _ _ _ => (pv 3)))
      (pss_cons (ps_for PassesOwn.never rfl (Ov.pi_listK (K := K) rfl (pv 2)) (pg_name (i := 3) sc_Hall_look.nd rfl (by first | exact Or.inl rfl | exact Or.inr rfl)) (pss_one (ps_expr (pe_meth (pv 0) T.c_Hall T.m_Hall_bring G_Hall_bring (hr.mono (by omega)) T.b_Hall_bring .nil pass0 (pa_cons (pv 3) pa_nil)))))
      (pss_one (ps_ret (pv 2)))))), ?_⟩
  obtain ⟨hat, hok, hle⟩ := hin
  obtain ⟨ws, hwy, hws⟩ := hat.wy
  have hwl := Paired.length hws
  have hfl := (List.getElem?_eq_some_iff.mp hw).1
  obtain ⟨b, hb, hbw, _, nbl⟩ := Paired.got hws hw
  obtain ⟨w8, wlt⟩ := hok.wl w (List.mem_of_getElem? hw)
  refine ⟨_, rfl, _, rfl, x.a, _, _, _, _, rfl, hat.ob, T.c_Hall, T.a_Hall_ways, rfl, x.wy, _, rfl, .inl (SqL.of hwy), f, ws.length, ?_, by omega, ?_⟩
  · rw [List.length_map]
    rfl
  refine ⟨_, rfl, x.a, _, _, _, _, rfl, hat.ob, T.c_Hall, T.a_Hall_ways, rfl, _, rfl, x.wy, _, _, _, rfl, rfl, SqL.of hwy, atI_nat (by rw [List.getElem?_map, hb]; rfl), b, rfl, ⟨_, SqL.of hbw⟩, fun D hD => ?_⟩
  have nDy : D ≠ x.ly := by
    obtain ⟨us, hly, _⟩ := hat.ly
    exact (ne_of_none hly hD).symm
  refine lc_list (K := K) (a := b) (xs := nV w) (fun i H' => Same H H' ∧ H' D = some (.lst (nV (mis lc L (w.take i))))) ⟨Same.new hD, upd_same⟩ (fun i H' _ e => SqL.of (e.1 _ _ hbw)) ?_ ?_
  · rintro i y H1 hi ⟨s1, e1⟩
    obtain ⟨q, hq, rfl⟩ := nV_int hi
    have hil := (List.getElem?_eq_some_iff.mp hq).1
    have hml : (mis lc L (w.take i)).length ≤ 8 := Nat.le_trans (List.length_filter_le _ _) (by rw [List.length_take]; omega)
    have em : mis lc L (w.take (i + 1)) = mis lc L (w.take i) ++ (if Has lc (lyr L q) = true then [] else [q]) := by
      unfold mis
      rw [List.take_add_one, hq, List.filter_append]
      congr 1
      cases e : Has lc (lyr L q) <;> simp [e]
    refine ⟨rfl, _, rfl, x.a, _, _, rfl, s1 _ _ hat.ob, rfl, _, rfl, H0, x, wys, L, lc, mv, far, q, rfl, ⟨hat.same s1, hok, hle⟩, wlt q (List.mem_of_getElem? hq), fun H2 s2 => ?_⟩
    rw [em]
    cases hh : Has lc (lyr L q) with
    | true => exact ⟨_, rfl, iteF ⟨s1.trans s2, by rw [s2 _ _ e1]; simp⟩⟩
    | false =>
      refine ⟨_, rfl, iteT ⟨_, rfl, _, s2 _ _ e1, sm _ (by rw [nV_len]; omega), Ov.Same.updn (s1.trans s2) hD, ?_⟩⟩
      rw [upd_same, if_neg (by decide), nV_app]
  rintro H1 ⟨s1, e1⟩
  rw [nV_len, List.take_length] at e1
  have hat1 := hat.same s1
  generalize hms : mis lc L w = ms at e1 hQ
  have hmm : ∀ q ∈ ms, q < L.length := fun q hq => by
    rw [← hms] at hq
    exact wlt q (List.mem_filter.mp hq).1
  have nDa : D ≠ x.a := (ne_of_none hat.ob hD).symm
  refine ⟨_, rfl, D, rfl, ⟨_, SqL.of e1⟩, ?_⟩
  refine for_list (K := K) (a := D) (xs := nV ms) (fun i σ' H' => ∃ y3 : Option V, σ' = [some (.ref x.a), some (.int (f : Int)), some (.ref D), y3] ∧ ButHl x H1 H' ∧ HallIn K H0 H' x wys L (brgs lc L (ms.take i)) (mv + (siz L (ms.take i) : Nat)) far) ⟨none, rfl, ButHl.refl, by rw [List.take_zero]; show HallIn K H0 H1 x wys L lc (mv + 0) far; rw [Int.add_zero]; exact ⟨hat1, hok, hle⟩⟩ (fun i σ' H' _ ⟨_, _, z, _⟩ => SqL.of (z _ _ nDa nDy e1)) ?_ ?_
  · rintro i y σ' H2 hi ⟨y3, rfl, b2, h2⟩
    obtain ⟨q, hq, rfl⟩ := nV_int hi
    refine ⟨_, rfl, x.a, _, _, rfl, h2.at_.ob, rfl, _, rfl, H0, x, wys, L, _, _, far, q, rfl, h2, hmm q (List.mem_of_getElem? hq), fun H3 b3 h3 => ⟨_, rfl, b2.trans b3, ?_⟩⟩
    rw [List.take_add_one, hq]
    show HallIn K H0 H3 x wys L (brgs lc L (ms.take i ++ [q])) (mv + ((siz L (ms.take i ++ [q]) : Nat) : Int)) far
    rw [brgs_snoc, siz_snoc, Int.natCast_add, ← Int.add_assoc]
    exact h3
  · rintro σ' H2 ⟨y3, rfl, b2, h2⟩
    rw [nV_len, List.take_length] at h2
    refine ⟨_, rfl, hQ H2 D ((ButHl.same s1).trans b2) hD nDy (b2 _ _ nDa nDy e1) h2⟩
theorem sc_Hall_there : FnScope ["self", "function", "part"] ["self", "function"] (defScope s_Hall_there) := ⟨rfl, rfl, rfl, by decide +kernel, rfl, by decide +kernel, by decide +kernel⟩
-- 0 self, 1 function, 2 part
theorem ok_Hall_there (T : Txt w K mg) : FnOk P w K mg base CX0 3 (He.ma K (He.ga K "Hall") "there") (fdOf K d_Hall_there) ["self", "function"] (spThere K) := by
  have G_check_function := ok_check_function (P := P) (base := base) T
  have G_Hall_has_part := ok_Hall_has_part (P := P) (base := base) T
  refine T.F_Hall_there.ok sc_Hall_there (fun vs H Q E h => ?_) (fun cdv A outer s H vs Q E hr h => ?_)
  · obtain ⟨H0, x, wys, L, lc, mv, far, f, w, rfl, _⟩ := h
    rfl
  obtain ⟨H0, x, wys, L, lc, mv, far, f, w, rfl, hin, hw, hQ⟩ := h
  refine ⟨_, PSs.nox (pss_cons (ps_expr (pe_call G_check_function (hr.mono (by omega)) (by rfl) T.g_check_function T.kp_check_function T.b_check_function .nil pass0 (pa_cons (pv 1) (pa_cons (pe_callB (r := Evl.rLenS K) call_len_seq (by rfl) T.z_len PySem.boot_len (pa_cons (Ov.pe_fldK (K := K) rfl (pv 0) rfl) pa_nil)) pa_nil))))
      (pss_one (ps_ret (pe_callB (r := rAll K) (cr_all rfl) (by rfl) T.z_all (by decide +kernel) (pa_cons (pe_lc (own := [("part", 2)]) rfl sc_Hall_there.nd (Ov.pi_listK (K := K) rfl (pe_ix (r := rIxL K) ix_list (Ov.pe_fldK (K := K) rfl (pv 0) rfl) (pv 1) (fun _ _ => rfl))) (blkOk_by (own := [("part", 2)]) (N := ["self", "function", "part"]) (sc := defScope s_Hall_there) (by decide +kernel)) (fun _ _ _ _ _ => (pg_name (i := 2) sc_Hall_there.nd rfl (by first | exact Or.inl rfl | exact Or.inr rfl))) (fun _ _ _ _ _ => pts_nil) (fun _ _ _ _ _ => (pe_meth (pv 0) T.c_Hall T.m_Hall_has_part G_Hall_has_part (hr.mono (by omega)) T.b_Hall_has_part .nil pass0 (pa_cons (pv 2) pa_nil)))) pa_nil))))), ?_⟩
  obtain ⟨hat, hok, hle⟩ := hin
  obtain ⟨ws, hwy, hws⟩ := hat.wy
  have hwl := Paired.length hws
  have hfl := (List.getElem?_eq_some_iff.mp hw).1
  obtain ⟨b, hb, hbw, _, nbl⟩ := Paired.got hws hw
  obtain ⟨w8, wlt⟩ := hok.wl w (List.mem_of_getElem? hw)
  refine ⟨_, rfl, _, rfl, x.a, _, _, _, _, rfl, hat.ob, T.c_Hall, T.a_Hall_ways, rfl, x.wy, _, rfl, .inl (SqL.of hwy), f, ws.length, ?_, by omega, ?_⟩
  · rw [List.length_map]
    rfl
  refine ⟨_, rfl, x.a, _, _, _, _, rfl, hat.ob, T.c_Hall, T.a_Hall_ways, rfl, _, rfl, x.wy, _, _, _, rfl, rfl, SqL.of hwy, atI_nat (by rw [List.getElem?_map, hb]; rfl), b, rfl, ⟨_, SqL.of hbw⟩, fun D hD => ?_⟩
  refine lc_listY (K := K) (a := b) (xs := nV w) (fun i H' => Same H H' ∧ H' D = some (.lst (((w.take i).map fun q => Has lc (lyr L q)).map V.bl))) ⟨Same.new hD, upd_same⟩ (fun i H' _ e => SqL.of (e.1 _ _ hbw)) ?_ ?_
  · rintro i y H1 hi ⟨s1, e1⟩
    obtain ⟨q, hq, rfl⟩ := nV_int hi
    have hil := (List.getElem?_eq_some_iff.mp hq).1
    refine ⟨rfl, _, rfl, x.a, _, _, rfl, s1 _ _ hat.ob, rfl, _, rfl, H0, x, wys, L, lc, mv, far, q, rfl, ⟨hat.same s1, hok, hle⟩, wlt q (List.mem_of_getElem? hq), fun H2 s2 => ?_⟩
    refine ⟨_, s2 _ _ e1, sm _ (by rw [List.length_map, List.length_map, List.length_take]; omega), Ov.Same.updn (s1.trans s2) hD, ?_⟩
    rw [upd_same, List.take_add_one, hq, List.map_append, List.map_append]
    rfl
  · rintro H1 ⟨s1, e1⟩
    rw [nV_len, List.take_length] at e1
    refine ⟨D, _, rfl, SqL.of e1, ?_⟩
    show Q (.bl ((w.map fun q => Has lc (lyr L q)).all id)) H1
    rw [List.all_map]
    exact hQ H1 s1
theorem sc_Hall_cells : FnScope ["self"] ["self"] (defScope s_Hall_cells) := ⟨rfl, rfl, rfl, by decide +kernel, rfl, by decide +kernel, by decide +kernel⟩
-- 0 self
theorem ok_Hall_cells (T : Txt w K mg) : FnOk P w K mg base CX0 1 (He.ma K (He.ga K "Hall") "cells") (fdOf K d_Hall_cells) ["self"] (spCells K) := by
  refine T.F_Hall_cells.ok sc_Hall_cells (fun vs H Q E h => ?_) (fun cdv A outer s H vs Q E hr h => ?_)
  · obtain ⟨H0, x, wys, L, lc, mv, far, rfl, _⟩ := h
    rfl
  obtain ⟨H0, x, wys, L, lc, mv, far, rfl, ⟨hat, hok, hle⟩, hQ⟩ := h
  refine ⟨_, PSs.nox (pss_one (ps_ret (pe_callTy (r := Evl.rListS K) call_list_of (by rfl) T.z_list (by decide +kernel) (pa_cons (Ov.pe_fldK (K := K) rfl (pv 0) rfl) pa_nil)))), ?_⟩
  obtain ⟨us, hly, hus⟩ := hat.ly
  refine ⟨_, rfl, x.a, _, _, _, _, rfl, hat.ob, T.c_Hall, T.a_Hall_lying, rfl, x.ly, us, rfl, .inl (SqL.of hly), fun r hr2 => ?_⟩
  exact hQ _ r us (Same.new hr2) hr2 upd_same (L2.Paired.mapP hus fun _ _ z => z.keep (Keep.same (Same.new hr2)))
theorem sc_Hall_brought : FnScope ["self"] ["self"] (defScope s_Hall_brought) := ⟨rfl, rfl, rfl, by decide +kernel, rfl, by decide +kernel, by decide +kernel⟩
-- 0 self
theorem ok_Hall_brought (T : Txt w K mg) : FnOk P w K mg base CX0 1 (He.ma K (He.ga K "Hall") "brought") (fdOf K d_Hall_brought) ["self"] (spBrought K) := by
  refine T.F_Hall_brought.ok sc_Hall_brought (fun vs H Q E h => ?_) (fun cdv A outer s H vs Q E hr h => ?_)
  · obtain ⟨H0, x, wys, L, lc, mv, far, rfl, _⟩ := h
    rfl
  obtain ⟨H0, x, wys, L, lc, mv, far, rfl, ⟨hat, hok, hle⟩, hQ⟩ := h
  refine ⟨_, PSs.nox (pss_one (ps_ret (Ov.pe_fldK (K := K) rfl (pv 0) rfl))), ?_⟩
  exact ⟨_, rfl, x.a, _, _, _, _, rfl, hat.ob, T.c_Hall, T.a_Hall_moved, rfl, hQ⟩
end
end K16

namespace K16
open PySem PySem.Spec PyProof.Rows L2 Ov
section
variable {P : Program} {w : World} {K : PySem.W.Frag} {mg : Str → Option Value} {base : Heap}
theorem sc_Hall_init : FnScope ["self", "program", "tree", "room", "function"] ["self", "program", "tree", "room"] (defScope s_Hall_init) := ⟨rfl, rfl, rfl, by decide +kernel, rfl, by decide +kernel, by decide +kernel⟩
-- 0 self, 1 program, 2 tree, 3 room, 4 function
theorem ok_Hall_init (T : Txt w K mg) : FnOk P w K mg base CX0 13 (He.ma K (He.ga K "Hall") "__init__") (fdOf K d_Hall_init) ["self", "program", "tree", "room"] (spHallInit K) := by
  have G_check_tree := ok_check_tree (P := P) (base := base) T
  have G_check_room := ok_check_room (P := P) (base := base) T
  have G_end_of := ok_end_of (P := P) (base := base) T
  have G_way_of := ok_way_of (P := P) (base := base) T
  have G_layouts := ok_layouts (P := P) (base := base) T
  refine T.F_Hall_init.ok sc_Hall_init (fun vs H Q E h => ?_) (fun cdv A outer s H vs Q E hr h => ?_)
  · obtain ⟨H0, a, dx, v, t, pr, ps, st, dn, far, room, rfl, _⟩ := h
    rfl
  obtain ⟨H0, a, dx, v, t, pr, ps, st, dn, far, room, rfl, hea, h0a, h0, hpre, hdn, hfar, hle, h64, q⟩ := h
  refine ⟨_, PSs.nox (pss_cons (ps_expr (pe_call G_check_tree (hr.mono (by omega)) (by rfl) T.g_check_tree T.kp_check_tree T.b_check_tree .nil pass0 (pa_cons (pv 1) (pa_cons (pv 2) pa_nil))))
      (pss_cons (ps_expr (pe_call G_check_room (hr.mono (by omega)) (by rfl) T.g_check_room T.kp_check_room T.b_check_room .nil pass0 (pa_cons (pv 3) pa_nil)))
      (pss_cons (ps_if (pt_cmpR op_lt (pv 3) (pe_call G_end_of (hr.mono (by omega)) (by rfl) T.g_end_of T.kp_end_of T.b_end_of .nil pass0 (pa_cons (pv 1) (pa_cons (pv 2) pa_nil))) (nomark _)) (pss_one ps_never) pss_nil)
      (pss_cons (ps_fld (pv 0) (pe_lc (own := [("function", 4)]) rfl sc_Hall_init.nd (pi_range1 (by rfl) T.z_range (pa_cons (pe_callB (r := Evl.rLenS K) call_len_seq (by rfl) T.z_len PySem.boot_len (pa_cons (pv 1) pa_nil)) pa_nil)) (blkOk_by (own := [("function", 4)]) (N := ["self", "program", "tree", "room", "function"]) (sc := defScope s_Hall_init) (by decide +kernel)) (fun _ _ _ _ _ => (pg_name (i := 4) sc_Hall_init.nd rfl (by first | exact Or.inl rfl | exact Or.inr rfl))) (fun _ _ _ _ _ => pts_nil) (fun _ _ _ _ _ => (pe_call G_way_of (hr.mono (by omega)) (by rfl) T.g_way_of T.kp_way_of T.b_way_of .nil pass0 (pa_cons (pv 2) (pa_cons (pv 4) pa_nil))))) rfl)
      (pss_cons (ps_fld (pv 0) (pe_call G_layouts (hr.mono (by omega)) (by rfl) T.g_layouts T.kp_layouts T.b_layouts .nil pass0 (pa_cons (pv 1) (pa_cons (pv 2) pa_nil))) rfl)
      (pss_cons (ps_fld (pv 0) (pe_op op_rep (pe_lst (pa_cons pe_non pa_nil)) (pv 3)) rfl)
      (pss_one (ps_fld (pv 0) pe_int rfl)))))))), ?_⟩
  refine ⟨_, rfl, _, rfl, v, t, pr, ps, st, rfl, hpre, fun H1 s1 => ?_⟩
  have hok := hpre.2.1
  have htr := hpre.2.2.2
  have l8 := hok.l8
  have hc := htr.p.count
  have hfar1 : 1 ≤ far := by
    obtain ⟨i, p, hp, e⟩ := hfar.1
    have h1 := psz_nn hok (p := p) fun x hx => htr.p.lt (List.mem_of_getElem? hp) hx
    have h2 := List.length_pos_iff.mpr (htr.p.ne p (List.mem_of_getElem? hp))
    have h3 := bgn_nn hok htr.p (dn := dn) (i := i)
    omega
  refine ⟨_, rfl, (room : Int), rfl, by omega, by omega, ?_⟩
  refine ⟨_, rfl, _, rfl, _, rfl, v, t, pr, ps, st, dn, rfl, hpre.keep (Keep.same s1), hdn, fun H2 m s2 hm => ?_⟩
  obtain rfl : m = far := hm.uniq hfar
  refine ⟨_, _, rfl, rfl, _, rfl, ?_⟩
  rw [decide_eq_false (show ¬ (room : Int) < m by omega)]
  refine iteF ?_
  have s02 := s1.trans s2
  obtain ⟨⟨pa, vp, rfl, hpa, hpf⟩, _, htr2, _⟩ := hpre.keep (Keep.same s02)
  have hpl := Paired.length hpf
  refine ⟨_, rfl, pa, _, rfl, .inr (SqT.of hpa), _, rfl, by omega, by omega, fun D hD => ?_⟩
  refine lc_rangeY (lo := 0) (n := ((vp.length : Nat) : Int).toNat) (fun i H' => ∃ bs : List Addr, Same H2 H' ∧ H' D = some (.lst (bs.map V.ref)) ∧ Paired (fun b w => H' b = some (.lst (nV w)) ∧ H b = none ∧ b ≠ D) bs ((List.range i).map (wayF ps dn))) ⟨[], Same.new hD, upd_same, .nil⟩ ?_ ?_
  · rintro i H3 hi ⟨bs, s3, eD, hbs⟩
    rw [Int.toNat_natCast, hpl] at hi
    obtain ⟨k, p, j, e1, e2⟩ := htr.p.stands hi
    have hpm := List.mem_of_getElem? e2
    have hkl := (List.getElem?_eq_some_iff.mp e1).1
    have hbl := Paired.length hbs
    rw [List.length_map, List.length_range] at hbl
    refine ⟨rfl, _, rfl, _, rfl, t, pr.length, ps, st, dn, i, k, p, ?_, htr2.keep (Keep.same s3), htr, l8, hdn, e1, hpm, fun H4 r s4 hr4 e4 => ?_⟩
    · show [t, V.int (0 + (i : Int))] = _
      rw [Int.zero_add]
    have eD4 := s4 _ _ eD
    have nDr : D ≠ r := ne_of_none eD hr4
    refine ⟨_, eD4, sm _ (by rw [List.length_map]; omega), bs ++ [r], Ov.Same.updn (s3.trans s4) hD, by rw [upd_same, List.map_append]; rfl, ?_⟩
    rw [List.range_succ, List.map_append]
    refine PySem.Paired.snoc (L2.Paired.mapP hbs fun b w ⟨z1, z2, z3⟩ => ⟨by rw [upd_ne z3]; exact s4 _ _ z1, z2, z3⟩) ⟨?_, Same.free (s02.trans s3) hr4, nDr.symm⟩
    rw [upd_ne nDr.symm, e4]
    unfold wayF
    rw [prt_eq htr.p e1 hpm]
  rintro H3 ⟨bs, s3, eD, hbs⟩
  rw [Int.toNat_natCast, hpl] at hbs
  have s03 := s02.trans s3
  have ea3 := s03 _ _ hea
  have nDa : D ≠ a := (ne_of_none (s02 _ _ hea) hD).symm
  have hD0 := Same.free s02 hD
  refine ⟨_, rfl, a, _, dx, _, rfl, ea3, T.c_Hall, T.a_Hall_ways, by show 0 < 1000; decide, ?_⟩
  have ea4 : upd H3 a (.ins (He.ga K "Hall") dx (putF "ways" (.ref D) [])) a = some (.ins (He.ga K "Hall") dx (putF "ways" (.ref D) [])) := upd_same
  have b4 : ∀ b o, b ≠ a → H3 b = some o → upd H3 a (.ins (He.ga K "Hall") dx (putF "ways" (.ref D) [])) b = some o := fun b o n e => by rw [upd_ne n]; exact e
  generalize upd H3 a (.ins (He.ga K "Hall") dx (putF "ways" (.ref D) [])) = H4 at ea4 b4 ⊢
  have k04 : Keep H H4 := fun c xs e => b4 _ _ (ne_of e hea (by intro z; cases z)) (s03 _ _ e)
  refine ⟨_, rfl, _, rfl, .ref pa, t, pr, ps, st, dn, rfl, hpre.keep k04, hdn, fun H5 p ls cs s5 hp e5 hcs hls => ?_⟩
  have ea5 := s5 _ _ ea4
  have npa : p ≠ a := (ne_of_none ea4 hp).symm
  refine ⟨_, rfl, a, _, dx, _, rfl, ea5, T.c_Hall, T.a_Hall_layouts, by show 1 < 1000; decide, ?_⟩
  have ea6 : upd H5 a (.ins (He.ga K "Hall") dx (putF "layouts" (.ref p) (putF "ways" (.ref D) []))) a = some (.ins (He.ga K "Hall") dx (putF "layouts" (.ref p) (putF "ways" (.ref D) []))) := upd_same
  have b6 : ∀ b o, b ≠ a → H5 b = some o → upd H5 a (.ins (He.ga K "Hall") dx (putF "layouts" (.ref p) (putF "ways" (.ref D) []))) b = some o := fun b o n e => by rw [upd_ne n]; exact e
  generalize upd H5 a (.ins (He.ga K "Hall") dx (putF "layouts" (.ref p) (putF "ways" (.ref D) []))) = H6 at ea6 b6 ⊢
  refine ⟨sml 1, fun l2 hl2 => ⟨_, rfl, l2, ((room : Nat) : Int), _, rfl, rfl, upd_same, by omega, by omega, sml _ (by rw [List.length_singleton, Int.toNat_natCast]; omega), fun F hF => ?_⟩⟩
  rw [rep_v]
  have s68 : Same H6 (upd (upd H6 l2 (.lst [.non])) F (.lst (List.replicate room V.non))) := (Same.new hl2).trans (Same.new hF)
  have hF6 := Same.free (Same.new (o := .lst [.non]) hl2) hF
  have e8 : upd (upd H6 l2 (.lst [.non])) F (.lst (List.replicate room V.non)) F = some (.lst (List.replicate room V.non)) := upd_same
  generalize upd (upd H6 l2 (.lst [.non])) F (.lst (List.replicate room V.non)) = H8 at s68 e8 ⊢
  have nFa : F ≠ a := (ne_of_none ea6 hF6).symm
  refine ⟨_, rfl, a, _, dx, _, rfl, s68 _ _ ea6, T.c_Hall, T.a_Hall_lying, by show 2 < 1000; decide, ?_⟩
  refine ⟨_, rfl, a, _, dx, _, rfl, upd_same, T.c_Hall, T.a_Hall_moved, by show 3 < 1000; decide, ?_⟩
  have last : ∀ {b : Addr} {o : HO} {u1 u2 : HO}, b ≠ a → H8 b = some o → upd (upd H8 a u1) a u2 b = some o := fun n e => by
    rw [upd_ne n, upd_ne n]
    exact e
  have l5 : ∀ {b : Addr} {o : HO}, b ≠ a → H5 b = some o → H8 b = some o := fun n e => s68 _ _ (b6 _ _ n e)
  have l3 : ∀ {b : Addr} {o : HO}, b ≠ a → H3 b = some o → H8 b = some o := fun n e => l5 n (s5 _ _ (b4 _ _ n e))
  have nF3 : ∀ {b : Addr} {o : HO}, b ≠ a → H3 b = some o → b ≠ F := fun n e => ne_of_none (b6 _ _ n (s5 _ _ (b4 _ _ n e))) hF6
  have nF5 : ∀ {b : Addr} {o : HO}, b ≠ a → H5 b = some o → b ≠ F := fun n e => ne_of_none (b6 _ _ n e) hF6
  have fr4 : ∀ {b : Addr}, H4 b = none → H b = none := fun {b} hb => by
    cases e : H b with
    | none => rfl
    | some o =>
      exfalso
      by_cases n : b = a
      · subst n
        rw [ea4] at hb
        cases hb
      · rw [b4 _ _ n (s03 _ _ e)] at hb
        cases hb
  have fr6 : H F = none := by
    cases e : H F with
    | none => rfl
    | some o =>
      exfalso
      have z := b6 _ _ nFa (s5 _ _ (b4 _ _ nFa (s03 _ _ e)))
      rw [hF6] at z
      cases z
  have k8 : ∀ {u1 u2 : HO}, Keep H5 (upd (upd H8 a u1) a u2) := fun c xs e => by
    have n : c ≠ a := ne_of e ea5 (by intro z; cases z)
    exact last n (l5 n e)
  have hbl := Paired.length hbs
  have hneb : ∀ b ∈ bs, H b = none → b ≠ a := fun b _ hb z => by
    rw [z, hea] at hb
    cases hb
  refine q _ ⟨a, dx, D, p, F⟩ cs (fun b o n e => last n (l3 n (s03 _ _ e))) rfl rfl hcs ⟨⟨?_, ⟨bs, last nDa (l3 nDa eD), ?_⟩, ⟨ls, last npa (l5 npa e5), ?_⟩, ⟨List.replicate room V.non, last nFa e8, ?_⟩, h0a, ⟨h0 _ hD0, nF3 nDa eD⟩, ⟨h0 _ (fr4 hp), nF5 npa e5⟩, h0 _ fr6⟩, hall_ok hok htr hdn hcs hfar, ?_⟩
  · rw [upd_same]
    rfl
  · refine PairedMem.map hbs fun b w hb ⟨z1, z2, z3⟩ => ?_
    have nb := hneb b hb z2
    exact ⟨last nb (l3 nb z1), h0 _ z2, nF3 nb z1⟩
  · refine PairedMem.map hls fun b l hb ⟨⟨us, z1, z2⟩, z3⟩ => ?_
    have z4 := fr4 z3
    have nb : b ≠ a := fun z => by
      rw [z, hea] at z4
      cases z4
    exact ⟨⟨us, last nb (l5 nb z1), L2.Paired.mapP z2 fun _ _ y => y.keep k8⟩, h0 _ z4, nF5 nb z1⟩
  · exact cells_none room
  · rw [List.length_replicate]
    omega
end
end K16

namespace K16
open PySem PySem.Spec PyProof.Rows L2 Ov
section
variable {P : Program} {w : World} {K : PySem.W.Frag} {mg : Str → Option Value} {base : Heap}
theorem ok_check_roomX (T : Txt w K mg) : FnOk P w K mg base (L2.CX P w) 2 (He.ga K "check_room") (fdOf K d_check_room) ["room"] (spCheckRoomX K) := by
  have G_between := ok_between (P := P) (base := base) T
  refine T.F_check_room.ok sc_check_room (fun vs H Q E h => ?_) (fun cdv A outer s H vs Q E hr h => ?_)
  · obtain ⟨z, rfl, _⟩ := h
    rfl
  obtain ⟨z, rfl, hz, hs, q⟩ := h
  refine ⟨_, pss_one (ps_if (pt_not (pt_val (pe_call G_between (hr.mono (by omega)) (by rfl) T.g_between T.kp_between T.b_between .nil pass0 (pa_cons (pv 0) (pa_cons pe_int (pa_cons (pe_glob (v := .int 64) (by rfl) T.i_MOST_ROOM.choose_spec ⟨_, rfl⟩) pa_nil))))))
    (pss_one (ps_raise rfl (takes_of rfl rfl rfl rfl) (pmk_ownA PySem.F.excBase_ValueError T.x_BadRoom.1 T.g_BadRoom T.x_BadRoom.2.1 (raises_own T.x_BadRoom.2.2.1 T.x_BadRoom.2.2.2) (by rfl)
      (pa_cons (pe_joined (.cons pe_str (.cons (pe_fmt (pe_glob (v := .int 64) (by rfl) T.i_MOST_ROOM.choose_spec ⟨_, rfl⟩)) (.cons pe_str (.cons (pe_fmt (pv 0)) .nil))))) pa_nil)))) pss_nil), ?_⟩
  refine ⟨_, rfl, z, 1, 64, rfl, _, rfl, ?_⟩
  rw [decide_eq_false (show ¬ ((1 : Int) ≤ z ∧ z ≤ 64) from fun h => by
    rcases hz with e | e
    · omega
    · omega)]
  refine iteT ?_
  refine ⟨_, rfl, by decide, ?_⟩
  have l3 : (PySem.Str.ofString (toString (64 : Int))).length ≤ 10 := by decide +kernel
  have lz := hs.len
  have la : ∀ a b : PySem.Str, (a ++ b).length = a.length + b.length := fun a b => PySem.Str.length_append a b
  refine Or.inr ⟨_, rfl, by decide +kernel, _, rfl, ?_, ?_⟩
  · rw [PySem.sizeLine_eq, la]
    exact Nat.le_trans (Nat.add_le_add_left l3 _) (by decide +kernel)
  refine ⟨_, rfl, ?_, ?_⟩
  · rw [PySem.sizeLine_eq, la, la]
    exact Nat.le_trans (Nat.add_le_add_right (Nat.add_le_add_left l3 _) _) (by decide +kernel)
  refine ⟨_, rfl, Or.inr ⟨z, rfl, hs.log, _, rfl, ?_, ?_⟩⟩
  · rw [PySem.sizeLine_eq, la, la, la]
    exact Nat.le_trans (Nat.add_le_add (Nat.add_le_add_right (Nat.add_le_add_left l3 _) _) lz) (by decide +kernel)
  exact ⟨sml 1, q H (Same.refl H)⟩
theorem ok_check_functionX (T : Txt w K mg) : FnOk P w K mg base (L2.CX P w) 2 (He.ga K "check_function") (fdOf K d_check_function) ["function", "functions"] (spCheckFunctionX K) := by
  have G_between := ok_between (P := P) (base := base) T
  refine T.F_check_function.ok sc_check_function (fun vs H Q E h => ?_) (fun cdv A outer s H vs Q E hr h => ?_)
  · obtain ⟨f, n, rfl, _⟩ := h
    rfl
  obtain ⟨f, n, rfl, hz, hs, q⟩ := h
  refine ⟨_, pss_one (ps_if (pt_not (pt_val (pe_call G_between (hr.mono (by omega)) (by rfl) T.g_between T.kp_between T.b_between .nil pass0 (pa_cons (pv 0) (pa_cons pe_int (pa_cons (pe_op op_sub (pv 1) pe_int) pa_nil))))))
    (pss_one (ps_raise rfl (takes_of rfl rfl rfl rfl) (pmk_ownA PySem.F.excBase_ValueError T.x_BadFunction.1 T.g_BadFunction T.x_BadFunction.2.1 (raises_own T.x_BadFunction.2.2.1 T.x_BadFunction.2.2.2) (by rfl)
      (pa_cons (pe_joined (.cons pe_str (.cons (pe_fmt (pv 0)) .nil))) pa_nil)))) pss_nil), ?_⟩
  refine ⟨_, rfl, _, rfl, _, 1, rfl, rfl, f, 0, _, rfl, _, rfl, ?_⟩
  rw [decide_eq_false (show ¬ ((0 : Int) ≤ f ∧ f ≤ (n : Int) - 1) from fun h => by
    rcases hz with e | e
    · omega
    · omega)]
  refine iteT ?_
  have lz := hs.len
  have la : ∀ a b : PySem.Str, (a ++ b).length = a.length + b.length := fun a b => PySem.Str.length_append a b
  refine ⟨_, rfl, by decide +kernel, _, rfl, Or.inr ⟨f, rfl, hs.log, _, rfl, ?_, ?_⟩⟩
  · rw [PySem.sizeLine_eq, la]
    exact Nat.le_trans (Nat.add_le_add_left lz _) (by decide +kernel)
  exact ⟨sml 1, q H (Same.refl H)⟩
end
end K16

namespace K16
open PySem PySem.Spec PyProof.Rows L2 Ov
section
variable {P : Program} {w : World} {K : PySem.W.Frag} {mg : Str → Option Value} {base : Heap}
theorem ok_Hall_lookX (T : Txt w K mg) : FnOk P w K mg base (L2.CX P w) 3 (He.ma K (He.ga K "Hall") "look") (fdOf K d_Hall_look) ["self", "function"] (spHallX K) := by
  have G_check_function := ok_check_functionX (P := P) (base := base) T
  refine T.F_Hall_look.ok sc_Hall_look (fun vs H Q E h => ?_) (fun cdv A outer s H vs Q E hr h => ?_)
  · obtain ⟨H0, x, wys, L, lc, mv, far, f, rfl, _⟩ := h
    rfl
  obtain ⟨H0, x, wys, L, lc, mv, far, f, rfl, ⟨hat, _, _⟩, hf, hs, q⟩ := h
  refine ⟨_, pss_cons (ps_expr (pe_callS G_check_function (hr.mono (by omega)) (by rfl) T.g_check_function T.kp_check_function T.b_check_function (fun σ => passAt (takes_of rfl rfl rfl rfl) σ) (pa_cons (pv 1) (pa_cons (pe_callB (r := Evl.rLenS K) call_len_seq (by rfl) T.z_len PySem.boot_len (pa_cons (Ov.pe_fldK (K := K) rfl (pv 0) rfl) pa_nil)) pa_nil)))) (pss_cons ps_never (pss_cons ps_never (pss_one ps_never))), ?_⟩
  obtain ⟨ws, hwy, hws⟩ := hat.wy
  have hwl := Paired.length hws
  refine ⟨_, rfl, _, rfl, x.a, _, _, _, _, rfl, hat.ob, T.c_Hall, T.a_Hall_ways, rfl, x.wy, _, rfl, .inl (SqL.of hwy), f, ws.length, ?_, by rw [hwl]; exact hf, hs, q⟩
  rw [List.length_map]
theorem ok_Hall_thereX (T : Txt w K mg) : FnOk P w K mg base (L2.CX P w) 3 (He.ma K (He.ga K "Hall") "there") (fdOf K d_Hall_there) ["self", "function"] (spHallX K) := by
  have G_check_function := ok_check_functionX (P := P) (base := base) T
  refine T.F_Hall_there.ok sc_Hall_there (fun vs H Q E h => ?_) (fun cdv A outer s H vs Q E hr h => ?_)
  · obtain ⟨H0, x, wys, L, lc, mv, far, f, rfl, _⟩ := h
    rfl
  obtain ⟨H0, x, wys, L, lc, mv, far, f, rfl, ⟨hat, _, _⟩, hf, hs, q⟩ := h
  refine ⟨_, pss_cons (ps_expr (pe_callS G_check_function (hr.mono (by omega)) (by rfl) T.g_check_function T.kp_check_function T.b_check_function (fun σ => passAt (takes_of rfl rfl rfl rfl) σ) (pa_cons (pv 1) (pa_cons (pe_callB (r := Evl.rLenS K) call_len_seq (by rfl) T.z_len PySem.boot_len (pa_cons (Ov.pe_fldK (K := K) rfl (pv 0) rfl) pa_nil)) pa_nil)))) (pss_one ps_never), ?_⟩
  obtain ⟨ws, hwy, hws⟩ := hat.wy
  have hwl := Paired.length hws
  refine ⟨_, rfl, _, rfl, x.a, _, _, _, _, rfl, hat.ob, T.c_Hall, T.a_Hall_ways, rfl, x.wy, _, rfl, .inl (SqL.of hwy), f, ws.length, ?_, by rw [hwl]; exact hf, hs, q⟩
  rw [List.length_map]
end
end K16

namespace K16
open PySem PySem.Spec PyProof.Rows L2 Ov
section
variable {P : Program} {w : World} {K : PySem.W.Frag} {mg : Str → Option Value} {base : Heap}
theorem ok_check_roomB (T : Txt w K mg) : FnOk P w K mg base (L2.CX P w) 2 (He.ga K "check_room") (fdOf K d_check_room) ["room"] (spCheckRoomB K) := by
  have G_between := ok_between (P := P) (base := base) T
  refine T.F_check_room.ok sc_check_room (fun vs H Q E h => ?_) (fun cdv A outer s H vs Q E hr h => ?_)
  · obtain ⟨z, rfl, _⟩ := h
    rfl
  obtain ⟨z, rfl, hs, q1, q⟩ := h
  refine ⟨_, pss_one (ps_if (pt_not (pt_val (pe_call G_between (hr.mono (by omega)) (by rfl) T.g_between T.kp_between T.b_between .nil pass0 (pa_cons (pv 0) (pa_cons pe_int (pa_cons (pe_glob (v := .int 64) (by rfl) T.i_MOST_ROOM.choose_spec ⟨_, rfl⟩) pa_nil))))))
    (pss_one (ps_raise rfl (takes_of rfl rfl rfl rfl) (pmk_ownA PySem.F.excBase_ValueError T.x_BadRoom.1 T.g_BadRoom T.x_BadRoom.2.1 (raises_own T.x_BadRoom.2.2.1 T.x_BadRoom.2.2.2) (by rfl)
      (pa_cons (pe_joined (.cons pe_str (.cons (pe_fmt (pe_glob (v := .int 64) (by rfl) T.i_MOST_ROOM.choose_spec ⟨_, rfl⟩)) (.cons pe_str (.cons (pe_fmt (pv 0)) .nil))))) pa_nil)))) pss_nil), ?_⟩
  refine ⟨_, rfl, z, 1, 64, rfl, _, rfl, ?_⟩
  by_cases hz : (1 : Int) ≤ z ∧ z ≤ 64
  · rw [decide_eq_true hz]
    exact iteF (q1 hz.1 hz.2)
  rw [decide_eq_false hz]
  refine iteT ?_
  refine ⟨_, rfl, by decide, ?_⟩
  have l3 : (PySem.Str.ofString (toString (64 : Int))).length ≤ 10 := by decide +kernel
  have lz := hs.len
  have la : ∀ a b : PySem.Str, (a ++ b).length = a.length + b.length := fun a b => PySem.Str.length_append a b
  refine Or.inr ⟨_, rfl, by decide +kernel, _, rfl, ?_, ?_⟩
  · rw [PySem.sizeLine_eq, la]
    exact Nat.le_trans (Nat.add_le_add_left l3 _) (by decide +kernel)
  refine ⟨_, rfl, ?_, ?_⟩
  · rw [PySem.sizeLine_eq, la, la]
    exact Nat.le_trans (Nat.add_le_add_right (Nat.add_le_add_left l3 _) _) (by decide +kernel)
  refine ⟨_, rfl, Or.inr ⟨z, rfl, hs.log, _, rfl, ?_, ?_⟩⟩
  · rw [PySem.sizeLine_eq, la, la, la]
    exact Nat.le_trans (Nat.add_le_add (Nat.add_le_add_right (Nat.add_le_add_left l3 _) _) lz) (by decide +kernel)
  exact ⟨sml 1, q (by omega) H (Same.refl H)⟩
theorem ok_Hall_initX (T : Txt w K mg) : FnOk P w K mg base (L2.CX P w) 13 (He.ma K (He.ga K "Hall") "__init__") (fdOf K d_Hall_init) ["self", "program", "tree", "room"] (spHallInitX K) := by
  have G_check_tree := ok_check_tree (P := P) (base := base) T
  have G_check_room := ok_check_roomB (P := P) (base := base) T
  have G_end_of := ok_end_of (P := P) (base := base) T
  refine T.F_Hall_init.ok sc_Hall_init (fun vs H Q E h => ?_) (fun cdv A outer s H vs Q E hr h => ?_)
  · obtain ⟨a, v, t, pr, ps, st, dn, far, z, rfl, _⟩ := h
    rfl
  obtain ⟨a, v, t, pr, ps, st, dn, far, z, rfl, hpre, hdn, hfar, hz, hs, q⟩ := h
  refine ⟨_, pss_cons (ps_expr (pe_call G_check_tree (hr.mono (by omega)) (by rfl) T.g_check_tree T.kp_check_tree T.b_check_tree .nil pass0 (pa_cons (pv 1) (pa_cons (pv 2) pa_nil))))
      (pss_cons (ps_expr (pe_callS G_check_room (hr.mono (by omega)) (by rfl) T.g_check_room T.kp_check_room T.b_check_room (fun σ => passAt (takes_of rfl rfl rfl rfl) σ) (pa_cons (pv 3) pa_nil)))
      (pss_cons (ps_if (pt_cmpR op_lt (pv 3) (pe_call G_end_of (hr.mono (by omega)) (by rfl) T.g_end_of T.kp_end_of T.b_end_of .nil pass0 (pa_cons (pv 1) (pa_cons (pv 2) pa_nil))) (nomark _))
        (pss_one (ps_raise rfl (takes_of rfl rfl rfl rfl) (pmk_ownA PySem.F.excBase_ValueError T.x_BadRoom.1 T.g_BadRoom T.x_BadRoom.2.1 (raises_own T.x_BadRoom.2.2.1 T.x_BadRoom.2.2.2) (by rfl) (pa_cons (pe_joined (.cons (pe_fmt (pv 3)) (.cons pe_str .nil))) pa_nil)))) pss_nil)
      (pss_cons ps_never (pss_cons ps_never (pss_cons ps_never (pss_one ps_never)))))), ?_⟩
  refine ⟨_, rfl, _, rfl, v, t, pr, ps, st, rfl, hpre, fun H1 s1 => ?_⟩
  refine ⟨_, rfl, z, rfl, hs, fun h1 h64 => ?_, fun _ H' s' => q H' (s1.trans s')⟩
  refine ⟨_, rfl, _, rfl, _, rfl, v, t, pr, ps, st, dn, rfl, hpre.keep (Keep.same s1), hdn, fun H2 m s2 hm => ?_⟩
  obtain rfl : m = far := hm.uniq hfar
  refine ⟨_, _, rfl, rfl, _, rfl, ?_⟩
  rw [decide_eq_true (show z < m by omega)]
  refine iteT ?_
  have lz := hs.len
  have la : ∀ a b : PySem.Str, (a ++ b).length = a.length + b.length := fun a b => PySem.Str.length_append a b
  refine ⟨_, rfl, Or.inr ⟨z, rfl, hs.log, _, rfl, ?_, _, rfl, ?_, ?_⟩⟩
  · rw [PySem.sizeLine_eq, la]
    exact Nat.le_trans (Nat.add_le_add_left lz _) (by decide +kernel)
  · rw [PySem.sizeLine_eq, la, la]
    exact Nat.le_trans (Nat.add_le_add_right (Nat.add_le_add_left lz _) _) (by decide +kernel)
  exact ⟨sml 1, q _ (s1.trans s2)⟩
end
end K16

namespace K16
open PySem PySem.Spec PyProof.Rows L2 Ov
section
variable {P : Program} {w : World} {K : PySem.W.Frag} {mg : Str → Option Value} {base : Heap}
theorem sc_check_trace : FnScope ["program", "trace", "function"] ["program", "trace"] (defScope s_check_trace) := ⟨rfl, rfl, rfl, by decide +kernel, rfl, by decide +kernel, by decide +kernel⟩
-- 0 program, 1 trace, 2 function
theorem ok_check_trace (T : Txt w K mg) : FnOk P w K mg base (L2.CX P w) 2 (He.ga K "check_trace") (fdOf K d_check_trace) ["program", "trace"] (spCheckTrace K) := by
  have G_between := ok_between (P := P) (base := base) T
  refine T.F_check_trace.ok sc_check_trace (fun vs H Q E h => ?_) (fun cdv A outer s H vs Q E hr h => ?_)
  · obtain ⟨pa, b, vp, ns, rfl, _⟩ := h
    rfl
  obtain ⟨pa, b, vp, ns, rfl, hpa, hvl, hb, hnl, q1, q2⟩ := h
  refine ⟨_, pss_one (ps_if (PW.pt (pw_or (pt_cmpR op_eq (pe_callB (r := Evl.rLenS K) call_len_seq (by rfl) T.z_len PySem.boot_len (pa_cons (pv 1) pa_nil)) pe_int (nomark _)) (pw_or1 (pt_not (pt_val (pe_callB (r := rAll K) (cr_all rfl) (by rfl) T.z_all (by decide +kernel) (pa_cons (pe_lc (own := [("function", 2)]) rfl sc_check_trace.nd (Ov.pi_listK (K := K) rfl (pv 1)) (blkOk_by (own := [("function", 2)]) (N := ["program", "trace", "function"]) (sc := defScope s_check_trace) (by decide +kernel)) (fun _ _ _ _ _ => (pg_name (i := 2) sc_check_trace.nd rfl (by first | exact Or.inl rfl | exact Or.inr rfl))) (fun _ _ _ _ _ => pts_nil) (fun _ _ _ _ _ => (pe_call G_between (hr.mono (by omega)) (by rfl) T.g_between T.kp_between T.b_between .nil pass0 (pa_cons (pv 2) (pa_cons pe_int (pa_cons (pe_op op_sub (pe_callB (r := Evl.rLenS K) call_len_seq (by rfl) T.z_len PySem.boot_len (pa_cons (pv 0) pa_nil)) pe_int) pa_nil)))))) pa_nil)))))))
    (pss_one (ps_raise rfl (takes_of rfl rfl rfl rfl) (pmk_own PySem.F.excBase_ValueError T.x_BadTrace.1 T.g_BadTrace T.x_BadTrace.2.1 (raises_own T.x_BadTrace.2.2.1 T.x_BadTrace.2.2.2) (by rfl)))) pss_nil), ?_⟩
  refine ⟨_, rfl, b, _, rfl, .inl (SqL.of hb), rfl, _, rfl, ?_⟩
  rw [show decide (V.int ((ns.map V.int).length : Nat) = V.int 0) = ns.isEmpty by
    cases ns with
    | nil => rfl
    | cons z r =>
      rw [decide_eq_false]
      · rfl
      · intro e
        have := V.int.inj e
        rw [List.map_cons, List.length_cons] at this
        omega]
  cases hn : ns.isEmpty with
  | true =>
    refine iteT ?_
    refine iteT ?_
    refine q2 ?_ H (Same.refl H)
    unfold goodT
    rw [hn]
    rfl
  | false =>
    refine iteF ?_
    refine ⟨_, rfl, b, rfl, ⟨_, SqL.of hb⟩, fun D hD => ?_⟩
    refine lc_listY (K := K) (a := b) (xs := ns.map V.int) (fun i H' => Same H H' ∧ H' D = some (.lst (((ns.take i).map fun z => decide ((0 : Int) ≤ z ∧ z ≤ (vp.length : Int) - 1)).map V.bl))) ⟨Same.new hD, upd_same⟩ (fun i H' _ e => SqL.of (e.1 _ _ hb)) ?_ ?_
    · rintro i y H1 hi ⟨s1, e1⟩
      obtain ⟨z, hz, rfl⟩ := ints_int hi
      have hil := (List.getElem?_eq_some_iff.mp hz).1
      refine ⟨rfl, _, rfl, _, rfl, pa, _, rfl, .inr (SqT.of (s1 _ _ hpa)), _, _, rfl, rfl, z, 0, (vp.length : Int) - 1, rfl, _, e1, sm20 _ (by rw [List.length_map, List.length_map, List.length_take]; omega), Ov.Same.updn s1 hD, ?_⟩
      rw [upd_same, List.take_add_one, hz, List.map_append, List.map_append]
      rfl
    rintro H1 ⟨s1, e1⟩
    rw [List.length_map, List.take_length] at e1
    refine ⟨D, _, rfl, SqL.of e1, ?_⟩
    have eg : (ns.map fun z => decide ((0 : Int) ≤ z ∧ z ≤ (vp.length : Int) - 1)).all id = goodT vp.length ns := by
      unfold goodT
      rw [hn, List.all_map]
      rfl
    rw [eg]
    refine ⟨_, rfl, ?_⟩
    cases hg : goodT vp.length ns with
    | true => exact iteF (q1 hg _ s1)
    | false => exact iteT (q2 hg _ s1)
theorem ok_check_traceG (T : Txt w K mg) : FnOk P w K mg base CX0 2 (He.ga K "check_trace") (fdOf K d_check_trace) ["program", "trace"] spCheckTraceG := by
  have G_between := ok_between (P := P) (base := base) T
  refine T.F_check_trace.ok sc_check_trace (fun vs H Q E h => ?_) (fun cdv A outer s H vs Q E hr h => ?_)
  · obtain ⟨pa, b, vp, ns, rfl, _⟩ := h
    rfl
  obtain ⟨pa, b, vp, ns, rfl, hpa, hvl, hb, hnl, hg, q1⟩ := h
  refine ⟨_, PSs.nox (pss_one (ps_if (PW.pt (pw_or (pt_cmpR op_eq (pe_callB (r := Evl.rLenS K) call_len_seq (by rfl) T.z_len PySem.boot_len (pa_cons (pv 1) pa_nil)) pe_int (nomark _)) (pw_or1 (pt_not (pt_val (pe_callB (r := rAll K) (cr_all rfl) (by rfl) T.z_all (by decide +kernel) (pa_cons (pe_lc (own := [("function", 2)]) rfl sc_check_trace.nd (Ov.pi_listK (K := K) rfl (pv 1)) (blkOk_by (own := [("function", 2)]) (N := ["program", "trace", "function"]) (sc := defScope s_check_trace) (by decide +kernel)) (fun _ _ _ _ _ => (pg_name (i := 2) sc_check_trace.nd rfl (by first | exact Or.inl rfl | exact Or.inr rfl))) (fun _ _ _ _ _ => pts_nil) (fun _ _ _ _ _ => (pe_call G_between (hr.mono (by omega)) (by rfl) T.g_between T.kp_between T.b_between .nil pass0 (pa_cons (pv 2) (pa_cons pe_int (pa_cons (pe_op op_sub (pe_callB (r := Evl.rLenS K) call_len_seq (by rfl) T.z_len PySem.boot_len (pa_cons (pv 0) pa_nil)) pe_int) pa_nil)))))) pa_nil))))))) (pss_one ps_never) pss_nil)), ?_⟩
  refine ⟨_, rfl, b, _, rfl, .inl (SqL.of hb), rfl, _, rfl, ?_⟩
  rw [show decide (V.int ((ns.map V.int).length : Nat) = V.int 0) = ns.isEmpty by
    cases ns with
    | nil => rfl
    | cons z r =>
      rw [decide_eq_false]
      · rfl
      · intro e
        have := V.int.inj e
        rw [List.map_cons, List.length_cons] at this
        omega]
  cases hn : ns.isEmpty with
  | true =>
    unfold goodT at hg
    rw [hn] at hg
    cases hg
  | false =>
    refine iteF ?_
    refine ⟨_, rfl, b, rfl, ⟨_, SqL.of hb⟩, fun D hD => ?_⟩
    refine lc_listY (K := K) (a := b) (xs := ns.map V.int) (fun i H' => Same H H' ∧ H' D = some (.lst (((ns.take i).map fun z => decide ((0 : Int) ≤ z ∧ z ≤ (vp.length : Int) - 1)).map V.bl))) ⟨Same.new hD, upd_same⟩ (fun i H' _ e => SqL.of (e.1 _ _ hb)) ?_ ?_
    · rintro i y H1 hi ⟨s1, e1⟩
      obtain ⟨z, hz, rfl⟩ := ints_int hi
      have hil := (List.getElem?_eq_some_iff.mp hz).1
      refine ⟨rfl, _, rfl, _, rfl, pa, _, rfl, .inr (SqT.of (s1 _ _ hpa)), _, _, rfl, rfl, z, 0, (vp.length : Int) - 1, rfl, _, e1, sm20 _ (by rw [List.length_map, List.length_map, List.length_take]; omega), Ov.Same.updn s1 hD, ?_⟩
      rw [upd_same, List.take_add_one, hz, List.map_append, List.map_append]
      rfl
    rintro H1 ⟨s1, e1⟩
    rw [List.length_map, List.take_length] at e1
    refine ⟨D, _, rfl, SqL.of e1, ?_⟩
    have eg : (ns.map fun z => decide ((0 : Int) ≤ z ∧ z ≤ (vp.length : Int) - 1)).all id = goodT vp.length ns := by
      unfold goodT
      rw [hn, List.all_map]
      rfl
    rw [eg]
    refine ⟨_, rfl, ?_⟩
    rw [hg]
    exact iteF (q1 _ s1)
theorem sc_brought_by : FnScope ["program", "tree", "trace", "hall", "function"] ["program", "tree", "trace"] (defScope s_brought_by) := ⟨rfl, rfl, rfl, by decide +kernel, rfl, by decide +kernel, by decide +kernel⟩
-- 0 program, 1 tree, 2 trace, 3 hall, 4 function
theorem ok_brought_by (T : Txt w K mg) : FnOk P w K mg base CX0 15 (He.ga K "brought_by") (fdOf K d_brought_by) ["program", "tree", "trace"] spBroughtBy := by
  have G_Hall_init := ok_Hall_init (P := P) (base := base) T
  have G_Hall_look := ok_Hall_look (P := P) (base := base) T
  have G_Hall_brought := ok_Hall_brought (P := P) (base := base) T
  refine T.F_brought_by.ok sc_brought_by (fun vs H Q E h => ?_) (fun cdv A outer s H vs Q E hr h => ?_)
  · obtain ⟨v, t, pr, ps, st, dn, b, ns, rfl, _⟩ := h
    rfl
  obtain ⟨v, t, pr, ps, st, dn, b, ns, rfl, hpre, hdn, hb, hns, hQ⟩ := h
  refine ⟨_, PSs.nox (pss_cons (ps_set (i := 3) sc_brought_by.nd rfl (by first | exact Or.inl rfl | exact Or.inr rfl) (pe_make T.k_Hall G_Hall_init (hr.mono (by omega)) (by rfl) T.g_Hall T.b_Hall_init .nil pass0 (pa_cons (pv 0) (pa_cons (pv 1) (pa_cons (pe_glob (v := .int 64) (by rfl) T.i_MOST_ROOM.choose_spec ⟨_, rfl⟩) pa_nil)))))
      (pss_cons (ps_for PassesOwn.never rfl (Ov.pi_listK (K := K) rfl (pv 2)) (pg_name (i := 4) sc_brought_by.nd rfl (by first | exact Or.inl rfl | exact Or.inr rfl)) (pss_one (ps_expr (pe_meth (pv 3) T.c_Hall T.m_Hall_look G_Hall_look (hr.mono (by omega)) T.b_Hall_look .nil pass0 (pa_cons (pv 4) pa_nil)))))
      (pss_one (ps_ret (pe_meth0 (pv 3) T.c_Hall T.m_Hall_brought G_Hall_brought (hr.mono (by omega)) T.b_Hall_brought .nil pass0))))), ?_⟩
  obtain ⟨far, hfar⟩ : ∃ m, Far pr ps dn m := far_ex hpre.2.1 hpre.2.2.2
  obtain ⟨hm1, hm64⟩ := far_le hpre.2.1 hpre.2.2.2 hdn hfar
  refine ⟨_, rfl, _, rfl, fun x0 dx0 hx0 hdx0 ndx => ?_⟩
  have sH : Same H (upd (upd H dx0 (.own x0)) x0 (.ins (He.ga K "Hall") dx0 [])) := (Same.new hdx0).trans (Same.new (by rw [upd_ne ndx.symm]; exact hx0))
  refine ⟨H, x0, dx0, v, t, pr, ps, st, dn, far, 64, rfl, upd_same, hx0, fun b hb => Same.free sH hb, hpre.keep (Keep.same sH), hdn, hfar, hm64, by omega, fun H1 x cs f1 ex edx hcs hin1 => ⟨rfl, ?_⟩⟩
  have s1 : Same H H1 := fun b o e => f1 b o (ne_of_none e hx0) (sH _ _ e)
  clear sH f1
  subst ex
  have hb1 := s1 _ _ hb
  have nba : b ≠ x.a := ne_of_none hb hx0
  have nbl : b ≠ x.ly := ne_of_none hb hin1.at_.fy
  have wayAt : ∀ {f : Nat}, f < pr.length → (waysF pr.length ps dn)[f]? = some (wayF ps dn f) := fun {f} hf => by
    unfold waysF
    rw [List.getElem?_map, List.getElem?_range hf]
    rfl
  have ok := hin1.ok
  refine ⟨_, rfl, b, rfl, ⟨_, SqL.of hb1⟩, ?_⟩
  refine for_list (K := K) (a := b) (xs := nV ns) (fun i σ' H' => ∃ y4 : Option V, σ' = [some v, some t, some (.ref b), some (.ref x.a), y4] ∧ ButHl x H1 H' ∧ HallIn K H H' x (waysF pr.length ps dn) (laysF pr cs ps) (tsum (waysF pr.length ps dn) (laysF pr cs ps) (List.replicate 64 none, 0) (ns.take i)).1 ((tsum (waysF pr.length ps dn) (laysF pr cs ps) (List.replicate 64 none, 0) (ns.take i)).2 : Nat) far.toNat) ⟨none, rfl, ButHl.refl, by rw [List.take_zero]; exact hin1⟩ (fun i σ' H' _ ⟨_, _, z, _⟩ => SqL.of (z _ _ nba nbl hb1)) ?_ ?_
  · rintro i y σ' H2 hi ⟨y4, rfl, b2, hin2⟩
    obtain ⟨f, hf, rfl⟩ := nV_int hi
    have hfl := hns f (List.mem_of_getElem? hf)
    refine ⟨_, rfl, x.a, _, _, rfl, hin2.at_.ob, rfl, _, rfl, H, x, _, _, _, _, far.toNat, f, _, rfl, hin2, wayAt hfl, fun H3 r b3 hr3 nr er hin3 => ⟨_, rfl, b2.trans b3, ?_⟩⟩
    rw [List.take_add_one, hf]
    show HallIn K H H3 x _ _ (tsum _ _ _ (ns.take i ++ [f])).1 ((tsum _ _ _ (ns.take i ++ [f])).2 : Nat) far.toNat
    rw [tsum_snoc]
    unfold tstep
    rw [wayAt hfl, Int.natCast_add]
    exact hin3
  rintro σ' H2 ⟨y4, rfl, b2, hin2⟩
  rw [nV_len, List.take_length] at hin2
  refine ⟨_, rfl, x.a, _, _, rfl, hin2.at_.ob, rfl, H, x, _, _, _, _, far.toNat, rfl, hin2, ?_⟩
  have s2 : Same H H2 := fun c o e => b2 c o (ne_of_none e hx0) (ne_of_none e hin1.at_.fy) (s1 _ _ e)
  exact hQ H2 cs far s2 hcs hfar ok
theorem sc_cheapest : FnScope ["program", "room", "trace", "held", "plainest", "tree"] ["program", "room", "trace"] (defScope s_cheapest) := ⟨rfl, rfl, rfl, by decide +kernel, rfl, by decide +kernel, by decide +kernel⟩
-- 0 program, 1 room, 2 trace, 3 held, 4 plainest, 5 tree
theorem ok_cheapestX (T : Txt w K mg) : FnOk P w K mg base (L2.CX P w) 16 (He.ga K "cheapest") (fdOf K d_cheapest) ["program", "room", "trace"] (spCheapestX K) := by
  have G_check_program := ok_check_program (P := P) (base := base) T
  have G_check_trace := ok_check_trace (P := P) (base := base) T
  have G_check_room := ok_check_roomB (P := P) (base := base) T
  refine T.F_cheapest.ok sc_cheapest (fun vs H Q E h => ?_) (fun cdv A outer s H vs Q E hr h => ?_)
  · obtain ⟨v, pr, z, b, ns, rfl, _⟩ := h
    rfl
  obtain ⟨v, pr, z, b, ns, rfl, hpr, hok, hb, hnl, hs, hor, h1, h2, h3⟩ := h
  refine ⟨_, pss_cons (ps_expr (pe_call G_check_program (hr.mono (by omega)) (by rfl) T.g_check_program T.kp_check_program T.b_check_program .nil pass0 (pa_cons (pv 0) pa_nil)))
      (pss_cons (ps_if (pt_cmpR op_gt (pe_callB (r := Evl.rLenS K) call_len_seq (by rfl) T.z_len PySem.boot_len (pa_cons (pv 0) pa_nil)) (pe_glob (v := .int 5) (by rfl) T.i_MOST_TRIED.choose_spec ⟨_, rfl⟩) (nomark _))
        (pss_one (ps_raise rfl (takes_of rfl rfl rfl rfl) (pmk_ownA PySem.F.excBase_ValueError T.x_TooMany.1 T.g_TooMany T.x_TooMany.2.1 (raises_own T.x_TooMany.2.2.1 T.x_TooMany.2.2.2) (by rfl)
          (pa_cons (pe_joined (.cons pe_str (.cons (pe_fmt (pe_glob (v := .int 5) (by rfl) T.i_MOST_TRIED.choose_spec ⟨_, rfl⟩)) (.cons pe_str (.cons (pe_fmt (pe_callB (r := Evl.rLenS K) call_len_seq (by rfl) T.z_len PySem.boot_len (pa_cons (pv 0) pa_nil))) .nil))))) pa_nil)))) pss_nil)
      (pss_cons (ps_expr (pe_callS G_check_room (hr.mono (by omega)) (by rfl) T.g_check_room T.kp_check_room T.b_check_room (fun σ => passAt (takes_of rfl rfl rfl rfl) σ) (pa_cons (pv 1) pa_nil)))
      (pss_cons (ps_expr (pe_callS G_check_trace (hr.mono (by omega)) (by rfl) T.g_check_trace T.kp_check_trace T.b_check_trace (fun σ => passAt (takes_of rfl rfl rfl rfl) σ) (pa_cons (pv 0) (pa_cons (pv 2) pa_nil))))
      (pss_cons ps_never (pss_cons ps_never (pss_one ps_never)))))), ?_⟩
  have hpr0 := hpr
  obtain ⟨pa, vp, rfl, hpa, hpf⟩ := hpr
  have hpl := Paired.length hpf
  have l8 := hok.l8
  refine ⟨_, rfl, .ref pa, pr, rfl, hpr0, hok, fun H1 s1 => ?_⟩
  refine ⟨_, rfl, pa, _, rfl, .inr (SqT.of (s1 _ _ hpa)), _, _, rfl, rfl, _, rfl, ?_⟩
  by_cases h5 : 5 < pr.length
  · rw [decide_eq_true (show (5 : Int) < ((vp.length : Nat) : Int) by omega)]
    refine iteT ?_
    refine ⟨_, rfl, by decide, ?_⟩
    have l3 : (PySem.Str.ofString (toString (5 : Int))).length ≤ 10 := by decide +kernel
    have hs8 : Small9 ((vp.length : Nat) : Int) := by unfold Small9; omega
    have lz := hs8.len
    have la : ∀ a b : PySem.Str, (a ++ b).length = a.length + b.length := fun a b => PySem.Str.length_append a b
    refine Or.inr ⟨_, rfl, by decide +kernel, _, rfl, ?_, ?_⟩
    · rw [PySem.sizeLine_eq, la]
      exact Nat.le_trans (Nat.add_le_add_left l3 _) (by decide +kernel)
    refine ⟨_, rfl, ?_, ?_⟩
    · rw [PySem.sizeLine_eq, la, la]
      exact Nat.le_trans (Nat.add_le_add_right (Nat.add_le_add_left l3 _) _) (by decide +kernel)
    refine ⟨_, rfl, pa, _, rfl, .inr (SqT.of (s1 _ _ hpa)), Or.inr ⟨_, rfl, hs8.log, _, rfl, ?_, ?_⟩⟩
    · rw [PySem.sizeLine_eq, la, la, la]
      exact Nat.le_trans (Nat.add_le_add (Nat.add_le_add_right (Nat.add_le_add_left l3 _) _) lz) (by decide +kernel)
    exact ⟨sml 1, h1 h5 _ s1⟩
  · rw [decide_eq_false (show ¬ (5 : Int) < ((vp.length : Nat) : Int) by omega)]
    refine iteF ?_
    refine ⟨_, rfl, z, rfl, hs, fun z1 z2 => ?_, fun zb => (h2 (by omega) zb).same s1⟩
    refine ⟨_, rfl, _, rfl, pa, b, vp, ns, rfl, s1 _ _ hpa, by omega, s1 _ _ hb, hnl, fun zg => ?_, fun zg => ?_⟩
    · rw [hpl] at zg
      rcases hor with y | y | y
      · exact absurd y h5
      · omega
      · rw [zg] at y
        cases y
    · rw [hpl] at zg
      exact (h3 (by omega) z1 z2 zg).same s1
end
end K16

namespace K16
open PySem PySem.Spec PyProof.Rows L2 Ov
section
variable {P : Program} {w : World} {K : PySem.W.Frag} {mg : Str → Option Value} {base : Heap}
theorem sc_bare : FnScope ["program", "size", "_"] ["program"] (defScope s_bare) := ⟨rfl, rfl, rfl, by decide +kernel, rfl, by decide +kernel, by decide +kernel⟩
-- 0 program, 1 size, 2 _
theorem ok_bare (T : Txt w K mg) : FnOk P w K mg base CX0 1 (He.ga K "bare") (fdOf K d_bare) ["program"] spBare := by
  refine T.F_bare.ok sc_bare (fun vs H Q E h => ?_) (fun cdv A outer s H vs Q E hr h => ?_)
  · obtain ⟨v, pr, rfl, _⟩ := h
    rfl
  obtain ⟨v, pr, rfl, ⟨pa, vp, rfl, hpa, hpf⟩, hok, q⟩ := h
  have hpl : vp.length = pr.length := Paired.length hpf
  have l8 := hok.l8
  refine ⟨_, PSs.nox (pss_one (ps_ret (pe_callTy (r := Ov.rTupS K) call_tuple_of (by rfl) T.z_tuple (by decide +kernel) (pa_cons (pe_lc (own := [("size", 1), ("_", 2)]) rfl sc_bare.nd (Ov.pi_tupK (K := K) rfl (pv 0)) (blkOk_by (own := [("size", 1), ("_", 2)]) (N := ["program", "size", "_"]) (sc := defScope s_bare) (by decide +kernel)) (fun _ _ _ _ _ => (Ov.pg_tupK (K := K) (n := 2) rfl rfl (pgs_cons (pg_name (i := 1) sc_bare.nd rfl (by first | exact Or.inl rfl | exact Or.inr rfl)) (pgs_cons (pg_name (i := 2) sc_bare.nd rfl (by first | exact Or.inl rfl | exact Or.inr rfl)) pgs_nil)))) (fun _ _ _ _ _ => pts_nil) (fun _ _ _ _ _ => (pe_tup (pa_cons (pv 1) (pa_cons (pe_tup (pa_cons pe_str pa_nil)) pa_nil))))) pa_nil)))), ?_⟩
  refine ⟨_, rfl, pa, rfl, ⟨_, SqT.of hpa⟩, fun D hD => ?_⟩
  refine lc_itY (walk_tup (K := K) (a := pa) (xs := vp)) (fun i H' => ∃ ws, Same H H' ∧ H' D = some (.lst ws) ∧ Paired (FAt H') ws (bareP (pr.take i))) ⟨[], Same.new hD, upd_same, .nil⟩ (fun i H' _ z => SqT.of (z.choose_spec.1 _ _ hpa)) ?_ ?_
  · rintro i x H1 H2 hi ⟨ws, s1, e1, hws⟩ ⟨rfl, hx⟩
    obtain ⟨f, hf, b, bv, rfl, hb, _⟩ := Paired.get2 hpf hx
    have hbb := s1 _ _ hb
    have hwl := Paired.length hws
    rw [bareP_len, List.length_take] at hwl
    refine ⟨b, _, rfl, SqT.of hbb, rfl, _, _, rfl, _, _, rfl, rfl, rfl, ?_⟩
    refine ⟨_, rfl, sml 1, fun p1 hp1 => ⟨sml 2, fun p2 hp2 => ?_⟩⟩
    have s2 := Same.new (o := .tup [.str "argument"]) hp1
    have s3 := Same.new (o := .tup [.int f.1, .ref p1]) hp2
    have e23 := (s2.trans s3) _ _ e1
    have kD := Keep.updL (ys := ws ++ [.ref p2]) e23
    have k3 : Keep H2 (upd (upd (upd H2 p1 (.tup [.str "argument"])) p2 (.tup [.int f.1, .ref p1])) D (.lst (ws ++ [.ref p2]))) := (Keep.same (s2.trans s3)).trans kD
    refine ⟨_, e23, sm _ (by omega), ws ++ [.ref p2], Ov.Same.updn (s1.trans (s2.trans s3)) hD, upd_same, ?_⟩
    rw [List.take_add_one, hf]
    unfold bareP
    rw [List.map_append]
    refine PySem.Paired.snoc (L2.Paired.mapP hws fun _ _ z => z.keep k3) ⟨p2, .ref p1, rfl, kD _ _ upd_same, .mk (kD _ _ (s3 _ _ upd_same)) .nil⟩
  rintro H1 ⟨ws, s1, e1, hws⟩
  rw [hpl, List.take_length] at hws
  refine ⟨D, _, rfl, .inl ⟨SqL.of e1, fun l hl => ?_⟩⟩
  have s2 := Same.new (o := .tup ws) hl
  exact q _ _ (s1.trans s2) ⟨l, ws, rfl, upd_same, L2.Paired.mapP hws fun _ _ z => z.keep (Keep.same s2)⟩

theorem ok_cheapest (T : Txt w K mg) : FnOk P w K mg base CX0 16 (He.ga K "cheapest") (fdOf K d_cheapest) ["program", "room", "trace"] spCheapest := by
  have G_check_program := ok_check_program (P := P) (base := base) T
  have G_check_trace := ok_check_traceG (P := P) (base := base) T
  have G_check_room := ok_check_room (P := P) (base := base) T
  have G_trees_of := ok_trees_of (P := P) (base := base) T
  have G_end_of := ok_end_of (P := P) (base := base) T
  have G_bare := ok_bare (P := P) (base := base) T
  have G_brought_by := ok_brought_by (P := P) (base := base) T
  refine T.F_cheapest.ok sc_cheapest (fun vs H Q E h => ?_) (fun cdv A outer s H vs Q E hr h => ?_)
  · obtain ⟨v, pr, z, b, ns, rfl, _⟩ := h
    rfl
  obtain ⟨v, pr, z, b, ns, rfl, hpr, hok, h5, z1, z64, hb, hn0, hnl, hns, q⟩ := h
  refine ⟨_, PSs.nox (pss_cons (ps_expr (pe_call G_check_program (hr.mono (by omega)) (by rfl) T.g_check_program T.kp_check_program T.b_check_program .nil pass0 (pa_cons (pv 0) pa_nil)))
      (pss_cons (ps_if (pt_cmpR op_gt (pe_callB (r := Evl.rLenS K) call_len_seq (by rfl) T.z_len PySem.boot_len (pa_cons (pv 0) pa_nil)) (pe_glob (v := .int 5) (by rfl) T.i_MOST_TRIED.choose_spec ⟨_, rfl⟩) (nomark _)) (pss_one ps_never) pss_nil)
      (pss_cons (ps_expr (pe_call G_check_room (hr.mono (by omega)) (by rfl) T.g_check_room T.kp_check_room T.b_check_room .nil pass0 (pa_cons (pv 1) pa_nil)))
      (pss_cons (ps_expr (pe_call G_check_trace (hr.mono (by omega)) (by rfl) T.g_check_trace T.kp_check_trace T.b_check_trace .nil pass0 (pa_cons (pv 0) (pa_cons (pv 2) pa_nil))))
      (pss_cons (ps_setLc (i := 3) (own := [("tree", 5)]) rfl sc_cheapest.nd rfl rfl (sw_true rfl rfl rfl (by decide +kernel)) (Ov.pi_listK (K := K) rfl (pe_call G_trees_of (hr.mono (by omega)) (by rfl) T.g_trees_of T.kp_trees_of T.b_trees_of .nil pass0 (pa_cons (pe_callB (r := Evl.rLenS K) call_len_seq (by rfl) T.z_len PySem.boot_len (pa_cons (pv 0) pa_nil)) pa_nil))) (blkOk_by (own := [("tree", 5)]) (N := ["program", "room", "trace", "held", "plainest", "tree"]) (sc := defScope s_cheapest) (by decide +kernel)) (fun _ _ _ _ _ => (pg_name (i := 5) sc_cheapest.nd rfl (by first | exact Or.inl rfl | exact Or.inr rfl))) (fun _ _ _ _ _ => (pts_one (pt_cmpR op_le (pe_call G_end_of (hr.mono (by omega)) (by rfl) T.g_end_of T.kp_end_of T.b_end_of .nil pass0 (pa_cons (pv 0) (pa_cons (pv 5) pa_nil))) (pv 1) (nomark _)))) (fun _ _ _ _ _ => (pv 5)))
      (pss_cons (ps_set (i := 4) sc_cheapest.nd rfl (by first | exact Or.inl rfl | exact Or.inr rfl) (pe_call G_bare (hr.mono (by omega)) (by rfl) T.g_bare T.kp_bare T.b_bare .nil pass0 (pa_cons (pv 0) pa_nil)))
      (pss_one (ps_ret (pe_callBK (r := Ov.rMinCT K) (Ov.cr_minCT rfl hr.units) (by rfl) T.z_min (by decide +kernel) (pa_cons (pe_lc (own := [("tree", 5)]) rfl sc_cheapest.nd (Ov.pi_listK (K := K) rfl (pv 3)) (blkOk_by (own := [("tree", 5)]) (N := ["program", "room", "trace", "held", "plainest", "tree"]) (sc := defScope s_cheapest) (by decide +kernel)) (fun _ _ _ _ _ => (pg_name (i := 5) sc_cheapest.nd rfl (by first | exact Or.inl rfl | exact Or.inr rfl))) (fun _ _ _ _ _ => pts_nil) (fun _ _ _ _ _ => (pe_tup (pa_cons (pe_call G_brought_by (hr.mono (by omega)) (by rfl) T.g_brought_by T.kp_brought_by T.b_brought_by .nil pass0 (pa_cons (pv 4) (pa_cons (pv 5) (pa_cons (pv 2) pa_nil)))) (pa_cons (pv 5) pa_nil))))) pa_nil) (pk_cons pe_non pk_nil)))))))))), ?_⟩
  obtain ⟨pa, vp, rfl, hpa, hpf⟩ := id hpr
  have hpl : vp.length = pr.length := Paired.length hpf
  refine ⟨_, rfl, .ref pa, pr, rfl, hpr, hok, fun H1 s1 => ?_⟩
  refine ⟨_, rfl, pa, _, rfl, .inr (SqT.of (s1 _ _ hpa)), _, _, rfl, rfl, _, rfl, ?_⟩
  rw [decide_eq_false (show ¬ (5 : Int) < ((vp.length : Nat) : Int) by omega)]
  refine iteF ⟨_, rfl, z, rfl, z1, z64, ?_⟩
  refine ⟨_, rfl, _, rfl, pa, b, vp, ns.map fun (x : Nat) => (x : Int), rfl, s1 _ _ hpa, by omega, by rw [← nV_ints]; exact s1 _ _ hb, by rw [List.length_map]; exact hnl, by rw [hpl]; exact goodT_nat hn0 hns, fun H2 s2 => ?_⟩
  have s12 := s1.trans s2
  refine ⟨_, rfl, pa, _, rfl, .inr (SqT.of (s12 _ _ hpa)), pr.length, by rw [hpl]; rfl, h5, fun H3 r rs s3 hr er hrs => ?_⟩
  have hrl := Paired.length hrs
  have hsz := treesN_few h5
  have s13 := s12.trans s3
  refine ⟨r, rfl, ⟨_, SqL.of er⟩, fun D hD => ?_⟩
  have hD0 : H D = none := Same.free s13 hD
  refine lc_list (K := K) (a := r) (xs := rs) (fun i H' => ∃ ws, Same H3 H' ∧ H' D = some (.lst ws) ∧ Paired (TreV H') ws (((treesN pr.length).take i).filter fun t => decide (farC pr t ≤ z)) ∧ ws.length ≤ i) ⟨[], Same.new hD, upd_same, .nil, Nat.le_refl _⟩ (fun i H' _ ⟨_, e, _⟩ => SqL.of (e _ _ er)) ?_ ?_
  · rintro i x H4 hi ⟨ws, s4, e4, hws, hwl⟩
    obtain ⟨t, ht, hxt⟩ := Paired.get2 hrs hi
    have hil := (List.getElem?_eq_some_iff.mp hi).1
    have hto := treesN_ok (List.mem_of_getElem? ht)
    have s14 := s13.trans s4
    refine ⟨rfl, _, rfl, _, rfl, .ref pa, x, pr, t.1, t.2, dnC pr.length t, rfl, ⟨hpr.keep (Keep.same s14), hok, hxt.keep (Keep.same s4), hto⟩, dnC_ok hto, fun H5 m s5 hm => ?_⟩
    obtain rfl : m = farC pr t := hm.uniq (farC_ok hok hto)
    have e5 := s5 _ _ e4
    refine ⟨_, rfl, _, _, rfl, rfl, _, rfl, ?_⟩
    rw [List.take_add_one, ht, List.filter_append]
    by_cases c : farC pr t ≤ z
    · rw [show (some t).toList.filter (fun t => decide (farC pr t ≤ z)) = [t] by simp [c]]
      rw [decide_eq_true c]
      have kD := Keep.updL (ys := ws ++ [x]) e5
      refine iteT ⟨_, rfl, _, e5, smn _ (by omega), ws ++ [x], Ov.Same.updn (s4.trans s5) hD, upd_same, ?_, by rw [List.length_append]; show _ + 1 ≤ _; omega⟩
      exact PySem.Paired.snoc (L2.Paired.mapP hws fun _ _ y => (TrAt.keep (Keep.same s5) y).keep kD) ((TrAt.keep (Keep.same (s4.trans s5)) hxt).keep kD)
    · rw [show (some t).toList.filter (fun t => decide (farC pr t ≤ z)) = [] by simp [c], List.append_nil]
      rw [decide_eq_false c]
      exact iteF ⟨ws, s4.trans s5, e5, L2.Paired.mapP hws fun _ _ y => TrAt.keep (Keep.same s5) y, by omega⟩
  rintro H4 ⟨us, s4, e4, hus, hul⟩
  rw [hrl, List.take_length] at hus
  have hus : Paired (TreV H4) us (heldC pr z) := hus
  have s14 := s13.trans s4
  show gName 3 (V.ref D) [some (.ref pa), some (.int z), some (.ref b), none, none, none] _ _
  refine ⟨_, rfl, .ref pa, pr, rfl, hpr.keep (Keep.same s14), hok, fun H5 u s5 hbp => ?_⟩
  have s15 := s14.trans s5
  have e5 := s5 _ _ e4
  have hus5 : Paired (TreV H5) us (heldC pr z) := L2.Paired.mapP hus fun _ _ y => TrAt.keep (Keep.same s5) y
  have hb5 := s15 _ _ hb
  clear hus e4 s4 s5 hrs er
  show gName 4 u [some (.ref pa), some (.int z), some (.ref b), some (.ref D), none, none] _ _
  refine ⟨_, rfl, D, rfl, ⟨_, SqL.of e5⟩, fun G hG => ?_⟩
  have hul5 := Paired.length hus5
  refine lc_listY (K := K) (a := D) (xs := us) (fun i H' => ∃ ws, Same H5 H' ∧ H' G = some (.lst ws) ∧ Paired (fun v t => CtAt H' v (cstC pr t ns : Nat) t) ws ((heldC pr z).take i)) ⟨[], Same.new hG, upd_same, .nil⟩ (fun i H' _ ⟨_, e, _⟩ => SqL.of (e _ _ e5)) ?_ ?_
  · rintro i x H6 hi ⟨ws, s6, e6, hws⟩
    obtain ⟨t, ht, hxt⟩ := Paired.get2 hus5 hi
    have hil := (List.getElem?_eq_some_iff.mp hi).1
    have hwl := Paired.length hws
    rw [List.length_take] at hwl
    have hto := treesN_ok (List.mem_filter.mp (List.mem_of_getElem? ht)).1
    have hbl := bareP_len pr
    refine ⟨rfl, _, rfl, _, rfl, _, rfl, u, x, bareP pr, t.1, t.2, dnC pr.length t, b, ns, rfl, ⟨hbp.keep (Keep.same s6), bareP_ok hok, hxt.keep (Keep.same s6), by rw [hbl]; exact hto⟩, by rw [hbl]; exact dnC_ok hto, s6 _ _ hb5, fun y hy => by rw [hbl]; exact hns y hy, fun H7 cs far s7 hcs hfar hlk => ?_⟩
    have hcs := bareP_cells hcs
    obtain rfl : cs = csC pr t := csC_uniq hto hcs
    rw [hbl, bareP_lays]
    refine ⟨_, rfl, sml 2, fun p8 hp8 => ?_⟩
    have s8 := Same.new (o := .tup [.int (cstC pr t ns : Nat), x]) hp8
    have e8 := (s7.trans s8) _ _ e6
    have kG := Keep.updL (ys := ws ++ [.ref p8]) e8
    refine ⟨_, e8, smn _ (by omega), ws ++ [.ref p8], Ov.Same.updn (s6.trans (s7.trans s8)) hG, upd_same, ?_⟩
    rw [List.take_add_one, ht]
    refine PySem.Paired.snoc (L2.Paired.mapP hws fun _ _ y => (y.keep (Keep.same (s7.trans s8))).keep kG) (CtAt.keep kG ⟨p8, x, rfl, upd_same, TrAt.keep (Keep.same (s6.trans (s7.trans s8))) hxt⟩)
  rintro H6 ⟨ws, s6, e6, hws⟩
  rw [hul5, List.take_length] at hws
  have s16 := s15.trans s6
  refine ⟨G, ws, (heldC pr z).map (keyC pr ns), rfl, rfl, SqL.of e6, ?_, fun e => ?_, fun c r i x e hx hi => ?_⟩
  · rw [List.map_map]
    exact paired_dp (fun _ _ y => CtAt.dp y) hws
  · refine q _ _ s16 ?_
    unfold bestC
    rw [e]
    rfl
  · refine q _ _ s16 ?_
    unfold bestC
    rw [e]
    obtain ⟨t, ht, hxt⟩ := Paired.get2 hws hx
    rw [List.getElem?_map, ht] at hi
    exact ⟨_, t, (Option.some.inj hi).symm, hxt⟩
end
end K16

namespace K16
open PySem PySem.Spec PyProof.Rows L2 Ov LamX
theorem sc_law_kind : FnScope ["_law_work", "_law_e", "_law_kinds", "_law_words_here"] ["_law_work"] (defScope s_law_kind) := ⟨rfl, rfl, rfl, by decide +kernel, rfl, by decide +kernel, by decide +kernel⟩
theorem kind_gives_TooMany {X : Cx} {cdv : Value} {q : Str} (T : Txt X.w X.K X.mg) : GivesTo X ["_law_work", "_law_e", "_law_kinds", "_law_words_here"] "_law_kind" (defScope s_law_kind) (He.ga X.K "_law_kind") cdv (defBody s_law_kind) "_law_work" q (TKind X.K "TooMany") := by
  intro f c' s H Q tl act hc h
  obtain ⟨CE, ck⟩ := excKB_ok T.kx_TooMany
  refine ⟨_, pss_cons (ps_try_as (X := (cxOf C8.CX0 X.prog X.w X.K X.mg X.base ["_law_work", "_law_e", "_law_kinds", "_law_words_here"] "_law_kind" (defScope s_law_kind) (He.ga X.K "_law_kind") cdv X.A X.stack s H C8.E0).nox) (c := .ref (He.ga X.K "HallError"))
      (tb := fun W D σ H => ∃ Ech : XK, (∀ cls d (σ' : L2.St) H', σ'.length = 4 → Ech cls d H' → W cls d σ' H') ∧ σ[0]? = some (some (.ref f)) ∧ H c' = some (CodeO c' q) ∧ tl Ech H fun _ H' => D.nx σ H')
      (i := 1) rfl rfl sc_law_kind.nd rfl rfl ⟨rfl, by decide, .inl T.g_HallError⟩ L2.takes0 (fun W pn xe tk _ => ?_) (fun a oe cls d pn hz hf => (pss_cons (ps_set (i := 2) sc_law_kind.nd rfl (by first | exact Or.inl rfl | exact Or.inr rfl) (pe_lst (pa_cons (pe_callB (r := rIsC X.K (He.ga X.K "TooMany") a cls d) (call_isC CE hz hf) (by rfl) T.z_isinstance (by decide +kernel) (pa_cons (pv 1) (pa_cons (pe_glob (v := .ref (He.ga X.K "BadProgram")) (by rfl) T.g_BadProgram rfl) pa_nil))) (pa_cons (pe_callB (r := rIsC X.K (He.ga X.K "TooMany") a cls d) (call_isC CE hz hf) (by rfl) T.z_isinstance (by decide +kernel) (pa_cons (pv 1) (pa_cons (pe_glob (v := .ref (He.ga X.K "BadNumber")) (by rfl) T.g_BadNumber rfl) pa_nil))) (pa_cons (pe_callB (r := rIsC X.K (He.ga X.K "TooMany") a cls d) (call_isC CE hz hf) (by rfl) T.z_isinstance (by decide +kernel) (pa_cons (pv 1) (pa_cons (pe_glob (v := .ref (He.ga X.K "BadTree")) (by rfl) T.g_BadTree rfl) pa_nil))) (pa_cons (pe_callB (r := rIsC X.K (He.ga X.K "TooMany") a cls d) (call_isC CE hz hf) (by rfl) T.z_isinstance (by decide +kernel) (pa_cons (pv 1) (pa_cons (pe_glob (v := .ref (He.ga X.K "BadRoom")) (by rfl) T.g_BadRoom rfl) pa_nil))) pa_nil))))))
      (pss_cons (ps_set (i := 2) sc_law_kind.nd rfl (by first | exact Or.inl rfl | exact Or.inr rfl) (pe_op op_cat (pv 2) (pe_lst (pa_cons (pe_callB (r := rIsC X.K (He.ga X.K "TooMany") a cls d) (call_isC CE hz hf) (by rfl) T.z_isinstance (by decide +kernel) (pa_cons (pv 1) (pa_cons (pe_glob (v := .ref (He.ga X.K "BadFunction")) (by rfl) T.g_BadFunction rfl) pa_nil))) (pa_cons (pe_callB (r := rIsC X.K (He.ga X.K "TooMany") a cls d) (call_isC CE hz hf) (by rfl) T.z_isinstance (by decide +kernel) (pa_cons (pv 1) (pa_cons (pe_glob (v := .ref (He.ga X.K "BadPaper")) (by rfl) T.g_BadPaper rfl) pa_nil))) (pa_cons (pe_callB (r := rIsC X.K (He.ga X.K "TooMany") a cls d) (call_isC CE hz hf) (by rfl) T.z_isinstance (by decide +kernel) (pa_cons (pv 1) (pa_cons (pe_glob (v := .ref (He.ga X.K "NotShown")) (by rfl) T.g_NotShown rfl) pa_nil))) pa_nil))))))
      (pss_cons (ps_set (i := 2) sc_law_kind.nd rfl (by first | exact Or.inl rfl | exact Or.inr rfl) (pe_op op_cat (pv 2) (pe_lst (pa_cons (pe_callB (r := rIsC X.K (He.ga X.K "TooMany") a cls d) (call_isC CE hz hf) (by rfl) T.z_isinstance (by decide +kernel) (pa_cons (pv 1) (pa_cons (pe_glob (v := .ref (He.ga X.K "BadPlace")) (by rfl) T.g_BadPlace rfl) pa_nil))) (pa_cons (pe_callB (r := rIsC X.K (He.ga X.K "TooMany") a cls d) (call_isC CE hz hf) (by rfl) T.z_isinstance (by decide +kernel) (pa_cons (pv 1) (pa_cons (pe_glob (v := .ref (He.ga X.K "BadTrace")) (by rfl) T.g_BadTrace rfl) pa_nil))) (pa_cons (pe_callB (r := rIsC X.K (He.ga X.K "TooMany") a cls d) (call_isC CE hz hf) (by rfl) T.z_isinstance (by decide +kernel) (pa_cons (pv 1) (pa_cons (pe_glob (v := .ref (He.ga X.K "TooMany")) (by rfl) T.g_TooMany rfl) pa_nil))) pa_nil))))))
      (pss_cons (ps_expr (Ov.pe_bmK (K := X.K) rfl PySem.F.plainAttrs_list PySem.F.slot_list_append PySem.F.type_list_append mt_append (pv 2) (pa_cons (pe_callB (r := rIsC X.K (He.ga X.K "TooMany") a cls d) (call_isC CE hz hf) (by rfl) T.z_isinstance (by decide +kernel) (pa_cons (pv 1) (pa_cons (pe_glob (v := .ref (He.ga X.K "BadText")) (by rfl) T.g_BadText rfl) pa_nil))) pa_nil)))
      (pss_cons (ps_if (PW.pt (pw_or (pt_cmpR op_ne (Ov.pe_bmK (K := X.K) rfl PySem.F.plainAttrs_list PySem.F.slot_list_count PySem.F.type_list_count (r := rCntV X.K) Ov.mt_count (pv 2) (pa_cons pe_bl pa_nil)) pe_int (nomark _)) (pw_or1 (pt_not (pt_val (pe_callB (r := rIsC X.K (He.ga X.K "TooMany") a cls d) (call_isC CE hz hf) (by rfl) T.z_isinstance (by decide +kernel) (pa_cons (pv 1) (pa_cons (pe_bltn (v := .ty "ValueError") (by rfl) T.z_ValueError (by decide +kernel) rfl) pa_nil)))))))) (pss_one (ps_ret pe_str)) pss_nil)
      (pss_cons (ps_if (PW.pt (pw_or (pt_val (pe_ix (r := rIxL X.K) ix_list (pv 2) pe_int (fun _ _ => rfl))) (pw_or1 (pt_val (pe_ix (r := rIxL X.K) ix_list (pv 2) pe_int (fun _ _ => rfl)))))) (pss_one ps_never) pss_nil)
      (pss_cons (ps_set (i := 3) sc_law_kind.nd rfl (by first | exact Or.inl rfl | exact Or.inr rfl) (pe_lst (pa_cons pe_str (pa_cons pe_str (pa_cons pe_str (pa_cons pe_str (pa_cons pe_str (pa_cons pe_str (pa_cons pe_str (pa_cons pe_str (pa_cons pe_str pa_nil)))))))))))
      (pss_one (ps_ret (pe_ix (r := rIxL X.K) ix_list (pe_op op_cat (pv 3) (pe_lst (pa_cons pe_str pa_nil))) (Ov.pe_bmK (K := X.K) rfl PySem.F.plainAttrs_list PySem.F.slot_list_index PySem.F.type_list_index (r := rIndex X.K) mt_index (pv 2) (pa_cons pe_bl pa_nil)) (fun _ _ => rfl))))))))))))) (pss_one (ps_ret pe_str)), ?_⟩
  · refine ⟨fun pins s' σ H' D I h' => ?_⟩
    obtain ⟨Ech, hW, h1, h2, h3⟩ := h'
    exact (pss_one (ps_expr (act (fun cls d _ H' => Ech cls d H') pn xe Ech _ _ (takes_len tk fun c d σ' H' e z => hW c d σ' H' e z) (fun _ _ _ _ z => z)))).run pins s' σ H' D I ⟨h1, h2, h3⟩
  · refine ⟨_, fun cls d σ' H' hl ⟨e1, e2, q⟩ => ⟨true, by rw [e1]; exact T.e_TooMany_HallError, fun _ a ha => ?_, fun z => nomatch z⟩, rfl, hc, h⟩
    subst e1 e2
    obtain ⟨z0, z1, z2, z3, rfl⟩ : ∃ z0 z1 z2 z3, σ' = [z0, z1, z2, z3] := by
      match σ', hl with
      | [z0, z1, z2, z3], _ => exact ⟨z0, z1, z2, z3, rfl⟩
    have k := fun v b (hm : (Value.ref v, b) ∈ _) => ck (Value.ref v, b) hm
    have is : ∀ {n : Str} {b : Bool} {H : Hp} {Q : VK}, PySem.W.kitOne X.K (.ref (He.ga X.K "TooMany")) (.ref (He.ga X.K n)) = some b → Q (.bl b) H → rIsC X.K (He.ga X.K "TooMany") a (.ref (He.ga X.K "TooMany")) none [.ref a, .ref (He.ga X.K n)] H Q := fun {n b H Q} e q => ⟨rfl, rfl, _, _, b, rfl, fun u hu => hu, e, q⟩
    have ka := ck _ (.head _)
    have kb := ck _ (.tail _ (.head _))
    have kc := ck _ (.tail _ (.tail _ (.head _)))
    have kd := ck _ (.tail _ (.tail _ (.tail _ (.head _))))
    have ke := ck _ (.tail _ (.tail _ (.tail _ (.tail _ (.head _)))))
    have kf := ck _ (.tail _ (.tail _ (.tail _ (.tail _ (.tail _ (.head _))))))
    have kg := ck _ (.tail _ (.tail _ (.tail _ (.tail _ (.tail _ (.tail _ (.head _)))))))
    have kh := ck _ (.tail _ (.tail _ (.tail _ (.tail _ (.tail _ (.tail _ (.tail _ (.head _))))))))
    have ki := ck _ (.tail _ (.tail _ (.tail _ (.tail _ (.tail _ (.tail _ (.tail _ (.tail _ (.head _)))))))))
    have kj := ck _ (.tail _ (.tail _ (.tail _ (.tail _ (.tail _ (.tail _ (.tail _ (.tail _ (.tail _ (.head _))))))))))
    have kk := ck _ (.tail _ (.tail _ (.tail _ (.tail _ (.tail _ (.tail _ (.tail _ (.tail _ (.tail _ (.tail _ (.head _)))))))))))
    have kv := ck _ (.tail _ (.tail _ (.tail _ (.tail _ (.tail _ (.tail _ (.tail _ (.tail _ (.tail _ (.tail _ (.tail _ (.head _))))))))))))
    clear k
    refine ⟨_, rfl, is ka ⟨_, rfl, is kb ⟨_, rfl, is kc ⟨_, rfl, is kd ⟨sml 4, fun p1 g1 => ?_⟩⟩⟩⟩⟩
    have s1 := Same.new (o := .lst [.bl false, .bl false, .bl false, .bl false]) g1
    refine ⟨_, rfl, _, rfl, is ke ⟨_, rfl, is kf ⟨_, rfl, is kg ⟨sml 3, fun p2 g2 => ?_⟩⟩⟩⟩
    have s2 := Same.new (o := .lst [.bl false, .bl false, .bl false]) g2
    refine ⟨p1, p2, _, _, rfl, rfl, s2 _ _ upd_same, upd_same, sml 7, fun p3 g3 => ?_⟩
    have s3 := Same.new (o := .lst ([.bl false, .bl false, .bl false, .bl false] ++ [.bl false, .bl false, .bl false])) g3
    refine ⟨_, rfl, _, rfl, is kh ⟨_, rfl, is ki ⟨_, rfl, is kj ⟨sml 3, fun p4 g4 => ?_⟩⟩⟩⟩
    have s4 := Same.new (o := .lst [.bl false, .bl false, .bl true]) g4
    refine ⟨p3, p4, _, _, rfl, rfl, s4 _ _ upd_same, upd_same, sml 10, fun p5 g5 => ?_⟩
    have s5 := ((s1.trans s2).trans s3).trans (s4.trans (Same.new (o := .lst ([.bl false, .bl false, .bl false, .bl false] ++ [.bl false, .bl false, .bl false] ++ [.bl false, .bl false, .bl true])) g5))
    have n5 : H' p5 = none := Same.free (((s1.trans s2).trans s3).trans s4) g5
    refine ⟨_, rfl, .inl ⟨rfl, _, SqL.of upd_same⟩, _, rfl, is kk ⟨p5, _, _, rfl, rfl, upd_same, sml 11, ?_⟩⟩
    refine ⟨_, rfl, .inl ⟨rfl, _, SqL.of upd_same⟩, _, _, _, rfl, rfl, SqL.of upd_same, rfl, rfl, ?_⟩
    refine ⟨rfl, _, rfl, iteF ?_⟩
    refine ⟨_, rfl, ⟨rfl, rfl, _, _, true, rfl, fun u hu => hu, kv, _, rfl, ?_⟩⟩
    refine iteF ⟨_, rfl, p5, _, 0, .bl false, rfl, rfl, SqL.of upd_same, rfl, _, rfl, iteF ⟨_, rfl, p5, _, 10, .bl false, rfl, rfl, SqL.of upd_same, rfl, _, rfl, iteF ?_⟩⟩
    refine ⟨sml 9, fun p6 g6 => ?_⟩
    have s6 := Same.new (o := .lst [.str "", .str "BadNumber", .str "BadTree", .str "BadRoom", .str "BadFunction", .str "BadPaper", .str "NotShown", .str "BadPlace", .str "BadTrace"]) g6
    refine ⟨_, rfl, sml 1, fun p7 g7 => ?_⟩
    have s7 := Same.new (o := .lst [.str "TooMany"]) g7
    refine ⟨p6, p7, _, _, rfl, rfl, s7 _ _ upd_same, upd_same, sml 10, fun p8 g8 => ?_⟩
    have s8 := Same.new (o := .lst ([.str "", .str "BadNumber", .str "BadTree", .str "BadRoom", .str "BadFunction", .str "BadPaper", .str "NotShown", .str "BadPlace", .str "BadTrace"] ++ [.str "TooMany"])) g8
    have e8 := s8 _ _ (s7 _ _ (s6 p5 _ upd_same))
    refine ⟨_, rfl, .inl ⟨rfl, _, SqL.of e8⟩, p5, _, _, 9, .bl true, rfl, rfl, SqL.of e8, rfl, rfl, rfl, rfl, fun m z' hm hz => ?_, ?_⟩
    · rcases (by omega : m = 0 ∨ m = 1 ∨ m = 2 ∨ m = 3 ∨ m = 4 ∨ m = 5 ∨ m = 6 ∨ m = 7 ∨ m = 8) with rfl | rfl | rfl | rfl | rfl | rfl | rfl | rfl | rfl <;>
      · cases hz
        rfl
    refine ⟨p8, _, 9, _, rfl, rfl, SqL.of upd_same, rfl, q _ fun b o e => ?_⟩
    refine s8 _ _ (s7 _ _ (s6 _ _ ?_))
    rw [upd_ne (ne_of_none e n5)]
    exact s5 _ _ e
end K16

namespace K16
open PySem PySem.Spec PyProof.Rows L2 Ov LamX
theorem rep_fat {H : Hp} {v : V} {f : Int × W} (h : FAt H v f) : ∀ n : Nat, Paired (FAt H) (List.replicate n v) (List.replicate n f)
  | 0 => .nil
  | n + 1 => by
    rw [List.replicate_succ, List.replicate_succ]
    exact .cons h (rep_fat h n)
section
variable {P : Program} {w : World} {K : PySem.W.Frag} {mg : Str → Option Value} {base : Heap}
def lawTabs (K : PySem.W.Frag) : List (Addr × Str) := [((He.cT K ("law", none)).2, (envOfC "law" (defScope s_law) 0 0 .none).qual ++ "<lambda>")]
theorem sc_law : FnScope ["_law_script", "_law_h", "_law_turn", "_law_program_here", "_law_every", "_law_room", "_law_trace", "_law_handed", "_law_due_here", "_law_six", "_law_size", "_law_body_here", "_law_k"] ["_law_script"] (defScope s_law) := ⟨rfl, rfl, rfl, by decide +kernel, rfl, by decide +kernel, by decide +kernel⟩
-- 0 _law_script, 1 _law_h, 2 _law_turn, 3 _law_program_here, 4 _law_every, 5 _law_room, 6 _law_trace, 7 _law_handed, 8 _law_due_here, 9 _law_six, 10 _law_size, 11 _law_body_here, 12 _law_k
theorem ok_law (T : Txt w K mg) (TB : TabB base mg (He.cT K ("law", none)).1 (He.cT K ("law", none)).2) : FnOk P w K mg base CX0 125 (He.ga K "law") (fdOf K d_law) ["_law_script"] (spLawT K (lawTabs K)) := by
  have G_law_mix := ok_law_mix (P := P) (base := base) T
  have G_law_next := ok_law_next (P := P) (base := base) T
  have G_law_program := ok_law_programL (P := P) (base := base) T
  have G_law_due := ok_law_due (P := P) (base := base) T
  have G_law_alike := ok_law_alike (P := P) (base := base) T 5
  have G_cheapest := ok_cheapest (P := P) (base := base) T
  have G_cheapestX := ok_cheapestX (P := P) (base := base) T
  obtain ⟨oc, od, dV, kV, doc, pm, an, cdk, ct, osl, efd, lk, hcg, _, _⟩ := T.F_law_kind.ex
  have b_kind := T.b_law_kind
  rw [efd] at b_kind lk
  refine funD_okC T.F_law sc_law (fun vs H Q E h => ?_) (fun cdv A outer s H vs Q E hcdv hr h => ?_)
  · obtain ⟨a, ns, rfl, _⟩ := h
    rfl
  obtain rfl : cdv = .ref (He.cT K ("law", none)).1 := hcdv.symm.trans (code_of (p := ("law", none)) T.F_law)
  obtain ⟨a, ns, rfl, ha, hl, ht0, q⟩ := h
  refine ⟨_, PSs.nox (pss_cons (ps_set (i := 1) sc_law.nd rfl (by first | exact Or.inl rfl | exact Or.inr rfl) (pe_call G_law_mix (hr.mono (by omega)) (by rfl) T.g_law_mix T.kp_law_mix T.b_law_mix .nil pass0 (pa_cons (pv 0) (pa_cons pe_int pa_nil))))
      (pss_cons (ps_for PassesOwn.never rfl (pi_range1 (by rfl) T.z_range (pa_cons pe_int pa_nil)) (pg_name (i := 2) sc_law.nd rfl (by first | exact Or.inl rfl | exact Or.inr rfl)) (Evl.pss_cut (ps_set (i := 3) sc_law.nd rfl (by first | exact Or.inl rfl | exact Or.inr rfl) (pe_call G_law_program (hr.mono (by omega)) (by rfl) T.g_law_program T.kp_law_program T.b_law_program .nil pass0 (pa_cons (pv 1) (pa_cons (pe_op op_add pe_int (pe_callTy call_int1 (by rfl) T.z_int (by decide +kernel) (pa_cons (pe_and (pe_cmpR op_eq (pe_call G_law_next (hr.mono (by omega)) (by rfl) T.g_law_next T.kp_law_next T.b_law_next .nil pass0 (pa_cons (pv 1) (pa_cons pe_int pa_nil))) pe_int (nomark _)) (pe_one (pe_cmpR op_eq (pv 2) pe_int (nomark _)))) pa_nil))) pa_nil))))
      (pss_cons (ps_set (i := 4) sc_law.nd rfl (by first | exact Or.inl rfl | exact Or.inr rfl) (pe_callB (r := rSum K) (cr_sum rfl) (by rfl) T.z_sum (by decide +kernel) (pa_cons (pe_lc (own := [("_law_size", 10), ("_law_body_here", 11)]) rfl sc_law.nd (Ov.pi_tupK (K := K) rfl (pv 3)) (blkOk_by (own := [("_law_size", 10), ("_law_body_here", 11)]) (N := ["_law_script", "_law_h", "_law_turn", "_law_program_here", "_law_every", "_law_room", "_law_trace", "_law_handed", "_law_due_here", "_law_six", "_law_size", "_law_body_here", "_law_k"]) (sc := defScope s_law) (by decide +kernel)) (fun _ _ _ _ _ => (Ov.pg_tupK (K := K) (n := 2) rfl rfl (pgs_cons (pg_name (i := 10) sc_law.nd rfl (by first | exact Or.inl rfl | exact Or.inr rfl)) (pgs_cons (pg_name (i := 11) sc_law.nd rfl (by first | exact Or.inl rfl | exact Or.inr rfl)) pgs_nil)))) (fun _ _ _ _ _ => pts_nil) (fun _ _ _ _ _ => (pv 10))) pa_nil)))
      (pss_cons (ps_set (i := 5) sc_law.nd rfl (by first | exact Or.inl rfl | exact Or.inr rfl) (pe_callB (call_min2 rfl) (by rfl) T.z_min (by decide +kernel) (pa_cons pe_int (pa_cons (pe_op op_add pe_int (pe_call G_law_next (hr.mono (by omega)) (by rfl) T.g_law_next T.kp_law_next T.b_law_next .nil pass0 (pa_cons (pv 1) (pa_cons (pe_op op_add (pv 4) pe_int) pa_nil)))) pa_nil))))
      (pss_cons (ps_setLc (i := 6) (own := [("_law_k", 12)]) rfl sc_law.nd rfl rfl (sw_true rfl rfl rfl (by decide +kernel)) (pi_range1 (by rfl) T.z_range (pa_cons (pe_op op_add pe_int (pe_call G_law_next (hr.mono (by omega)) (by rfl) T.g_law_next T.kp_law_next T.b_law_next .nil pass0 (pa_cons (pv 1) (pa_cons (pe_ix (r := rIxL K) ix_list (pe_lst (pa_cons pe_int (pa_cons pe_int pa_nil))) (pe_op op_fdiv (pe_callB (r := Evl.rLenS K) call_len_seq (by rfl) T.z_len PySem.boot_len (pa_cons (pv 3) pa_nil)) pe_int) (fun _ _ => rfl)) pa_nil)))) pa_nil)) (blkOk_by (own := [("_law_k", 12)]) (N := ["_law_script", "_law_h", "_law_turn", "_law_program_here", "_law_every", "_law_room", "_law_trace", "_law_handed", "_law_due_here", "_law_six", "_law_size", "_law_body_here", "_law_k"]) (sc := defScope s_law) (by decide +kernel)) (fun _ _ _ _ _ => (pg_name (i := 12) sc_law.nd rfl (by first | exact Or.inl rfl | exact Or.inr rfl))) (fun _ _ _ _ _ => pts_nil) (fun _ _ _ _ _ => (pe_call G_law_next (hr.mono (by omega)) (by rfl) T.g_law_next T.kp_law_next T.b_law_next .nil pass0 (pa_cons (pv 1) (pa_cons (pe_callB (r := Evl.rLenS K) call_len_seq (by rfl) T.z_len PySem.boot_len (pa_cons (pv 3) pa_nil)) pa_nil)))))
      (pss_cons (ps_set (i := 7) sc_law.nd rfl (by first | exact Or.inl rfl | exact Or.inr rfl) (pe_callTy (r := Evl.rListS K) call_list_of (by rfl) T.z_list (by decide +kernel) (pa_cons (pv 6) pa_nil)))
      (pss_cons (ps_set (i := 8) sc_law.nd rfl (by first | exact Or.inl rfl | exact Or.inr rfl) (pe_call G_law_due (hr.mono (by omega)) (by rfl) T.g_law_due T.kp_law_due T.b_law_due .nil pass0 (pa_cons (pv 3) (pa_cons (pv 5) (pa_cons (pv 6) pa_nil)))))
      (pss_one (ps_if (PW.pt (pw_or (pt_not (pt_val (pe_call G_law_alike (hr.mono (by omega)) (by rfl) T.g_law_alike T.kp_law_alike T.b_law_alike .nil pass0 (pa_cons (pe_call G_cheapest (hr.mono (by omega)) (by rfl) T.g_cheapest T.kp_cheapest T.b_cheapest .nil pass0 (pa_cons (pv 3) (pa_cons (pv 5) (pa_cons (pv 7) pa_nil)))) (pa_cons (pv 8) pa_nil))))) (pw_or1 (pt_cmpR (r := rNeD K) (op_neD hr.units) (pv 7) (pv 6) (nomark _))))) (pss_one (ps_ret pe_bl)) pss_nil)))))))))
      (pss_cons (ps_set (i := 9) sc_law.nd rfl (by first | exact Or.inl rfl | exact Or.inr rfl) (pe_op (r := rRepT K) op_repT (pe_tup (pa_cons (pe_tup (pa_cons pe_int (pa_cons (pe_tup (pa_cons pe_str pa_nil)) pa_nil))) pa_nil)) (pe_op op_add pe_int (pe_call G_law_next (hr.mono (by omega)) (by rfl) T.g_law_next T.kp_law_next T.b_law_next .nil pass0 (pa_cons (pv 1) (pa_cons pe_int pa_nil))))))
      (pss_one (ps_ret (pe_cmpR op_eq (pe_lamcall (k := 111) (by rfl) T.g_law_kind T.kp_law_kind lk hcg b_kind sc_law_kind rfl (Or.inl rfl) (kind_gives_TooMany T) TB rfl (.head _) (fun p hp _ => by rcases List.mem_singleton.mp hp with rfl; rfl) (hr.mono (by omega)) (lamS_by (by kernel_rfl)) rfl (fun _ _ _ _ _ => rfl) (fun A outer s H E f c' hr2 => pe_callS G_cheapestX (hr2.mono (by omega)) (by rfl) T.g_cheapest T.kp_cheapest T.b_cheapest (fun σ => passAt (takes_of rfl rfl rfl rfl) σ) (pa_cons (pv 9) (pa_cons pe_int (pa_cons (pe_lst pa_nil) pa_nil))))) pe_str (nomark _))))))), ?_⟩
  refine ⟨_, rfl, a, ns, 59, rfl, ha, hl, by decide, by decide, fun h c H1 hh hc s1 d1 => ?_⟩
  refine ⟨2, rfl, by decide, by decide, ?_⟩
  refine for_range (lo := 0) (n := (2 : Int).toNat) (fun i σ' H' => ∃ (y2 y3 y4 y5 y6 y7 y8 y10 y11 y12 : Option V), σ' = [some (.ref a), some (.ref h), y2, y3, y4, y5, y6, y7, y8, none, y10, y11, y12] ∧ Dr H' h c ∧ Tabs (lawTabs K) H') ⟨none, none, none, none, none, none, none, none, none, none, rfl, d1, tabs_same ht0 s1⟩ ?_ ?_
  · rintro i0 σ' H1 hi ⟨y2, y3, y4, y5, y6, y7, y8, y10, y11, y12, rfl, d1, t1⟩
    refine ⟨fun σ' H' => ∃ (pa : Addr) (pr : List (Int × W)), σ' = [some (.ref a), some (.ref h), some (.int (0 + (i0 : Int))), some (.ref pa), y4, y5, y6, y7, y8, none, y10, y11, y12] ∧ Dr H' h c ∧ Tabs (lawTabs K) H' ∧ PrAt H' (.ref pa) pr ∧ PrOk pr ∧ pr.length ≤ 5, ?_, ?_⟩
    · refine ⟨_, rfl, _, rfl, h, c, 9, rfl, d1, by decide, by decide, fun r0 H2 r00 r01 b2 d2 => ⟨rfl, _, rfl, ?_⟩⟩
      have t2 := tabs_but t1 b2 d1
      have fin : ∀ (m : Int) (v : V) (H3 : Hp) (pr : List (Int × W)), m ≤ 5 → But h c H2 H3 → Dr H3 h c → PrAt H3 v pr → PrOk pr → (pr.length : Int) ≤ m → ∃ pa, v = .ref pa ∧ Dr H3 h c ∧ Tabs (lawTabs K) H3 ∧ PrAt H3 (.ref pa) pr ∧ PrOk pr ∧ pr.length ≤ 5 := fun m v H3 pr hm b3 d3 hpr hok hpm => by
        obtain ⟨pa, vp, rfl, h1, h2⟩ := hpr
        exact ⟨pa, rfl, d3, tabs_but t2 b3 d2, ⟨pa, vp, rfl, h1, h2⟩, hok, by omega⟩
      have go : ∀ k : Bool, ∀ (v : V) (H3 : Hp) (pr : List (Int × W)), But h c H2 H3 → Dr H3 h c → PrAt H3 v pr → PrOk pr → (pr.length : Int) ≤ 4 + (if k = true then 1 else 0) → ∃ pa, v = .ref pa ∧ Dr H3 h c ∧ Tabs (lawTabs K) H3 ∧ PrAt H3 (.ref pa) pr ∧ PrOk pr ∧ pr.length ≤ 5 := fun k v H3 pr b3 d3 hpr hok hpm => fin _ v H3 pr (by cases k <;> decide) b3 d3 hpr hok hpm
      by_cases c0 : r0 = 0
      · subst c0
        rw [decide_eq_true rfl]
        refine iteT ⟨_, rfl, rfl, .inr ⟨_, rfl, _, _, rfl, rfl, h, c, _, rfl, d2, by split <;> decide, by split <;> decide, fun v H3 pr b3 d3 hpr hok hpm => ?_⟩⟩
        obtain ⟨pa, rfl, z⟩ := go _ v H3 pr b3 d3 hpr hok hpm
        exact ⟨pa, pr, rfl, z⟩
      · rw [decide_eq_false fun e => c0 (V.int.inj e)]
        refine iteF (.inr ⟨_, rfl, _, _, rfl, rfl, h, c, _, rfl, d2, by decide, by decide, fun v H3 pr b3 d3 hpr hok hpm => ?_⟩)
        obtain ⟨pa, rfl, z⟩ := go false v H3 pr b3 d3 hpr hok hpm
        exact ⟨pa, pr, rfl, z⟩
    rintro σ2 H2 ⟨pa, pr, rfl, d2, t2, hpr2, hok, n5⟩
    have n1 := hok.l1
    obtain ⟨qa, vp, eq, hpa, hpf⟩ := id hpr2
    cases eq
    have hpl : vp.length = pr.length := Paired.length hpf
    refine ⟨_, rfl, pa, rfl, ⟨_, SqT.of hpa⟩, fun D hD => ?_⟩
    refine lc_itY (walk_tup (K := K) (a := pa) (xs := vp)) (fun i H' => Same H2 H' ∧ H' D = some (.lst (((pr.take i).map (·.1)).map V.int))) ⟨Same.new hD, upd_same⟩ (fun i H' _ z => SqT.of (z.1 _ _ hpa)) ?_ ?_
    · rintro i x H5 H5' hi ⟨s5, e5⟩ ⟨rfl, hx⟩
      obtain ⟨f, hfi, b, bv, rfl, hb, _⟩ := Paired.get2 hpf hx
      have hbb := s5 _ _ hb
      refine ⟨b, _, rfl, SqT.of hbb, rfl, _, _, rfl, _, _, rfl, rfl, rfl, _, rfl, _, e5, sm _ (by rw [List.length_map, List.length_map, List.length_take]; omega), Ov.Same.updn s5 hD, ?_⟩
      rw [upd_same, List.take_add_one, hfi, List.map_append, List.map_append]
      rfl
    rintro H3 ⟨s3, e3⟩
    rw [hpl, List.take_length] at e3
    refine ⟨D, _, rfl, SqL.of e3, ?_⟩
    have hpr3 := hpr2.keep (Keep.same s3)
    have d3 := d2.same s3
    have t3 := tabs_same t2 s3
    have hev := psz_nn hok (p := List.range pr.length) fun x hx => List.mem_range.mp hx
    rw [List.length_range] at hev
    rw [show (pr.map (·.1)).sum = psz pr (List.range pr.length) from (psz_whole pr).symm]
    clear e3 hD s3 hpr2 d2 t2 hpa hpf
    show gName 4 (V.int _) [some (.ref a), some (.ref h), some (.int (0 + (i0 : Int))), some (.ref pa), y4, y5, y6, y7, y8, none, y10, y11, y12] _ _
    refine ⟨_, rfl, _, rfl, _, _, rfl, rfl, h, c, _, rfl, d3, by omega, by omega, fun r3 H4 r30 r31 b4 d4 => ⟨_, _, rfl, rfl, _, _, rfl, ?_⟩⟩
    have hpr4 := hpr3.keep (Keep.but b4 d3)
    have t4 := tabs_but t3 b4 d3
    obtain ⟨rm, hrm, hr1, hr64⟩ : ∃ rm : Int, rm = (if 1 + r3 < 64 then 1 + r3 else 64) ∧ 1 ≤ rm ∧ rm ≤ 64 := ⟨_, rfl, by split <;> omega, by split <;> omega⟩
    rw [← hrm]
    clear b4 d3 t3 hpr3 hrm
    show gName 5 (V.int rm) [some (.ref a), some (.ref h), some (.int (0 + (i0 : Int))), some (.ref pa), some (.int _), y5, y6, y7, y8, none, y10, y11, y12] _ _
    obtain ⟨qa, vp, eq, hpa, hpf⟩ := id hpr4
    cases eq
    have hpl : vp.length = pr.length := Paired.length hpf
    -- the trace
    refine ⟨_, rfl, sml 2, fun l8 hl8 => ?_⟩
    have w8 := Same.new (o := .lst [.int 20, .int 8]) hl8
    refine ⟨_, rfl, pa, _, rfl, .inr (SqT.of (w8 _ _ hpa)), _, _, rfl, rfl, ⟨by decide, by decide⟩, ?_⟩
    obtain ⟨zl, hzl, hz1, hz20⟩ : ∃ zl : Int, atI [V.int 20, V.int 8] (((vp.length : Nat) : Int) / 5) = some (.int zl) ∧ 1 ≤ zl ∧ zl ≤ 20 := by
      rcases (by omega : vp.length = 1 ∨ vp.length = 2 ∨ vp.length = 3 ∨ vp.length = 4 ∨ vp.length = 5) with e | e | e | e | e <;> rw [e]
      · exact ⟨20, rfl, by decide, by decide⟩
      · exact ⟨20, rfl, by decide, by decide⟩
      · exact ⟨20, rfl, by decide, by decide⟩
      · exact ⟨20, rfl, by decide, by decide⟩
      · exact ⟨8, rfl, by decide, by decide⟩
    refine ⟨l8, _, _, _, rfl, rfl, SqL.of upd_same, hzl, ?_⟩
    have d5 := d4.same w8
    refine ⟨h, c, zl, rfl, d5, by omega, by omega, fun r6 H6 r60 r61 b6 d6 => ⟨_, _, rfl, rfl, _, rfl, by omega, by omega, fun D hD => ?_⟩⟩
    have k6 := (Keep.same w8).trans (Keep.but b6 d5)
    have hpr6 := hpr4.keep k6
    have t6 := tabs_but (tabs_same t4 w8) b6 d5
    have nD := Dr.new d6 hD
    clear k6 b6 w8 hpr4 t4 hpf hpa hl8 d5
    refine lc_rangeY (lo := 0) (n := (1 + r6).toNat) (fun i H' => ∃ ns : List Nat, But h c H6 H' ∧ Dr H' h c ∧ H' D = some (.lst (nV ns)) ∧ ns.length = i ∧ ∀ x ∈ ns, x < pr.length) ⟨[], But.new hD, d6.same (Same.new hD), upd_same, rfl, (fun _ z => nomatch z)⟩ ?_ ?_
    · rintro i H9 hi ⟨ns, b9, d9, e9, hnl, hns⟩
      obtain ⟨qa, vq, eq, hqa, hqf⟩ := hpr6.keep (Keep.but b9 d6)
      cases eq
      have hql := Paired.length hqf
      refine ⟨rfl, _, rfl, _, rfl, pa, _, rfl, .inr (SqT.of hqa), h, c, _, rfl, d9, by omega, by omega, fun r4 H10 r40 r41 b10 d10 => ?_⟩
      have e10 := b10 _ _ nD.1 nD.2 e9
      refine ⟨_, e10, sm _ (by rw [nV_len]; omega), ns ++ [r4.toNat], (b9.trans b10).updn hD, d10.upd nD.1 nD.2, ?_, by rw [List.length_append, hnl]; rfl, fun x hx => ?_⟩
      · rw [upd_same, nV_app, show ((r4.toNat : Nat) : Int) = r4 by omega]
      · rcases List.mem_append.mp hx with z | z
        · exact hns x z
        · rw [List.mem_singleton.mp z]
          omega
    rintro H7 ⟨ns, b7, d7, e7, hnl, hns⟩
    have hpr7 := hpr6.keep (Keep.but b7 d6)
    have t7 := tabs_but t6 b7 d6
    have hn0 : ns ≠ [] := fun e => by
      rw [e, List.length_nil] at hnl
      omega
    have hn24 : ns.length ≤ 24 := by omega
    clear b7 d6 t6 hpr6
    show gName 6 (V.ref D) [some (.ref a), some (.ref h), some (.int (0 + (i0 : Int))), some (.ref pa), some (.int _), some (.int rm), y6, y7, y8, none, y10, y11, y12] _ _
    refine ⟨_, rfl, D, _, rfl, .inl (SqL.of e7), fun G hG => ?_⟩
    have sG := Same.new (o := .lst (nV ns)) hG
    have eG : upd H7 G (.lst (nV ns)) G = some (.lst (nV ns)) := upd_same
    generalize upd H7 G (.lst (nV ns)) = H8 at sG eG ⊢
    have hpr8 := hpr7.keep (Keep.same sG)
    have e8 := sG _ _ e7
    refine ⟨_, rfl, _, rfl, _, rfl, .ref pa, pr, rm, D, ns, rfl, hpr8, hok, n5, e8, hn24, hns, fun H9 u s9 hu => ?_⟩
    have hpr9 := hpr8.keep (Keep.same s9)
    have eG9 := s9 _ _ eG
    show gName 8 u [some (.ref a), some (.ref h), some (.int (0 + (i0 : Int))), some (.ref pa), some (.int _), some (.int rm), some (.ref D), some (.ref G), y8, none, y10, y11, y12] _ _
    refine ⟨_, rfl, _, rfl, _, rfl, .ref pa, pr, rm, G, ns, rfl, hpr9, hok, n5, hr1, hr64, eG9, hn0, by omega, hns, fun H10 u2 s10 hu2 => ⟨_, rfl, _, _, rfl, best_al (by omega) hu2 (BestAt.keep (Keep.same s10) hu), fun H11 s11 => ⟨_, rfl, iteF ?_⟩⟩⟩
    have s811 := s9.trans (s10.trans s11)
    refine ⟨_, rfl, _, rfl, .list ((ns.map fun (x : Nat) => (x : Int)).map PyData.int), .list ((ns.map fun (x : Nat) => (x : Int)).map PyData.int), .lst (SqL.of (s811 _ _ eG)) (by rw [nV_ints]; exact dpInts _), .lst (SqL.of (s811 _ _ e8)) (by rw [nV_ints]; exact dpInts _), intsShaped _, intsShaped _, _, rfl, ?_⟩
    rw [eqvInts]
    refine iteF ?_
    exact ⟨_, _, _, _, _, _, _, _, _, _, rfl, d7.same (sG.trans s811), tabs_same t7 (sG.trans s811)⟩
  · rintro σ' H1 ⟨y2, y3, y4, y5, y6, y7, y8, y10, y11, y12, rfl, d1, t1⟩
    refine ⟨sml 1, fun p1 hp1 => ⟨sml 2, fun p2 hp2 => ⟨sml 1, fun p3 hp3 => ?_⟩⟩⟩
    have s1 := Same.new (o := .tup [.str "argument"]) hp1
    have s2 := Same.new (o := .tup [.int 1, .ref p1]) hp2
    have s3 := Same.new (o := .tup [.ref p2]) hp3
    have e1 := (s2.trans s3) _ _ (show upd H1 p1 (.tup [.str "argument"]) p1 = _ from upd_same)
    have e2 := s3 _ _ (show upd (upd H1 p1 (.tup [.str "argument"])) p2 (.tup [.int 1, .ref p1]) p2 = _ from upd_same)
    have e3 : upd (upd (upd H1 p1 (.tup [.str "argument"])) p2 (.tup [.int 1, .ref p1])) p3 (.tup [.ref p2]) p3 = _ := upd_same
    have dA := d1.same (s1.trans (s2.trans s3))
    have tA := tabs_same t1 (s1.trans (s2.trans s3))
    refine ⟨_, rfl, h, c, 3, rfl, dA, by decide, by decide, fun r H2 r0 r1 b2 d2 => ?_⟩
    have k2 := Keep.but b2 dA
    have hf2 : FAt H2 (.ref p2) (1, W.mk .arg 0 []) := ⟨p2, .ref p1, rfl, k2 _ _ e2, .mk (k2 _ _ e1) .nil⟩
    have e32 := k2 _ _ e3
    have t2 := tabs_but tA b2 dA
    clear e1 e2 e3 s1 s2 s3 k2 dA tA hp1 hp2 hp3 b2
    refine ⟨_, _, rfl, rfl, p3, 6 + r, _, rfl, rfl, SqT.of e32, (fun z => nomatch z), by omega, by omega, (show (1 : Nat) ≤ 1000 by decide), fun p hp => ?_⟩
    have s4 := Same.new (o := .tup (List.replicate (6 + r).toNat [V.ref p2]).flatten) hp
    have hpr : PrAt (upd H2 p (.tup (List.replicate (6 + r).toNat [V.ref p2]).flatten)) (.ref p) (List.replicate (6 + r).toNat (1, W.mk .arg 0 [])) := ⟨p, List.replicate (6 + r).toNat (V.ref p2), rfl, by rw [upd_same, List.flatten_replicate_singleton], rep_fat (hf2.keep (Keep.same s4)) _⟩
    have hok : PrOk (List.replicate (6 + r).toNat ((1, W.mk .arg 0 []) : Int × W)) := ⟨by rw [List.length_replicate]; omega, by rw [List.length_replicate]; omega, fun x hx => by
      rw [List.eq_of_mem_replicate hx]
      exact ⟨by decide, by decide, .mk rfl True.intro (fun _ z => nomatch z), by rw [W.size_mk]; decide⟩⟩
    have hl6 : 5 < (List.replicate (6 + r).toNat ((1, W.mk .arg 0 []) : Int × W)).length := by rw [List.length_replicate]; omega
    have t3 := tabs_same t2 s4
    generalize upd H2 p (.tup (List.replicate (6 + r).toNat [V.ref p2]).flatten) = H3 at s4 hpr t3 ⊢
    generalize List.replicate (6 + r).toNat ((1, W.mk .arg 0 []) : Int × W) = pr6 at hpr hok hl6 ⊢
    show gName 9 (V.ref p) [some (.ref a), some (.ref h), y2, y3, y4, y5, y6, y7, y8, none, y10, y11, y12] _ _
    refine ⟨t3, fun H4 x4 t4 => ?_⟩
    have hpr4 := hpr.keep (keep_extN x4)
    refine ⟨.ref p, rfl, sml 0, fun l hl => ?_⟩
    have s5 := Same.new (o := .lst []) hl
    refine ⟨.ref p, pr6, 0, l, [], rfl, hpr4.keep (Keep.same s5), hok, upd_same, by decide, by unfold Small9; decide, .inl hl6, fun _ H5 s6 => ⟨rfl, rfl, fun H6 s7 => ?_⟩, fun y => absurd y (by omega), fun y => absurd y (by omega)⟩
    refine ⟨rfl, ?_⟩
    rw [show decide (V.str "TooMany" = V.str "TooMany") = true from decide_eq_true rfl]
    exact q _
end
end K16

open PySem PySem.W PySem.Calls PyProof.Rows
theorem PySem.Challenge.cw_overlayhall_k16_the_cheapest_tree_holds : PySem.Challenge.rw_overlayhall_k16_the_cheapest_tree.Holds := by
  w_on; o_law
  refine HandSHeadRun.head_any (r := OpenLaw.row PySem.Challenge.rw_overlayhall_k16_the_cheapest_tree) (q := view (OpenLaw.row PySem.Challenge.rw_overlayhall_k16_the_cheapest_tree).prog [79]) (H := K16.hk) (ob := K16.ob) (M := 9000) (loose := K16.names) (d := HandSHeadRun.topDef (OpenLaw.row PySem.Challenge.rw_overlayhall_k16_the_cheapest_tree).prog 79) (kwd := []) K16.ob_eq
    (by kernel_rfl) (fun s => by kernel_rfl) K16.run (by kernel_rfl) (by kernel_rfl) (by kernel_rfl) (by rfl) (by first | assumption | decide +kernel) (by decide +kernel) ⟨rfl, rfl, rfl, rfl, rfl, by decide +kernel⟩ ?hw ?hc
  case hw => w_witness2
  case hc =>
    refine LamX.walk_ofTsE (l := PySem.Challenge.rw_overlayhall_k16_the_cheapest_tree) (n := 63) (k := 125) (x := "_law_script") (CX := fun _ => L2.CX0) rfl (by decide) (by kernel_rfl) ⟨rfl, by decide, by decide⟩ ?F (fun _ _ _ _ _ z => z)
    intro w mg fa h Y G hmg0
    obtain ⟨K, KX, c⟩ := Y
    have T := K16.Txt.of (w := w) KX G c
    have hmg : mg ("law" : PySem.Str) = some (.ref fa) := by
      have e : (HandSHeadRun.topDef (OpenLaw.row PySem.Challenge.rw_overlayhall_k16_the_cheapest_tree).prog 79).name = ("law" : PySem.Str) := by kernel_rfl
      rw [← e]
      exact hmg0
    cases hmg.symm.trans T.g_law
    have b := L2.FunD.bindsA (ps := ["_law_script"]) T.F_law fun _ _ _ _ _ _ us hl => match us, hl with | [_], _ => rfl
    have m : (("law", none) : He.Defn) ∈ K16.tf := .head _
    refine ⟨K, KX, K16.fdOf K K16.d_law, [He.cT K ("law", none)], Ov.spLawT K (K16.lawTabs K), ?_, ?_, ?_, fun s v => b s [v] rfl, ?_, ?_⟩
    · exact fun p hp => by rcases List.mem_singleton.mp hp with rfl; exact c.empty _ m
    · exact fun p hp => by rcases List.mem_singleton.mp hp with rfl; exact c.out _ m
    · exact fun p hp => by rcases List.mem_singleton.mp hp with rfl; exact PySem.W.codeHd_of_K KX (c.hd _ m)
    · exact fun H a ns hl _ hT hS => ⟨a, ns, rfl, hS, hl, fun p hp => by rcases List.mem_singleton.mp hp with rfl; exact LamX.TabS.nil (hT _ (.head _)), fun _ => rfl⟩
    · exact fun base _ _ hB => K16.ok_law T (hB _ (.head _))

