import PyProof.Rows.All
import Wide.All
import OpenK.AllK
import Wide.FinOn
import HandS.ForMost
import HandS.ForExc
import HandS.IsInst
import HandS.MakeKwOnly
import HandS.ClsMeth
import HandS.Conv
import HandS.Codes
import HandS.Walk
import HandS.Style
import HandS.Flow
import HandS.Wide
import HandS.OwnEq
import HandS.OwnIter
import HandS.IterVal
import KE.KOwnIter
import PyProof.FactsAll.tuple_iterator_1
import HandS.Deep
import HandS.SortRule
import KE.GoesMore
import KE.GoesEnum
import KE.KLam
import KE.DataMinKey
import HandS.Base
import HandS.Call
import HandS.List
import HandS.Comp
import HandS.Lambda
import HandS.Nested
import HandS.Keys
import HandS.SortInts
import PyProof.NeKinds
import HandS.SetFor
import HandS.Strs
import HandS.TupSets
import KE.SortData
import HandS.Gcd
import KE.KMathGC
import HandS.Sort
import PyProof.AutoSeq1
import KE.KTurns
import HandS.TupLe
import KE.KSortTup
import HandS.Defaults
import HandS.Zip
import HandS.TryOnly
import HandS.TupAny
import KE.DataFind
import PyProof.SumWalkG
import HandS.TupMul
import KE.DataMinMax
import KE.GoesZip
import HandS.Iter
import HandS.Dict
import HandS.More
import HandS.DictComp
import HandS.DictEq
import KE.KDictList
import KE.KStateDown
import HandS.Head0
import HandS.Head1
import HandS.Head2
import HandS.HeadHook4
import HandS.HeadWalk
import KE.KNestM
import HandS.EndTab
import HandS.Rev
import HandS.WordsDict
import HandS.Small
import HandS.ListItems
import HandS.Head3
import HandS.HeadEnd
import PySem.Challenge.RW_heaprows_k63_evidence_of_runs
set_option Elab.async false
set_option maxRecDepth 100000
set_option Elab.async false
set_option linter.all false
set_option maxRecDepth 100000
set_option maxHeartbeats 2000000
namespace Tw
open PySem PySem.Spec PyProof.Rows L2

/-! own rules: an instance with dunder methods -/
/-- a dunder method of the class at C, its def at f -/
structure Dn (K : PySem.W.Frag) (C : Addr) (m : Str) (f : Addr) : Prop where
  at_ : PySem.W.findIn K (.ref C) m = some (some (.ref f))
  fn : PySem.W.isFn K (.ref f) = true
  fi : PySem.W.fnIn K f = true


section
variable {X : Cx} {CX : CXT} {k n : Nat} {f C : Addr} {fd : FuncData} {ps : List Str} {sp : Sp} {E : XK} {o e : Expr} {pos : Pos} {ta tb : TE} {A1 : Around}
  {pins : List (Addr × Obj)} {σ : L2.St} {H : Hp} {s : Shared} {Q : VK}
theorem Sub.env0 (sb : Sub X n A1) (I : Inv X pins σ H s) : Env0 X.prog X.w X.K X.mg X.base A1 X.stack s H := by
  have q := I.env0
  exact ⟨by rw [sb.fr]; exact q.frames, q.mod, q.bs, q.bsz, q.funs, q.frf, q.hok, q.bare⟩
theorem run_sub {us : List Value} {vs : List V} (F : FnOk X.prog X.w X.K X.mg X.base CX k f fd ps sp) (sb : Sub X k A1) (hb : Binds X.K fd ps []) (hx : Passes CX X E) (I : Inv X pins σ H s) (r : Vals vs us) (h : sp vs H Q E) :
    wpAny (model X.prog X.w) A1 (call (.ref f) us) (EP X pins σ Q) X.xe s := by
  have hl : us.length = ps.length := by rw [← r.length]; exact F.len _ _ _ _ h
  have hb1 : BindsTo s fd ⟨us, []⟩ (ps.zip us) := by
    have z := hb s us I.kIn (by rw [List.append_nil]; exact hl)
    rw [List.append_nil] at z
    exact z
  refine wpAny_call (codeAny_mono (F.run A1 X.stack s H ⟨us, []⟩ us vs Q E sb.room (Sub.env0 sb I) hb1 r h) fun z s' hq => ?_)
  match z, hq with
  | .error e, hq => exact hx pins σ H s e s' I hq
  | .ok (.ret u), hq => exact I.after hq
  | .ok .next, hq => exact False.elim hq
  | .ok .brk, hq => exact False.elim hq
  | .ok .cont, hq => exact False.elim hq
theorem relR (a : Addr) : RelV (V.ref a) (Value.ref a) := rfl
theorem relB (b : Bool) : RelV (V.bl b) (Value.bool b) := rfl
theorem relI (i : Int) (t : Tok) : RelV (V.int i) (Value.int i t) := ⟨t, rfl⟩
/-- o[e] by the class's own def -/
def tGi (C : Addr) (sp : Sp) (E : XK) (ta tb : TE) : TE := fun σ H Q => ta σ H fun x H1 => tb σ H1 fun y H2 =>
  ∃ a dx fs, x = .ref a ∧ H2 a = some (.ins C dx fs) ∧ sp [.ref a, y] H2 Q E
theorem pe_gi (hd : Dn X.K C "__getitem__" f) (F : FnOk X.prog X.w X.K X.mg X.base CX k f fd ps sp) (hr : Room (k + 1) X.A) (hb : Binds X.K fd ps []) (hx : Passes CX X E) (ho : PE X o ta) (he : PE X e tb)
    (hs : ∀ v u, subscripted e true v u = runValue (.builtin "lifetime.subscript" ⟨[v, u], []⟩) := by intro _ _; with_unfolding_all rfl) :
    PE X (.Subscript o e pos) (tGi C sp E ta tb) := by
  refine ⟨fun pins s σ H Q I h => ?_⟩
  refine Subscript_ (binT ho he (R := fun x y H2 => ∃ a dx fs, x = .ref a ∧ H2 a = some (.ins C dx fs) ∧ sp [.ref a, y] H2 Q E) I h fun v u s2 x y H2 I2 rx ry ⟨a, dx, fs, ex, ha, q⟩ => ?_)
  subst ex
  obtain rfl : v = Value.ref a := rx
  obtain ⟨mA, O, rr, _, _, _⟩ := ins_get I2.hok ha
  obtain ⟨od, J, hl⟩ := O.look
  obtain ⟨m0, hF⟩ := I2.fr
  exact PySem.W.sub_K hF I2.ok.mod.kin J hd.at_ hd.fi hd.fn (run_sub F (Sub.in1 ⟨hr, rfl⟩) hb hx I2 (.cons (relR a) (.cons ry .nil)) q) (hs _ _)
/-- e in o, by the class's own def -/
def rIn (C : Addr) (sp : Sp) (E : XK) (neg : Bool) : R2 := fun x y H Q =>
  ∃ a dx fs, y = .ref a ∧ H a = some (.ins C dx fs) ∧ sp [.ref a, x] H (fun v H' => ∃ b, v = .bl b ∧ Q (.bl (if neg then !b else b)) H') E
theorem op_in_own (hd : Dn X.K C "__contains__" f) (F : FnOk X.prog X.w X.K X.mg X.base CX k f fd ps sp) (hr : Room k X.A) (hb : Binds X.K fd ps []) (hx : Passes CX X E) : OpR X (compareOp .In) (rIn C sp E false) := by
  intro pins s σ H x y v u Q I rx ry ⟨a, dx, fs, ey, ha, q⟩
  subst ey
  obtain rfl : u = Value.ref a := ry
  obtain ⟨mA, O, rr, _, _, _⟩ := ins_get I.hok ha
  obtain ⟨od, J, hl⟩ := O.look
  obtain ⟨m0, hF⟩ := I.fr
  refine PySem.W.in_K hF I.ok.mod.kin J hd.at_ hd.fn (thn (run_sub F ⟨hr, rfl⟩ hb hx I (.cons (relR a) (.cons rx .nil)) q) fun r s' ⟨z, H', I', rz, b, ez, q'⟩ => ?_)
  subst ez
  obtain rfl : r = Value.bool b := rz
  exact wpAny_truthy_bool ⟨_, _, I', relB b, q'⟩
/-- len(o) by the class's own def -/
def rLenO (C : Addr) (sp : Sp) (E : XK) : List V → Hp → VK → Prop := fun xs H Q =>
  ∃ a dx fs, xs = [.ref a] ∧ H a = some (.ins C dx fs) ∧ sp [.ref a] H (fun v H' => ∃ n : Nat, v = .int n ∧ n < 1000 ∧ Q (.int n) H') E
theorem call_len_own (hd : Dn X.K C "__len__" f) (F : FnOk X.prog X.w X.K X.mg X.base CX k f fd ps sp) (hr : Room (k + 1) X.A) (hb : Binds X.K fd ps []) (hx : Passes CX X E) : CallR X (.builtin "len") (rLenO C sp E) := by
  intro pins s σ H xs us Q I rv ⟨a, dx, fs, ex, ha, q⟩
  subst ex
  obtain ⟨u, rfl, ru⟩ := rv.one
  obtain rfl : u = Value.ref a := ru
  obtain ⟨mA, O, rr, _, _, _⟩ := ins_get I.hok ha
  obtain ⟨od, J, hl⟩ := O.look
  obtain ⟨m0, hF⟩ := I.fr
  refine PySem.W.len_K hF I.ok.mod.kin J hd.at_ hd.fn (thn (run_sub F (Sub.in1 ⟨hr, rfl⟩) hb hx I (.cons (relR a) .nil) q) fun r s' ⟨z, H', I', rz, n, ez, hn, q'⟩ => ?_)
  subst ez
  obtain ⟨t, rfl⟩ := rz
  exact ⟨⟨by omega, by omega⟩, _, _, I'.tok _, relI _ _, q'⟩
end

/-! for x in o, o an instance whose __iter__ says: return iter(self.F), F a tuple -/
def itTup (t : Addr) (i : Nat) : Obj := { cls := .type "tuple_iterator", data := .fields #[.ref t, .int (i : Nat) 0] }
def ItT (t it : Addr) (i : Nat) : HO := .ext fun h => h.get? it = some (itTup t i)
def rIterT (K : PySem.W.Frag) (n : Nat) : List V → Hp → VK → Prop := fun xs H Q => ∃ (t : Addr) (zs : List V), xs = [.ref t] ∧ SqT K H t zs ∧ ∀ it, H it = Option.none → n ≤ it → Q (.ref it) (upd H it (ItT t it 0))
section
variable {X : Cx}
theorem call_iterT : CallR X (.builtin "iter") (rIterT X.K X.s_0.heap.objs.size) := by
  intro pins s σ H xs us Q I r ⟨t, zs, e, hq, q⟩
  subst e
  obtain ⟨u, rfl, ru⟩ := r.one
  obtain rfl : u = Value.ref t := ru
  obtain ⟨its, rv, pl, hz⟩ := I.tuple hq
  refine Calls.call_function_entry (by decide +kernel) (by decide +kernel) PySem.W.kdk_entry_iter (PySem.W.kdk_args_iter _) ?_
  unfold Builtin.«iter»
  refine wpAny_bind (m := someArgs "iter" 1 2 _) (wpAny_of_eq (a := [Value.ref t]) (by first | rfl | kernel_rfl!) ?_)
  show wpAny _ _ (pyIter (.ref t) >>= _) _ _ _
  refine wpAny_bind (wpAny_pyIter_tuple (show s.heap.IsTuple t its.toArray from pl) ?_)
  have g : (s.heap.push (itTup t 0)).get? s.heap.objs.size = some (itTup t 0) := Heap.get?_push_size _ rfl
  have ok : ObjOk X.prog X.w (upd H s.heap.objs.size (ItT t s.heap.objs.size 0)) (s.heap.push (itTup t 0)) s.heap.objs.size (ItT t s.heap.objs.size 0) := ⟨g, ⟨_, g⟩, fun _ _ q k => k _ q⟩
  exact wpAny_pure ⟨_, rfl, .ref s.heap.objs.size, _, I.laid (t' := s.toks) (fun b u e => Heap.get?_push_of_some _ e) (Nat.le_refl _) ok, relR _, q _ (I.hok.fresh (Nat.le_refl _)) I.sz⟩
end

/-- a promise that may speak of how many objects there are when the def is called -/
def FnIt (P : Program) (w : World) (K : PySem.W.Frag) (mg : Str → Option Value) (base : Heap) (k : Nat) (f : Addr) (fd : FuncData) (ps : List Str) (sp : Nat → List V → Hp → VK → Prop) : Prop :=
  ∀ (A : Around) (outer : List Env) (s : Shared) (H : Hp) (us : List Value) (vs : List V) (Q : VK), Room k A → Env0 P w K mg base A outer s H → BindsTo s fd ⟨us, []⟩ (ps.zip us) → vs.length = ps.length → Vals vs us →
    sp s.heap.objs.size vs H Q → codeAny (model P w) A (.call (.ref f) ⟨us, []⟩) (CR CX0 outer P w H s Q E0) s
section
variable {P : Program} {w : World} {K : PySem.W.Frag} {mg : Str → Option Value} {base : Heap}
theorem fnIt_of {x qual : Str} {st : Stmt} {f : Addr} {fd : FuncData} {N ps : List Str} {k : Nat} {sp : Nat → List V → Hp → VK → Prop} (F : Fun K x qual st f fd) (S : FnScope N ps (defScope st))
    (hbody : ∀ (cdv : Value) (A : Around) (outer : List Env) (s : Shared) (H : Hp) (vs : List V) (Q : VK), Room k (A.deeper (envOfC qual (defScope st) s.heap.objs.size f cdv)) → sp s.heap.objs.size vs H Q →
      ∃ t, PSs (cxOf CX0 P w K mg base N qual (defScope st) f cdv A outer s H E0).nox (defBody st) t ∧ t { nx := fun _ H' => Q .non H', rt := Q } (start N vs) H) : FnIt P w K mg base (k + 1) f fd ps sp := by
  obtain ⟨oc, od, kV, doc, pm, an, cdv, ct, osl, rfl, lk, hcd⟩ := F.ex
  intro A outer s H us vs Q hr e0 hb hl r hsp
  have kin : K.In s.heap := e0.mod.kin.keeps fun b o e => (e0.bs b o e).1
  have lim : s.heap.NoLimit := e0.mod.nolimit.keeps fun b o e => (e0.bs b o e).1
  have kinds : ∀ y ∈ ps.zip us, (defScope st).names.lookup y.1 = some .local ∨ ((defScope st).names.lookup y.1 = some .cell ∧ ((cellsFrom (s.heap.objs.size + 1) (defScope st).names []).lookup y.1).isSome = true) := by
    intro y hy
    cases S.par y.1 (List.of_mem_zip (a := y.1) (b := y.2) hy).1 with
    | inl q => exact .inl q
    | inr q => exact .inr ⟨q, PySem.W.cellsFrom_some _ _ _ (.inl q)⟩
  apply codeAny_call_function hr.depth (kin _ _ lk) rfl S.co S.gen rfl (PySem.W.codeRec_of kin hcd) (hb _ _ _ _ ?_)
  apply wpAny_newFunctionEnv_cells S.kind kinds
  intro env he s1 x
  subst he
  refine ⟨lim.keeps x.toInCall.keep, codeAny_func ?_⟩
  obtain ⟨t, ht, hq⟩ := hbody cdv A outer s H vs Q (hr.deeper _) hsp
  have I := inv_start (CX := CX0) (P := P) (w := w) (E := E0) (cd := cdv) (qual := qual) (f := f) (outer := outer) S hr.hd e0 hl r x
  refine wpAny_mono (ht.nox.run [] s1 (start N vs) H _ I hq) (fun fl s' hs => ?_) fun e s' hs => hs
  match fl, hs with
  | .ret u, ⟨v, σ', H', J, rv, q⟩ => exact ⟨v, H', J.os, J.bare, J.base, J.hok, rv, q⟩
  | .next, ⟨σ', H', J, q⟩ => exact ⟨V.non, H', J.os, J.bare, J.base, J.hok, rfl, q⟩
  | .brk, ⟨_, _, _, q⟩ => exact False.elim q
  | .cont, ⟨_, _, _, q⟩ => exact False.elim q
end
/-- what such an __iter__ promises -/
def spIter (K : PySem.W.Frag) (C : Addr) (fld : Str) : Nat → List V → Hp → VK → Prop := fun n vs H Q => ∃ a dx fs t zs, vs = [.ref a] ∧ H a = some (.ins C dx fs) ∧ fs.lookup fld = some (.ref t) ∧ SqT K H t zs ∧
  ∀ it, H it = Option.none → n ≤ it → Q (.ref it) (upd H it (ItT t it 0))
/-- x in o, for a loop: o's own tuple is walked -/
def iOwn (K : PySem.W.Frag) (C : Addr) (fld : Str) (to : TE) : TI := fun σ H R => to σ H fun x H1 => ∃ a dx fs t zs, x = .ref a ∧ H1 a = some (.ins C dx fs) ∧ fs.lookup fld = some (.ref t) ∧ SqT K H1 t zs ∧ R (Itt K t) H1
section
variable {X : Cx} {k : Nat} {f C : Addr} {fd : FuncData} {fld : Str} {tg o : Expr} {to : TE} {pins : List (Addr × Obj)} {σ : L2.St} {H : Hp} {s : Shared} {A1 : Around}
theorem run_iter {a t dx : Addr} {fs : List (Str × V)} {zs : List V} (F : FnIt X.prog X.w X.K X.mg X.base k f fd ["self"] (spIter X.K C fld)) (sb : Sub X k A1) (hb : Binds X.K fd ["self"] []) (I : Inv X pins σ H s)
    (ha : H a = some (.ins C dx fs)) (hf : fs.lookup fld = some (.ref t)) (ht : SqT X.K H t zs) {E : Value → Shared → Prop} :
    wpAny (model X.prog X.w) A1 (call (.ref f) [.ref a]) (fun u s' => ∃ it, u = .ref it ∧ s.heap.objs.size ≤ it ∧ H it = Option.none ∧ Inv X pins σ (upd H it (ItT t it 0)) s') E s := by
  have hb1 : BindsTo s fd ⟨[.ref a], []⟩ ((["self"] : List Str).zip [Value.ref a]) := by
    have z := hb s [.ref a] I.kIn rfl
    exact z
  refine wpAny_call (codeAny_mono (F A1 X.stack s H [.ref a] [.ref a] (fun v H' => ∃ it, v = .ref it ∧ s.heap.objs.size ≤ it ∧ H it = Option.none ∧ H' = upd H it (ItT t it 0)) sb.room (Sub.env0 sb I) hb1 rfl (.cons (relR a) .nil)
    ⟨a, dx, fs, t, zs, rfl, ha, hf, ht, fun it h0 hn => ⟨it, rfl, hn, h0, rfl⟩⟩) fun z s' hq => ?_)
  match z, hq with
  | .error e, hq => exact hq.elim
  | .ok (.ret u), hq =>
    obtain ⟨v, H', I', rv, it, ev, hn, h0, eH⟩ := I.after hq
    subst ev
    rw [eH] at I'
    obtain rfl : u = Value.ref it := rv
    exact ⟨it, rfl, hn, h0, I'⟩
  | .ok .next, hq => exact False.elim hq
  | .ok .brk, hq => exact False.elim hq
  | .ok .cont, hq => exact False.elim hq
theorem pi_own (hd : Dn X.K C "__iter__" f) (F : FnIt X.prog X.w X.K X.mg X.base k f fd ["self"] (spIter X.K C fld)) (hr : Room k X.A) (hb : Binds X.K fd ["self"] []) (ho : PE X o to) : PI X tg o (iOwn X.K C fld to) := by
  refine ⟨fun pins s σ H R I h => ?_⟩
  refine thn (ho.run pins s σ H _ I h) fun u s1 ⟨x, H1, I1, rx, a, dx, fs, t, zs, ex, ha, hf, ht, q⟩ => ?_
  subst ex
  obtain rfl : u = Value.ref a := rx
  obtain ⟨mA, O, rr, _, _, _⟩ := ins_get I1.hok ha
  obtain ⟨od, J, hl⟩ := O.look
  obtain ⟨m0, hF⟩ := I1.fr
  refine PySem.W.owit_iter hF I1.ok.mod.kin J hd.at_ hd.fn (thn (run_iter F ⟨hr, rfl⟩ hb I1 ha hf ht) fun r s2 ⟨it, er, hn, h0, I2⟩ => ?_)
  subst er
  have e2 : upd H1 it (ItT t it 0) it = some (ItT t it 0) := upd_same
  have g : s2.heap.get? it = some (itTup t 0) := (I2.hok it _ e2).1
  have hT : s2.TypeIs (.ref it) "tuple_iterator" := ⟨_, g, rfl⟩
  have hfp := ItX.inv_fp I2 e2 (Nat.le_trans I1.sz hn)
  have I3 := ItX.inv_drop I2 e2
  rw [ItX.dropH_upd h0] at I3 hfp
  unfold PySem.W.OwitIt
  refine wpAny_specialOf (name := Str.ofString "__next__") hT PySem.F.slot_tuple_iterator_next.lookup ?_
  refine ⟨it, [it], _, _, H1, rfl, I3, turn_tuple t it, ⟨_, g, rfl, rfl⟩, fun b hb => ?_, q⟩
  rw [List.mem_singleton.mp hb]
  exact hfp
end
/-! C.m(e, .., k = v, ..), m a classmethod; cls(e, .., k = v, ..), cls a local name that holds the class -/
def tCMethK (C : Addr) (n m : Nat) (sp : Sp) (gV : List V → List V → List V) (E : XK) (ta : TE) (t tk : TA) : TE := fun σ H Q => ta σ H fun x H1 => x = .ref C ∧ t σ H1 fun vs H2 => tk σ H2 fun zs H3 => (.ref C :: vs).length = n ∧ zs.length = m ∧ sp (gV (.ref C :: vs) zs) H3 Q E
def tMakeLK (i : Nat) (C : Addr) (n m : Nat) (sp : Sp) (gV : List V → List V → List V) (E : XK) (t tk : TA) : TE := fun σ H Q => σ[i]? = some (some (.ref C)) ∧ tMakeK C n m sp gV E t tk σ H Q
section
variable {X : Cx} {CX : CXT} {k n i : Nat} {C p g f : Addr} {mc : Value} {sp : Sp} {E : XK} {o e : Expr} {es : List Expr} {kws : List Keyword} {m x : Str} {pos apos xpos : Pos} {ta : TE} {t tk : TA} {pl : Sem Bool} {fd : FuncData} {ps ks : List Str}
  {gv : List Value → List Value → List Value} {gV : List V → List V → List V}
theorem pe_cmethK (he : PE X o ta) (r : ClX.CRead X.K C mc) (c : ClX.CMet X.K C mc m p g) (F : FnOk X.prog X.w X.K X.mg X.base CX k g fd ps sp) (hr : Room k X.A) (hb : KBn X.K fd ps n ks gv gV) (hx : Passes CX X E) (ha : PA X (e :: es) t) (hkw : PK X kws tk)
    (hall : (backToKw pos (keywordEach kws X.env)).all (·.1.isSome) = true := by rfl) (hks : (backToKw pos (keywordEach kws X.env)).filterMap (·.1) = ks := by rfl)
    (hst : starEach (e :: es) X.env = (false, eval e X.env) :: starEach es X.env := by rfl) (hpl : ((backTo pos (starEach (e :: es) X.env)).any (·.1) || (backToKw pos (keywordEach kws X.env)).any (·.1.isNone)) = false := by rfl)
    (ht : eval (.Call (.Attribute o m apos) (e :: es) kws pos) X.env = (do
      let ov ← eval o X.env
      standAt apos.atName
      let (f, first) ← holding [ov] (getMethod ov m pl)
      callWith pos f first (backTo pos (starEach (e :: es) X.env)) (backToKw pos (keywordEach kws X.env))) := by rfl) :
    PE X (.Call (.Attribute o m apos) (e :: es) kws pos) (tCMethK C n ks.length sp gV E ta t tk) := by
  refine ⟨fun pins s σ H Q I h => ?_⟩
  refine PySem.W.methodCall_KW (pl := pl) (thn (he.run pins s σ H _ I h) fun u s1 ⟨x, H1, I1, rx, ex, q⟩ => ?_) ht
  subst ex
  obtain rfl : u = Value.ref C := rx
  refine ClX.getmethcm_ok I1 r c fun s2 I2 => ?_
  refine PySem.W.callWith_of (P := PySem.W.MethP X.K s1.heap.objs.size g (.ref C)) hpl (PySem.W.keeps_M c.fi) (evalArgs_kw2 hall (thn (ha.run pos _ s2 σ H1 _ I2 q) fun us s3 ⟨vs, H2, I3, rv, q2⟩ => ?_) hst)
  refine thn (hkw.run pos _ s3 σ H2 _ I3 q2) fun ws s4 ⟨zs, H3, I4, rz, l1, l2, q3⟩ => ⟨⟨ClX.pin_at I4, I4.kIn⟩, ?_⟩
  rw [hks]
  have r2 : Vals (V.ref C :: vs) (Value.ref C :: us) := .cons (relR C) rv
  have n1 : (Value.ref C :: us).length = n := r2.length.symm.trans l1
  have I5 := ClX.unpin I4
  refine wpAny_call (PySem.W.method_call (ClX.pin_at I4) (codeAny_mono (F.run X.A X.stack s4 H3 ⟨Value.ref C :: us, ks.zip ws⟩ _ _ Q E hr I5.env0 (hb.to _ (Value.ref C :: us) ws I5.kIn n1 (rz.length.symm.trans l2)) (hb.rel r2 rz) q3) fun z s' hq => ?_))
  match z, hq with
  | .error e, hq => exact hx pins σ H3 s4 e s' I5 hq
  | .ok (.ret u), hq => exact I5.after hq
  | .ok .next, hq => exact False.elim hq
  | .ok .brk, hq => exact False.elim hq
  | .ok .cont, hq => exact False.elim hq
theorem pe_makeLK (M : Mk X.K C f) (F : FnOk X.prog X.w X.K X.mg X.base CX k f fd ps sp) (hr : Room (k + 1) X.A) (hb : KBn X.K fd ps (n + 1) ks gv gV) (hx : Passes CX X E) (ha : PA X (e :: es) t) (hkw : PK X kws tk)
    (hN : X.N[i]? = some x) (hv : Vis X.env.scope x) (hd : (x == ("__debug__" : Str)) = false := by decide) (hcd : (x == ("__classdict__" : Str)) = false := by decide)
    (hall : (backToKw pos (keywordEach kws X.env)).all (·.1.isSome) = true := by rfl) (hks : (backToKw pos (keywordEach kws X.env)).filterMap (·.1) = ks := by rfl)
    (hst : starEach (e :: es) X.env = (false, eval e X.env) :: starEach es X.env := by rfl) (hpl : ((backTo pos (starEach (e :: es) X.env)).any (·.1) || (backToKw pos (keywordEach kws X.env)).any (·.1.isNone)) = false := by rfl) :
    PE X (.Call (.Name x xpos) (e :: es) kws pos) (tMakeLK i C n ks.length sp gV E t tk) := by
  refine ⟨fun pins s σ H Q I ⟨h0, h⟩ => ?_⟩
  refine wpAny_Call_Name_kw (thn ((pe_var (pos := xpos) (i := i) hN hv hd hcd).run pins s σ H (fun v H1 => v = .ref C ∧ H1 = H) I ⟨.ref C, h0, rfl, rfl⟩) fun u s1 ⟨v, H1, I1, r1, ev, eH⟩ => ?_)
  subst ev
  rw [eH] at I1
  obtain rfl : u = Value.ref C := r1
  refine PySem.W.callWith_KW (h₀ := X.base) I1.ok.mod.kin M.kp hall (thn (ha.run pos pins s1 σ H _ I1 h) fun us s2 ⟨vs, H2, I2, r, q⟩ => ?_) hpl hst
  refine thn (hkw.run pos pins s2 σ H2 _ I2 q) fun ws s3 ⟨zs, H3, I3, rz, l1, l2, q2⟩ => ⟨I3.kIn, ?_⟩
  rw [hks]
  exact run_makeK M F hr hb hx I3 r rz l1 l2 q2
end

/-! heaps that only grow -/
theorem Same.up {H : Hp} {p : Addr} {o : HO} (h : H p = Option.none) : Same H (upd H p o) := fun b u e => by
  rw [upd_ne (ne_of_none e h)]
  exact e
/-- a list under way at D, which was not there in H1 -/
structure Acc (H1 : Hp) (D : Addr) (acc : List V) (H : Hp) : Prop where
  s : Same H1 H
  n : H1 D = Option.none
  a : H D = some (.lst acc)
theorem Acc.start {H1 : Hp} {D : Addr} (n : H1 D = Option.none) : Acc H1 D [] (upd H1 D (.lst [])) := ⟨Same.up n, n, upd_same⟩
theorem Acc.same {H1 H H' : Hp} {D : Addr} {acc : List V} (h : Acc H1 D acc H) (s : Same H H') : Acc H1 D acc H' := ⟨h.s.trans s, h.n, s _ _ h.a⟩
theorem Acc.push {H1 H : Hp} {D : Addr} {acc zs : List V} (h : Acc H1 D acc H) : Acc H1 D zs (upd H D (.lst zs)) :=
  ⟨fun b o e => by rw [upd_ne (ne_of_none e h.n)]; exact h.s b o e, h.n, upd_same⟩
theorem Same.none' {H H' : Hp} (s : Same H H') {p : Addr} (h : H' p = Option.none) : H p = Option.none := s.free h
theorem Same.of_upd {H H' : Hp} {p : Addr} {o : HO} (h : H p = Option.none) (s : Same (upd H p o) H') : Same H H' := (Same.up h).trans s
/-- a list of ints as values -/
theorem ints_at {ns : List Int} {i : Nat} {x : V} (h : (ns.map V.int)[i]? = some x) : ∃ (hi : i < ns.length), x = .int ns[i] := by
  rw [List.getElem?_map] at h
  cases e : ns[i]? with
  | none => rw [e] at h; cases h
  | some u =>
    rw [e] at h
    obtain ⟨hi, rfl⟩ := List.getElem?_eq_some_iff.mp e
    exact ⟨hi, (Option.some.inj h).symm⟩

/-! comprehensions that pick -/
section
variable {α : Type} {H1 H : Hp} {D : Addr} {ks : List α} {f : α → Option V} {i : Nat} {c : α → V}
def PickI (H1 : Hp) (D : Addr) (ks : List α) (f : α → Option V) : Nat → Hp → Prop := fun i H => Acc H1 D ((ks.take i).filterMap f) H
theorem pick_start (n : H1 D = Option.none) : PickI H1 D ks f 0 (upd H1 D (.lst [])) := Acc.start n
theorem take_fm (hi : i < ks.length) : (ks.take (i + 1)).filterMap f = (ks.take i).filterMap f ++ (f ks[i]).toList := by
  rw [List.take_succ_eq_append_getElem hi, List.filterMap_append]
  cases h : f ks[i] <;> simp [h]
theorem pick_yes {H' : Hp} {y : V} (hi : i < ks.length) (hl : ks.length ≤ 1000) (e : f ks[i] = some y) (s : Same H H') (h : PickI H1 D ks f i H) :
    ∃ acc, H' D = some (.lst acc) ∧ acc.length < sizeLine ∧ PickI H1 D ks f (i + 1) (upd H' D (.lst (acc ++ [y]))) := by
  have h2 := Acc.same h s
  refine ⟨_, h2.a, small1000 ?_, ?_⟩
  · exact Nat.le_trans (Nat.le_trans (List.length_filterMap_le _ _) (List.length_take_le _ _)) (by omega)
  · unfold PickI
    rw [take_fm hi, e]
    exact h2.push
theorem pick_no {H' : Hp} (hi : i < ks.length) (e : f ks[i] = none) (s : Same H H') (h : PickI H1 D ks f i H) : PickI H1 D ks f (i + 1) H' := by
  unfold PickI
  rw [take_fm hi, e, Option.toList_none, List.append_nil]
  exact Acc.same h s
theorem pick_end {m : Nat} (hm : m = ks.length) (h : PickI H1 D ks f m H) : Acc H1 D (ks.filterMap f) H := by
  subst hm
  unfold PickI at h
  rw [List.take_length] at h
  exact h
theorem map_at {x : V} (h : (ks.map c)[i]? = some x) : ∃ hi : i < ks.length, x = c ks[i] := by
  rw [List.getElem?_map] at h
  cases e : ks[i]? with
  | none => rw [e] at h; cases h
  | some u =>
    rw [e] at h
    obtain ⟨hi, rfl⟩ := List.getElem?_eq_some_iff.mp e
    exact ⟨hi, (Option.some.inj h).symm⟩
end
end Tw

set_option Elab.async false
set_option linter.all false
set_option maxRecDepth 100000
set_option maxHeartbeats 2000000
namespace Tw
open PySem PySem.Spec PyProof.Rows L2
open PySem.W (InstAt looks_findIn looks_subIn ifBound_K cmp_K)
/-- a class with an own __eq__ and the usual != -/
structure EqC (K : PySem.W.Frag) (C f : Addr) : Prop where
  eq : PySem.W.findIn K (.ref C) "__eq__" = some (some (.ref f))
  fn : PySem.W.isFn K (.ref f) = true
  ne : PySem.W.findIn K (.ref C) "__ne__" = some (some (.builtin "object.__ne__"))
  ob : PySem.W.subIn K (.ref C) (.type "object") = some true
  ni : PySem.W.subIn K (.type "int") (.ref C) = some false
  nt : PySem.W.subIn K (.type "tuple") (.ref C) = some false

section
variable {prog : Program} {w : World} {A : Around} {E : Value → Shared → Prop} {s : Shared} {K : PySem.W.Frag} {x C L f : Addr} {h₀ : Heap} {m : Str → Option Value} {ox : Obj} {od : Option Obj} {b tb : Value}
theorem ne_entry {Q : PySem.Fin → Shared → Prop} (hu : A.units < cLine) (X : K.In s.heap) (I : InstAt s.heap x ox C od) (c : EqC K C f)
    (h : wpAny (model prog w) A (call (.ref f) [.ref x, b]) (fun v s' => ∃ r, v = .bool r ∧ Q (.done (.ret (.bool (!r)))) s') E s) :
    wpAny (model prog w) A (Builtin.«object.__ne__» ⟨[.ref x, b], []⟩) Q E s := by
  unfold Builtin.«object.__ne__»
  refine wpAny_bind (wpAny_of_eq (a := (Value.ref x, [b])) (by first | rfl | kernel_rfl!) ?_)
  refine wpAny_bind (wpAny_cRoomFor hu ?_)
  refine wpAny_bind (m := callSpecialIfBound? (.ref x) (Str.ofString "__eq__") [b]) (ifBound_K X I c.eq c.fn (wpAny_mono h (fun v s' hv => ?_) fun _ _ e => e))
  obtain ⟨r, e, q⟩ := hv
  subst e
  refine wpAny_bind (m := truthy (.bool r)) (wpAny_truthy_bool ?_)
  exact wpAny_pure q
theorem ne_call {Q : Value → Shared → Prop} (hu : A.in1.units < cLine) (X : K.In s.heap) (I : InstAt s.heap x ox C od) (c : EqC K C f)
    (h : wpAny (model prog w) A.in1 (call (.ref f) [.ref x, b]) (fun v s' => ∃ r, v = .bool r ∧ Q (.bool (!r)) s') E s) :
    wpAny (model prog w) A (call (.builtin "object.__ne__") [.ref x, b]) Q E s := by
  have t2 : PySem.W.Looks (model prog w) s.heap (isInstance (.ref x) (.type "object")) true := I.type.andThen (looks_subIn X c.ob)
  refine wpAny_call (codeAny_call_builtin F.cmp_object.ne.plain F.cmpEntry_ne (PySem.W.check_slot F.cmpKind_ne F.cmpSplit_ne t2 (F.cmpArgs_ne _ _) (ne_entry hu X I c (wpAny_mono h (fun v s' hv => ?_) fun _ _ e => e))))
  obtain ⟨r, e, q⟩ := hv
  exact ⟨r, e, q⟩
theorem ne_bound {Q : Option Value → Shared → Prop} (hu : A.in1.units < cLine) (X : K.In s.heap) (I : InstAt s.heap x ox C od) (c : EqC K C f)
    (h : wpAny (model prog w) A.in1 (call (.ref f) [.ref x, b]) (fun v s' => ∃ r, v = .bool r ∧ Q (some (.bool (!r))) s') E s) :
    wpAny (model prog w) A (callSpecialIfBound? (.ref x) "__ne__" [b]) Q E s := by
  simp only [callSpecialIfBound?, bindSpecialIfBound?]
  refine wpAny_holding (wpAny_bind (wpAny_bind (wpAny_bind (I.type.here ((looks_findIn X c.ne).here ?_)))))
  refine wpAny_bind (wpAny_askSetting (wpAny_ite ?_))
  have fin : wpAny (model prog w) A (call (.builtin "object.__ne__") ([.ref x] ++ [b]) >>= fun v => pure (some v)) Q E s :=
    wpAny_bind (ne_call hu X I c (wpAny_mono h (fun v s' ⟨r, e, q⟩ => ⟨r, e, wpAny_pure q⟩) fun _ _ e => e))
  have bd := F.cmp_object.ne.bind (.ref x)
  split
  · refine wpAny_bind ?_
    rw [bd]
    exact wpAny_pure (wpAny_pure (by exact fin))
  · refine wpAny_tryCatch (wpAny_bind ?_)
    rw [bd]
    exact wpAny_pure (wpAny_pure (by exact fin))
theorem ne_K {Q : Value → Shared → Prop} (hu : A.in1.units < cLine) (hu0 : A.units < cLine) (F : Fr h₀ L s.heap m) (X₀ : K.In h₀) (I : InstAt s.heap x ox C od) (hb : PySem.W.Looks (model prog w) s.heap (typeOf b) tb) (hn : PySem.W.notFirst K C tb = true) (c : EqC K C f)
    (h : wpAny (model prog w) A.in1 (call (.ref f) [.ref x, b]) (fun v s' => ∃ r, v = .bool r ∧ Q (.bool (!r)) s') E s) : wpAny (model prog w) A (richCompare .NotEq (.ref x) b) Q E s := by
  have X := X₀.keeps F.keep
  have one : wpAny (model prog w) A (tryCompare (.ref x) (cmpInfo .NotEq).2.1 b) (fun r s' => ∃ v, r = some v ∧ Q v s') E s := by
    unfold tryCompare
    refine wpAny_bind (ne_bound hu X I c (wpAny_mono h (fun v s' ⟨r, e, q⟩ => ⟨r, e, ?_⟩) fun _ _ e => e))
    exact wpAny_pure ⟨_, rfl, q⟩
  have two : ∀ r s', (∃ v, r = some v ∧ Q v s') → ∃ v, r = some v ∧ Q v s' := fun _ _ z => z
  unfold richCompare
  simp only [oneThing_ref]
  refine wpAny_holding (wpAny_bind (wpAny_cRoomFor hu0 ?_))
  refine wpAny_bind (I.type.here (wpAny_bind (hb.here ?_)))
  split
  · rename_i q
    have e : PySem.W.subIn K tb (.ref C) = some false := by
      rcases Bool.or_eq_true_iff.mp hn with e | e
      · rw [beq_iff_eq.mp e] at q; simp at q
      · exact beq_iff_eq.mp e
    refine wpAny_bind ((looks_subIn X e).here ?_)
    simp only [Bool.false_eq_true, if_false]
    refine wpAny_bind (wpAny_mono one (fun r s' ⟨v, ev, hq⟩ => ?_) fun _ _ e => e)
    subst ev
    exact wpAny_pure hq
  · refine wpAny_bind (wpAny_pure ?_)
    simp only [Bool.false_eq_true, if_false]
    refine wpAny_bind (wpAny_mono one (fun r s' ⟨v, ev, hq⟩ => ?_) fun _ _ e => e)
    subst ev
    exact wpAny_pure hq
end
/-! as rules -/
section
variable {X : Cx} {CX : CXT} {k : Nat} {f C : Addr} {fd : FuncData} {ps : List Str} {sp : Sp} {E : XK}
/-- the other operand: an instance of the same class, an int, a tuple -/
inductive Oth (H : Hp) (C : Addr) : V → Prop where
  | ins {a dx : Addr} {fs : List (Str × V)} (h : H a = some (.ins C dx fs)) : Oth H C (.ref a)
  | int (i : Int) : Oth H C (.int i)
  | tup {a : Addr} {xs : List V} (h : H a = some (.tup xs)) : Oth H C (.ref a)
def rEqO (C : Addr) (sp : Sp) (E : XK) (neg : Bool) : R2 := fun x y H Q =>
  ∃ a dx fs, x = .ref a ∧ H a = some (.ins C dx fs) ∧ Oth H C y ∧ sp [.ref a, y] H (fun v H' => ∃ r, v = .bl r ∧ Q (.bl (if neg then !r else r)) H') E
theorem oth_type {pins : List (Addr × Obj)} {σ : L2.St} {H : Hp} {s : Shared} {y : V} {u : Value} (I : Inv X pins σ H s) (ry : RelV y u) (c : EqC X.K C f) (o : Oth H C y) :
    ∃ tb, PySem.W.Looks (model X.prog X.w) s.heap (typeOf u) tb ∧ PySem.W.notFirst X.K C tb = true := by
  cases o with
  | @ins a dx fs h =>
    obtain rfl : u = Value.ref a := ry
    obtain ⟨mA, O, rr, _, _, _⟩ := ins_get I.hok h
    obtain ⟨od, J, hl⟩ := O.look
    exact ⟨_, J.type, by unfold PySem.W.notFirst; simp⟩
  | int i =>
    obtain ⟨t, rfl⟩ := ry
    exact ⟨.type "int", .now, by unfold PySem.W.notFirst; rw [c.ni]; simp⟩
  | @tup a xs h =>
    obtain rfl : u = Value.ref a := ry
    obtain ⟨_, _, _, ob, h1, h2, _⟩ := (show ObjOk X.prog X.w H s.heap a (.tup xs) from I.hok a _ h)
    exact ⟨.type "tuple", h2 ▸ (PySem.W.Looks.ld h1).andThen .now, by unfold PySem.W.notFirst; rw [c.nt]; simp⟩
theorem op_eq_own (c : EqC X.K C f) (F : FnOk X.prog X.w X.K X.mg X.base CX k f fd ps sp) (hr : Room k X.A) (hb : Binds X.K fd ps []) (hx : Passes CX X E) : OpR X (compareOp .Eq) (rEqO C sp E false) := by
  intro pins s σ H x y v u Q I rx ry ⟨a, dx, fs, ex, ha, o, q⟩
  subst ex
  obtain rfl : v = Value.ref a := rx
  obtain ⟨mA, O, rr, _, _, _⟩ := ins_get I.hok ha
  obtain ⟨od, J, hl⟩ := O.look
  obtain ⟨m0, hF⟩ := I.fr
  obtain ⟨tb, lk, nf⟩ := oth_type I ry c o
  show wpAny _ _ (richCompare .Eq (.ref a) u) _ _ _
  refine cmp_K hr.units0 hF I.ok.mod.kin J lk nf c.eq c.fn (thn (run_sub F ⟨hr, rfl⟩ hb hx I (.cons (relR a) (.cons ry .nil)) q) fun r s' ⟨z, H', I', rz, b, ez, q'⟩ => ?_)
  subst ez
  obtain rfl : r = Value.bool b := rz
  exact ⟨_, H', I', relB b, q'⟩
theorem op_ne_own (c : EqC X.K C f) (F : FnOk X.prog X.w X.K X.mg X.base CX k f fd ps sp) (hr : Room (k + 1) X.A) (hb : Binds X.K fd ps []) (hx : Passes CX X E) : OpR X (compareOp .NotEq) (rEqO C sp E true) := by
  intro pins s σ H x y v u Q I rx ry ⟨a, dx, fs, ex, ha, o, q⟩
  subst ex
  obtain rfl : v = Value.ref a := rx
  obtain ⟨mA, O, rr, _, _, _⟩ := ins_get I.hok ha
  obtain ⟨od, J, hl⟩ := O.look
  obtain ⟨m0, hF⟩ := I.fr
  obtain ⟨tb, lk, nf⟩ := oth_type I ry c o
  show wpAny _ _ (richCompare .NotEq (.ref a) u) _ _ _
  refine ne_K (Room.units0 hr.in1) hr.units0 hF I.ok.mod.kin J lk nf c (thn (run_sub F (Sub.in1 ⟨hr, rfl⟩) hb hx I (.cons (relR a) (.cons ry .nil)) q) fun r s' ⟨z, H', I', rz, b, ez, q'⟩ => ?_)
  subst ez
  exact ⟨b, rz, _, H', I', relB (!b), q'⟩
end
end Tw

set_option Elab.async false
set_option linter.all false
set_option maxRecDepth 100000
set_option maxHeartbeats 4000000
namespace Tw
open PySem PySem.Spec PyProof.Rows L2
/-! enumerate(t), t a tuple -/
def enO (s : Shared) : Obj := { cls := .type "enumerate", data := .fields #[.none, .bool false, .ref s.heap.objs.size, rawInt 0, .none, .none] }
theorem enum_newT (t : Addr) (items : Array Value) :
    Meets (Builtin.«enumerate.__new__» ⟨[.type "enumerate", .ref t], []⟩) (fun _ R s => s.heap.IsTuple t items ∧
      R (.ok (.ret (.ref (s.heap.push (itTup t 0)).objs.size))) { s with heap := (s.heap.push (itTup t 0)).push (enO s) }) :=
  .of_wp fun prog w A R s h => by
    obtain ⟨hp, g, d, tk, os⟩ := s
    obtain ⟨h1, h⟩ := h
    have hsub := sub_enumerate
    have q1 : ∀ {A' : Around} {E : Value → Shared → Prop} {Q : Value → Shared → Prop}, Q (.ref hp.objs.size) ⟨hp.push (itTup t 0), g, d, tk, os⟩ → wpAny (model prog w) A' (pyIter (.ref t)) Q E ⟨hp, g, d, tk, os⟩ :=
      fun q => wpAny_pyIter_tuple (s := ⟨hp, g, d, tk, os⟩) h1 q
    wp_walk using q1
    refine wpAny_stack_any fun st => wpAny_pure ?_
    split
    · rename_i c _ _ _ _ _
      cases (c == Value.type "enumerate")
      · wp_walk using q1
        exact ⟨_, rfl, h⟩
      · wp_walk using q1
        exact ⟨_, rfl, h⟩
    · wp_walk using q1
      exact ⟨_, rfl, h⟩
section
variable {prog : Program} {w : World} {A : Around} {E : Value → Shared → Prop} {s : Shared}
theorem call_enumT {t : Addr} {items : Array Value} {Q : Value → Shared → Prop} (hT : s.heap.IsTuple t items)
    (h : ∀ h', IsEnum h' (s.heap.objs.size + 1) s.heap.objs.size 0 .none → h'.IsTupleIter s.heap.objs.size t 0 → h'.objs.size = s.heap.objs.size + 2 →
      (∀ b o, s.heap.get? b = some o → h'.get? b = some o) → Q (.ref (s.heap.objs.size + 1)) { s with heap := h' }) :
    wpAny (model prog w) A (call (.type "enumerate") [.ref t]) Q E s := by
  refine callType_new F.called_enumerate (by decide) (F.typeCall_enumerate_1 _) (F.newCall_enumerate_1 _) (fun obj => F.args_object_init_2 obj _) F.entry_enumerate_new (enum_newT t items) ⟨hT, ?_⟩
  have hz : (s.heap.push (itTup t 0)).objs.size = s.heap.objs.size + 1 := Heap.size_push ..
  show _ ∧ _
  rw [hz]
  have he : IsEnum ((s.heap.push (itTup t 0)).push (enO s)) (s.heap.objs.size + 1) s.heap.objs.size 0 .none := by
    have q := Heap.get?_push_size (s.heap.push (itTup t 0)) (o := enO s) rfl
    rw [hz] at q
    exact q
  have hi : ((s.heap.push (itTup t 0)).push (enO s)).IsTupleIter s.heap.objs.size t 0 := ⟨_, Heap.get?_push_of_some _ (Heap.get?_push_size _ rfl), rfl, rfl⟩
  exact ⟨⟨_, he, rfl⟩, h _ he hi (by rw [Heap.size_push, hz]) fun b o x => Heap.get?_push_of_some _ (Heap.get?_push_of_some _ x)⟩
end
def IteT (K : PySem.W.Frag) (a : Addr) : It :=
  ⟨fun i H => ∃ (xs : List V) (x : V), SqT K H a xs ∧ xs[i]? = some x, fun i H v H' => ∃ T x, v = .ref T ∧ H T = Option.none ∧ H' = upd H T (.tup [.int (i : Nat), x]) ∧ ∀ xs, SqT K H a xs → xs[i]? = some x, fun i H => ∃ xs : List V, SqT K H a xs ∧ xs.length = i⟩
theorem turn_enumT {P : Program} {w : World} {K : PySem.W.Frag} {elts : List Expr} {kk : Nat} {tpos : Pos} (a e it : Addr) :
    Turn P w K (.Tuple elts kk tpos) (IteT K a) [e, it] e (fun i h => (∃ old, IsEnum h e it ((i : Nat) : Int) old) ∧ h.IsTupleIter it a i ∧ e ≠ it) where
  mem := by simp
  obj := fun i h st b hb => by
    obtain ⟨⟨old, he⟩, ⟨o, ho, hc, hd⟩, _⟩ := st
    rcases (show b = e ∨ b = it by simpa using hb) with rfl | rfl
    · exact ⟨_, he, fun v q => nomatch q⟩
    · exact ⟨o, ho, fun v q => by rw [hd] at q; cases q⟩
  keep := fun i h h' st k => let ⟨⟨old, he⟩, hi, hne⟩ := st; ⟨⟨old, k e (by simp) _ he⟩, hi.at fun o q => k it (by simp) o q, hne⟩
  item := by
    intro X hP hw hK hc i pins s σ H E I hf st hg
    subst hP hw hK
    obtain ⟨⟨old, he⟩, hit, hne⟩ := st
    obtain ⟨xs, x, hq, hx⟩ := hg
    obtain ⟨its, rv, p, hz⟩ := I.tuple hq
    have hil : i < xs.length := (List.getElem?_eq_some_iff.mp hx).1
    have hlen := rv.length
    have hel : e < s.heap.objs.size := Heap.lt_size he
    have hitl : it < s.heap.objs.size := by obtain ⟨_, q, _⟩ := hit; exact Heap.lt_size q
    have hae : e ≠ a := fun z => by
      obtain ⟨oo, h1, h2, _⟩ := p
      rw [← z, he] at h1
      cases h1
      injection h2 with q
      exact absurd q (by decide)
    have hia : it ≠ a := fun z => by
      obtain ⟨oo, h1, h2, _⟩ := p
      obtain ⟨o2, h3, h4, _⟩ := hit
      rw [← z, h3] at h1
      cases h1
      rw [h4] at h2
      injection h2 with q
      exact absurd q (by decide)
    have D := Draws.tuple (prog := X.prog) (w := X.w) (A := X.A.in1) (I.ok.hd hc) it a hia.symm its.toArray
    refine wpAny_pyNext_enum_itemD D he ⟨hit, p⟩ (by rw [List.size_toArray]; omega) hne (by simp [hne, hae]) fun u h' tk hu ho hst hT hsz hk => ?_
    obtain ⟨u2, hu2, ru⟩ := rv.get hx
    obtain rfl : u = u2 := by
      rw [List.getElem?_toArray] at hu
      exact Option.some.inj (hu.symm.trans hu2)
    refine ⟨_, rfl, wpAny_letOwnedTupleGo_enum (s := { s with heap := h', toks := tk + 1 }) ho fun h'' he' sb => ?_⟩
    have hT2 : h''.get? s.heap.objs.size = some { cls := .type "tuple", data := .seq #[.int i tk, u] } := (sb.2 _ (Nat.ne_of_gt hel)).trans hT
    have new : ObjOk X.prog X.w (upd H s.heap.objs.size (.tup [.int (i : Nat), x])) h'' s.heap.objs.size (.tup [.int (i : Nat), x]) :=
      ⟨by show 2 ≤ sizeLine; decide, [.int i tk, u], .cons ⟨_, rfl⟩ (.cons ru .nil), ⟨_, hT2, rfl, _, rfl⟩⟩
    have I1 : Inv X pins σ (upd H s.heap.objs.size (.tup [.int (i : Nat), x])) { s with heap := h'', toks := tk + 1 } :=
      I.turnedNew (ch := [e, it]) (fun b ob hb q => (sb.2 b (fun z => hb (by simp [z]))).trans (hk b ob (fun z => hb (by simp [z])) (fun z => hb (by simp [z])) q)) hf (Nat.le_refl _) new
    refine ⟨.ref s.heap.objs.size, _, I1, rfl, ⟨_, x, rfl, I.hok.fresh (Nat.le_refl _), rfl, fun ys hy => by rw [I.tuple_inj hy hq]; exact hx⟩, ⟨⟨u, ?_⟩, hst.1.at fun o q => (sb.2 it (Ne.symm hne)).trans q, hne⟩, fun b hb => ?_⟩
    · rw [show ((i + 1 : Nat) : Int) = (i : Int) + 1 by omega]
      exact he'
    · have hb' : b < s.heap.objs.size := by
        rcases (show b = e ∨ b = it by simpa using hb) with rfl | rfl
        · exact hel
        · exact hitl
      rw [upd_ne (Nat.ne_of_lt hb')]
      exact (hf b hb).1
  done := by
    intro X hP hw hK hc i pins s σ H E I hf st hg
    subst hP hw hK
    obtain ⟨⟨old, he⟩, hit, hne⟩ := st
    obtain ⟨xs, hq, hx⟩ := hg
    obtain ⟨its, rv, p, hz⟩ := I.tuple hq
    obtain ⟨f0, f1, f2, f3, f4, f5⟩ := hf it (by simp)
    have hlen := rv.length
    have hae : e ≠ a := fun z => by
      obtain ⟨oo, h1, h2, _⟩ := p
      rw [← z, he] at h1
      cases h1
      injection h2 with q
      exact absurd q (by decide)
    have hia : it ≠ a := fun z => by
      obtain ⟨oo, h1, h2, _⟩ := p
      obtain ⟨o2, h3, h4, _⟩ := hit
      rw [← z, h3] at h1
      cases h1
      rw [h4] at h2
      injection h2 with q
      exact absurd q (by decide)
    have D := Draws.tuple (prog := X.prog) (w := X.w) (A := X.A.in1) (I.ok.hd hc) it a hia.symm its.toArray
    have en : its.toArray.size = i := by rw [List.size_toArray]; omega
    refine wpAny_pyNext_enum_endD D he (by rw [en]; exact ⟨hit, p⟩) fun h' eb => ⟨rfl, I.turned (t' := s.toks) (fun b o hb q => eb b o hb q) f0 f1 f3 f4 f5⟩
  self := fun A i s Q E st h => let ⟨⟨_, he⟩, _⟩ := st; wpAny_pyIter_enum he h
theorem walk_enumT {K : PySem.W.Frag} {a : Addr} {xs : List V} : Walk (IteT K a) xs.length (fun H => SqT K H a xs) (YPair (fun i => some (.int (i : Nat))) (fun i => xs[i]?)) := by
  refine ⟨fun i _ hi q => ⟨xs, xs[i], q, by simp [hi]⟩, fun _ q => ⟨xs, q, rfl⟩, fun i H v H' _ q y => ?_⟩
  obtain ⟨T, x, h1, h2, h3, h4⟩ := y
  exact ⟨T, .int (i : Nat), x, h1, h2, h3, rfl, h4 xs q⟩
/-- enumerate of a list or of a tuple -/
def iEnS (K : PySem.W.Frag) (ta : TA) : TI := fun σ H R => ta σ H fun vs H1 => ∃ a xs, vs = [.ref a] ∧ ((SqL K H1 a xs ∧ R (Ite K a) H1) ∨ (SqT K H1 a xs ∧ R (IteT K a) H1))
theorem pi_enS {X : Cx} {e : Expr} {ta : TA} {p pos tpos : Pos} {elts : List Expr} {kk : Nat} (hg : Gl X "enumerate") (hm : X.mg "enumerate" = Option.none) (ha : PA X [e] ta) (hs : starEach [e] X.env = [(false, eval e X.env)] := by rfl) :
    PI X (.Tuple elts kk tpos) (.Call (.Name "enumerate" p) [e] [] pos) (iEnS X.K ta) := by
  refine ⟨fun pins s σ H R I h => ?_⟩
  refine Call_ (ld_blt I hg hm boot_enumerate (PyProof.Rows.callWith_type1 (thn (ha.run pos pins s σ H _ I h) fun us s1 ⟨vs, H1, I1, r1, a, xs, ex, q1⟩ => ?_) hs rfl))
  subst ex
  obtain ⟨u, rfl, ru⟩ := r1.one
  obtain rfl : u = Value.ref a := ru
  have fr : ∀ b ∈ [s1.heap.objs.size + 1, s1.heap.objs.size], FpOk X pins H1 b := fun b hb => by
    have hle : s1.heap.objs.size ≤ b := by
      rcases (show b = s1.heap.objs.size + 1 ∨ b = s1.heap.objs.size by simpa using hb) with z | z <;> omega
    exact I1.fpOk hle (I1.hok.fresh hle)
  rcases q1 with ⟨hq, q⟩ | ⟨hq, q⟩
  · obtain ⟨its, rv, p', hz⟩ := I1.list hq
    exact call_enumerate_list p'.isList fun h' he hit hsz hk => wpAny_pyIter_enum he ⟨_, _, _, _, H1, rfl, I1.kept (t' := s1.toks) hk, turn_enum a (s1.heap.objs.size + 1) s1.heap.objs.size, ⟨⟨.none, he⟩, hit, Nat.succ_ne_self _⟩, fr, q⟩
  · obtain ⟨its, rv, p', hz⟩ := I1.tuple hq
    exact call_enumT p' fun h' he hit hsz hk => wpAny_pyIter_enum he ⟨_, _, _, _, H1, rfl, I1.kept (t' := s1.toks) hk, turn_enumT a (s1.heap.objs.size + 1) s1.heap.objs.size, ⟨⟨.none, he⟩, hit, Nat.succ_ne_self _⟩, fr, q⟩
end Tw

set_option Elab.async false
set_option linter.all false
set_option maxRecDepth 100000
set_option maxHeartbeats 2000000
/-! own rules: min(xs, key=lambda x: ys[x]), ys a name of the def -/
namespace Cl
open PySem PySem.Spec PyProof.Rows L2 LamX
section
variable {prog : Program} {w : World} {A : Around} {E : Value → Shared → Prop} {s : Shared}
/-- what the lambda's scope must say -/
structure LSc (scope : Scope) (x y : Str) : Prop where
  kind : scope.kind = .function
  co : scope.isCoroutine = false
  gen : scope.isGenerator = false
  nocell : ∀ z ∈ scope.names, z.2 ≠ .cell
  px : scope.names.lookup x = some .local
  fy : scope.names.lookup y = some .free
/-- lambda x: y[x], called with an int -/
theorem lam_ix {f l c' ck : Addr} {q x y : Str} {params : Arguments} {p1 p2 p3 : Pos} {scope : Scope} {cl : List (Str × Addr)} {pm ctv u : Value} {vs : List Value} {i : Int} {t : Tok} {Q : Value → Shared → Prop}
    (S : LSc scope x y) (hd : A.depth < recursionLimit) (hf : s.heap.get? f = some (PySem.W.kla_obj "<lambda>" q params (.Subscript (.Name y p1) (.Name x p2) p3) scope cl pm c' ctv))
    (hbind : ∀ v : Value, bindArgs (PySem.W.kla_fn "<lambda>" q params (.Subscript (.Name y p1) (.Name x p2) p3) scope cl pm (.ref c') ctv) ⟨[v], []⟩ = pure [(x, v)])
    (hcode : ∃ (oc : Obj) (us : Array Value) (tk : Tok), s.heap.get? c' = some oc ∧ oc.data = .fields us ∧ us[1]? = some (.str q tk)) (hlim : s.heap.NoLimit)
    (hck : cl.lookup y = some ck) (hcell : s.heap.IsCell ck (some (.ref l))) (hl : s.heap.IsList l vs.toArray) (h0 : 0 ≤ i) (h1 : i < 2 ^ 63) (hi : vs[i.toNat]? = some u)
    (hdx : (x == ("__debug__" : Str)) = false) (hdy : (y == ("__debug__" : Str)) = false) (hcy : (y == ("__classdict__" : Str)) = false)
    (h : ∀ h' tk, s.toks ≤ tk → (∀ b o, s.heap.get? b = some o → h'.get? b = some o) → Q u { s with heap := h', toks := tk }) : wpAny (model prog w) A (call (.ref f) [.int i t]) Q E s := by
  obtain ⟨oc, us, tq, hoc, hdc, hvc⟩ := hcode
  refine wpAny_call (PySem.W.kla_callFunE hd hf rfl S.co S.gen rfl ⟨c', oc, us, tq, rfl, hoc, hdc, hvc⟩ ?_)
  rw [hbind]
  refine wpAny_pure (wpAny_newFunctionEnv S.nocell (fun z hz => by rw [List.mem_singleton.mp hz]; exact S.px) (fun h₁ hns hsb => ⟨hlim.fresh _ hsb, ?_⟩) S.kind)
  have kp : ∀ b o, s.heap.get? b = some o → h₁.get? b = some o := fun b o e => hsb.extBut b o (Nat.ne_of_lt (Heap.lt_size e)) (Heap.get?_push_of_some _ e)
  refine PySem.W.kla_codeExpr ?_
  refine wpAny_Subscript_Name list_getitem_lookup ?_
  refine wpAny_Name (wpAny_loadName_free S.kind S.fy hck (hcell.keeps kp) ?_ hcy) hdy
  refine wpAny_Name (wpAny_loadName_local S.kind S.px hns (v := .int i t) ?_ ?_) hdx
  · simp [List.lookup]
  · have hl' : h₁.IsList l vs.toArray := hl.at fun o e => kp _ _ e
    refine ⟨hl'.typeIs, wpAny_getItem_list hl' h0 h1 (by simpa using hi) ?_⟩
    exact h h₁ _ (by show s.toks ≤ s.toks + _; omega) kp
/-- what a lambda x: y[x] is, and what it reads -/
structure LamAt (h : Heap) (f : Addr) (x y : Str) (q : Str) (params : Arguments) (p1 p2 p3 : Pos) (scope : Scope) (cl : List (Str × Addr)) (pm ctv : Value) (c' ck l : Addr) (us : List Value) : Prop where
  fn : h.get? f = some (PySem.W.kla_obj "<lambda>" q params (.Subscript (.Name y p1) (.Name x p2) p3) scope cl pm c' ctv)
  code : ∃ (oc : Obj) (us : Array Value) (tk : Tok), h.get? c' = some oc ∧ oc.data = .fields us ∧ us[1]? = some (.str q tk)
  lim : h.NoLimit
  hck : cl.lookup y = some ck
  cell : h.IsCell ck (some (.ref l))
  lst : h.IsList l us.toArray
theorem LamAt.keeps {h h' : Heap} {f : Addr} {x y : Str} {q : Str} {params : Arguments} {p1 p2 p3 : Pos} {scope : Scope} {cl : List (Str × Addr)} {pm ctv : Value} {c' ck l : Addr} {us : List Value}
    (L : LamAt h f x y q params p1 p2 p3 scope cl pm ctv c' ck l us) (k : ∀ b o, h.get? b = some o → h'.get? b = some o) : LamAt h' f x y q params p1 p2 p3 scope cl pm ctv c' ck l us :=
  ⟨k _ _ L.fn, let ⟨oc, us, tk, a, b, c⟩ := L.code; ⟨oc, us, tk, k _ _ a, b, c⟩, L.lim.keeps k, L.hck, L.cell.keeps k, L.lst.at fun o e => k _ _ e⟩
theorem min_lam {f a l c' ck : Addr} {q x y : Str} {params : Arguments} {p1 p2 p3 : Pos} {scope : Scope} {cl : List (Str × Addr)} {pm ctv : Value} {cs us : List Value} {ns : Nat → Int} {kf : Nat → Int} {Q : Value → Shared → Prop}
    (hh : A.handled = none) (S : LSc scope x y) (hd : A.depth < recursionLimit) (L : LamAt s.heap f x y q params p1 p2 p3 scope cl pm ctv c' ck l us)
    (hbind : ∀ v : Value, bindArgs (PySem.W.kla_fn "<lambda>" q params (.Subscript (.Name y p1) (.Name x p2) p3) scope cl pm (.ref c') ctv) ⟨[v], []⟩ = pure [(x, v)])
    (hdx : (x == ("__debug__" : Str)) = false) (hdy : (y == ("__debug__" : Str)) = false) (hcy : (y == ("__classdict__" : Str)) = false)
    (ht : s.heap.IsTuple a cs.toArray) (hc : ∀ i, i < cs.length → ∃ t, cs[i]? = some (.int (ns i) t)) (hne : 0 < cs.length)
    (hk : ∀ i, i < cs.length → 0 ≤ ns i ∧ ns i < 2 ^ 63 ∧ ∃ t, us[(ns i).toNat]? = some (.int (kf i) t))
    (h : ∀ v h' tk, cs[argBest (fun i j => decide (kf i < kf j)) (cs.length - 1)]? = some v → (∀ b o, s.heap.get? b = some o → h'.get? b = some o) → Q v { s with heap := h', toks := tk }) :
    wpAny (model prog w) A (call (.builtin "min") [.ref a] [(Str.ofString "key", .ref f)]) Q E s := by
  have hd1 : A.in1.depth < recursionLimit := hd
  refine call_min_walkK (PySem.W.iter_tupleW (A := A.in1) hh ht fun s₂ e2 W st hfp hfr kp2 => ?_)
  have sz2 : s.heap.objs.size < s₂.heap.objs.size := hfp _ List.mem_cons_self
  have old : ∀ {s' : Shared}, Moved [s₂.heap.objs.size, s.heap.objs.size] (fun a b => b = a) s₂ s' → ∀ b o, s.heap.get? b = some o → s'.heap.get? b = some o := fun {s'} m b o e => by
    have lt := Heap.lt_size e
    refine m.heap b o (fun hm => ?_) (kp2 b o e)
    rcases List.mem_cons.mp hm with z | hm
    · rw [z] at lt
      exact Nat.lt_irrefl _ (Nat.lt_trans lt sz2)
    · rw [List.mem_singleton.mp hm] at lt
      exact Nat.lt_irrefl _ lt
  have szc : cs.toArray.size = cs.length := by simp
  refine ⟨s.heap.objs.size, [s.heap.objs.size, a], [s.heap.objs.size], (fun a b => b = a), cs.toArray.size, _, _, fun s' => Moved [s₂.heap.objs.size, s.heap.objs.size] (fun a b => b = a) s₂ s', fun i k _ => ∃ t, k = .int (kf i) t, fun i j => decide (kf i < kf j), rfl, W, st, hfp, by rw [szc]; exact hne, ⟨?_, ?_, ?_, ?_⟩, Moved.refl fun _ => rfl, ?_⟩
  · exact fun s1 s' J m => J.trans (fun _ _ _ h1 h2 => h2.trans h1) m
  · exact fun i k s1 s' v _ => v
  · intro i v s1 o Q' E' hi hP J stI hS cont
    rw [szc] at hi
    obtain ⟨t, ec⟩ := hc i hi
    have ev : v = .int (ns i) t := by
      have hP' : cs[i]? = some v := by simpa using hP
      rw [ec] at hP'
      exact (Option.some.inj hP').symm
    subst ev
    obtain ⟨h0, h1, tk, eu⟩ := hk i hi
    have L1 := L.keeps (old J)
    refine lam_ix S hd1 L1.fn hbind L1.code L1.lim L1.hck L1.cell L1.lst h0 h1 eu hdx hdy hcy fun h' tk' hle kp => ?_
    exact cont _ _ (J.then_heap hle fun b o _ e => kp b o e) (W.frame _ s1 h' tk' stI hle fun b _ o e => kp b o e) (kp _ _ hS) ⟨_, rfl⟩ fun j k' z => z
  · intro i j ki kj s1 Q' E' J vi vj q
    exact CmpOf.ints_lt (prog := prog) (w := w) (A := A.in1) (P := fun i v => ∃ t, v = .int (kf i) t) kf (fun i v h => h) i j ki kj s1 Q' E' vi vj q
  · intro v s' hP J
    rw [szc] at hP
    have hP' : cs[argBest (fun i j => decide (kf i < kf j)) (cs.length - 1)]? = some v := by simpa using hP
    have e : s' = { s with heap := s'.heap, toks := s'.toks } := by
      obtain ⟨hp, g, d, tk, os⟩ := s'
      subst e2
      have h1 : g = s.gens := J.gens
      have h2 : d = s.drawn := J.drawn
      have h3 : os = s.os := J.os
      subst h1 h2 h3
      rfl
    rw [e]
    exact h v s'.heap s'.toks hP' (old J)
end
/-- the first of the least -/
def FirstLeast (kf : Nat → Int) (n j : Nat) : Prop := j < n ∧ (∀ i, i < n → kf j ≤ kf i) ∧ ∀ i, i < j → kf j < kf i
theorem best_is (kf : Nat → Int) : ∀ n, FirstLeast kf (n + 1) (argBest (fun i j => decide (kf i < kf j)) n)
  | 0 => ⟨Nat.zero_lt_one, fun i h => by rw [Nat.lt_one_iff.mp h]; exact Int.le_refl _, fun i h => nomatch h⟩
  | n + 1 => by
    obtain ⟨a, b, c⟩ := best_is kf n
    show FirstLeast kf (n + 2) (if decide (kf (n + 1) < kf (argBest (fun i j => decide (kf i < kf j)) n)) = true then n + 1 else argBest (fun i j => decide (kf i < kf j)) n)
    by_cases h : kf (n + 1) < kf (argBest (fun i j => decide (kf i < kf j)) n)
    · rw [if_pos (decide_eq_true h)]
      refine ⟨by omega, fun i hi => ?_, fun i hi => ?_⟩
      · by_cases e : i = n + 1
        · rw [e]
          exact Int.le_refl _
        · have := b i (by omega)
          omega
      · have := b i (by omega)
        omega
    · rw [if_neg (fun z => h (of_decide_eq_true z))]
      refine ⟨by omega, fun i hi => ?_, c⟩
      by_cases e : i = n + 1
      · rw [e]
        omega
      · exact b i (by omega)
theorem first_one {kf : Nat → Int} {n i j : Nat} (a : FirstLeast kf n i) (b : FirstLeast kf n j) : i = j := by
  rcases Nat.lt_trichotomy i j with h | h | h
  · have h1 := b.2.2 i h
    have h2 := a.2.1 j b.1
    omega
  · exact h
  · have h1 := a.2.2 j h
    have h2 := b.2.1 i a.1
    omega
/-- the item of ns whose key in ks is the least, the first such one -/
def LeastAt (ks ns : List Int) (m : Int) : Prop := ∃ j, FirstLeast (fun i => ks.getD (ns.getD i 0).toNat 0) ns.length j ∧ m = ns.getD j 0
theorem _root_.LamX.ExtN.rd {H H' : Hp} (e : ExtN H H') {a : Addr} {u : HO} (n : ∀ ps, u ≠ .tbl ps) (h : Rd H a u) : Rd H' a u := by
  rcases h with h | ⟨o, h⟩
  · exact .inl (e _ _ h n)
  · exact .inr ⟨o, e _ _ h fun ps z => nomatch z⟩
theorem _root_.LamX.ExtN.sqL {K : PySem.W.Frag} {H H' : Hp} (e : ExtN H H') {a : Addr} {xs : List V} (h : SqL K H a xs) : SqL K H' a xs := h.elim (fun h => .inl (e.rd (fun ps z => nomatch z) h)) .inr
theorem _root_.LamX.ExtN.sqT {K : PySem.W.Frag} {H H' : Hp} (e : ExtN H H') {a : Addr} {xs : List V} (h : SqT K H a xs) : SqT K H' a xs := h.elim (fun h => .inl (e.rd (fun ps z => nomatch z) h)) .inr
section
variable {X : Cx}
def tMinLam (K : PySem.W.Frag) (T : List (Addr × Str)) (j : Nat) (te : TE) : TE := fun σ H Q => te σ H fun v H1 => ∃ (a l : Addr) (ns ks : List Int), v = .ref a ∧ SqT K H1 a (ns.map V.int) ∧ σ[j]? = some (some (.ref l)) ∧ SqL K H1 l (ks.map V.int) ∧ 0 < ns.length ∧ (∀ n ∈ ns, 0 ≤ n ∧ n < ks.length) ∧
  Tabs T H1 ∧ ∀ (m : Int) (H2 : Hp), ExtN H1 H2 → Tabs T H2 → LeastAt ks ns m → Q (.int m) H2
/-- min(e, key=lambda x: y[x]), y a name of the def that it shares with the lambda -/
theorem pe_minlam {T : List (Addr × Str)} {c P : Addr} {p p1 p2 p3 lpos kpos pos : Pos} {e : Expr} {te : TE} {x y : Str} {j : Nat} {params : Arguments} {scope : Scope}
    (hg : Gl X "min") (hm : X.mg "min" = none) (he : PE X e te) (hd : X.A.depth < recursionLimit) (hh : X.A.handled = none) (TB : TabB X.base X.mg c P) (hcode : X.env.code = .ref c) (hmT : (P, X.env.qual ++ "<lambda>") ∈ T)
    (hu : ∀ q ∈ T, q.1 = P → q.2 = X.env.qual ++ "<lambda>") (S : LSc scope x y) (hfy : X.env.scope.names.lookup y = some .cell) (hfr : ∀ z ∈ scope.names, z.2 = .free → z.1 = y) (hN : X.N[j]? = some y) (hdef : defaultsOf params X.env = ([], []))
    (hbind : ∀ (q : Str) (cl : List (Str × Addr)) (pm cv ctv v : Value), bindArgs (PySem.W.kla_fn "<lambda>" q params (.Subscript (.Name y p1) (.Name x p2) p3) scope cl pm cv ctv) ⟨[v], []⟩ = pure [(x, v)])
    (hs : starEach [e] X.env = (false, eval e X.env) :: starEach [] X.env := by rfl)
    (hdx : (x == ("__debug__" : Str)) = false := by decide) (hdy : (y == ("__debug__" : Str)) = false := by decide) (hcy : (y == ("__classdict__" : Str)) = false := by decide) :
    PE X (.Call (.Name "min" p) [e] [⟨some "key", .Lambda params (.Subscript (.Name y p1) (.Name x p2) p3) scope lpos, kpos⟩] pos) (tMinLam X.K T j te) := by
  refine ⟨fun pins s σ H Q I h => ?_⟩
  have hfree : ∀ z ∈ scope.names, z.2 = .free → ∃ c, X.env.cells.lookup z.1 = some c := fun z hz e => I.ok.has _ (.inl (by rw [hfr z hz e]; exact hfy))
  refine wpAny_Call_Name_kw (ld_blt I hg hm (u := .builtin "min") (by decide +kernel) ?_)
  refine PyProof.Rows.callWith_kw ?_ (by rw [hs]; rfl) (by rw [hs]; rfl) (by rfl) (by rfl)
  rw [hs]
  show wpAny _ _ (spliced ((false, eval e X.env) :: backTo pos (starEach [] X.env))) _ _ s
  refine Calls.spliced_cons (thn (he.run pins s σ H _ I h) fun u s1 ⟨v, H1, I1, r1, a, l, ns, ks, ev, ht, hσ, hl, hne, hin, hT, q⟩ => Calls.spliced_nil ?_)
  subst ev
  obtain rfl : u = Value.ref a := r1
  show wpAny _ _ (evalAll ((do let v ← eval (.Lambda params (.Subscript (.Name y p1) (.Name x p2) p3) scope lpos) X.env; standAt pos; pure v) :: [])) _ _ s1
  refine wpAny_evalAll_cons (wpAny_bind (lam_make2 I1 TB hcode hmT hu hT hdef hfree fun f c' pm ctv H2 s2 I2 eN T2 hf hfn hff hco => wpAny_bind (wpAny_standAt (wpAny_pure (wpAny_evalAll_nil ?_)))))
  show wpAny _ _ (call (.builtin "min") [.ref a] [(Str.ofString "key", .ref f)]) _ _ s2
  obtain ⟨cs, rc, tc, _⟩ := I2.tuple (eN.sqT ht)
  obtain ⟨us, ru, pl, hz2⟩ := I2.list (eN.sqL hl)
  obtain ⟨m, _, look⟩ := I2.loc
  obtain ⟨u0, r0, lk⟩ := look j y _ hN hσ (.inr (.inl hfy))
  obtain rfl : u0 = Value.ref l := r0
  have cellAt : ∃ ck, X.env.cells.lookup y = some ck ∧ s2.heap.IsCell ck (some (.ref l)) := by
    rcases lk with ⟨k, _⟩ | ⟨_, ck, e1, e2⟩
    · rw [show X.env.kindOf y = some .cell from hfy] at k
      cases k
    · exact ⟨ck, e1, e2⟩
  obtain ⟨ck, eck, hcell⟩ := cellAt
  obtain ⟨⟨oc, vs, tk, o1, o2, o3⟩, _, _⟩ := I2.hok c' _ hco
  have lc : cs.length = ns.length := by rw [← rc.length, List.length_map]
  have lu : us.length = ks.length := by rw [← ru.length, List.length_map]
  have nsAt : ∀ i, i < ns.length → ∃ t, cs[i]? = some (.int (ns.getD i 0) t) := fun i hi => by
    obtain ⟨z, ez, rz⟩ := rc.get (i := i) (x := V.int (ns.getD i 0)) (by rw [List.getElem?_map, List.getD_eq_getElem?_getD, List.getElem?_eq_getElem hi]; rfl)
    obtain ⟨t, rfl⟩ := rz
    exact ⟨t, ez⟩
  refine min_lam (ns := fun i => ns.getD i 0) (kf := fun i => ks.getD (ns.getD i 0).toNat 0) hh S hd ⟨hf, ⟨oc, vs, tk, o1, o2, o3⟩, I2.nolimit, NdefX.clo_has hfree (PySem.mem_of_lookup S.fy) eck, hcell, pl.isList⟩ (fun v => hbind _ _ _ _ _ v) hdx hdy hcy tc (fun i hi => nsAt i (by omega)) (by omega)
    (fun i hi => ?_) fun v h' tk2 hv kp => ?_
  · have hi' : i < ns.length := by omega
    have hmem : ns.getD i 0 ∈ ns := by rw [List.getD_eq_getElem?_getD, List.getElem?_eq_getElem hi']; exact List.getElem_mem hi'
    obtain ⟨b0, b1⟩ := hin _ hmem
    have hs63 := line63
    rw [List.length_map] at hz2
    have hk' : (ns.getD i 0).toNat < ks.length := by omega
    obtain ⟨z, ez, rz⟩ := ru.get (i := (ns.getD i 0).toNat) (x := V.int (ks.getD (ns.getD i 0).toNat 0)) (by rw [List.getElem?_map, List.getD_eq_getElem?_getD (l := ks), List.getElem?_eq_getElem hk']; rfl)
    obtain ⟨t, rfl⟩ := rz
    exact ⟨b0, by omega, t, ez⟩
  · obtain ⟨n, en⟩ : ∃ n, ns.length = n + 1 := ⟨ns.length - 1, by omega⟩
    have fl := best_is (fun i => ks.getD (ns.getD i 0).toNat 0) n
    rw [← en] at fl
    rw [lc, show ns.length - 1 = n by omega] at hv
    obtain ⟨t, et⟩ := nsAt _ fl.1
    rw [et] at hv
    cases hv
    exact ⟨.int _, H2, I2.kept kp, ⟨t, rfl⟩, q _ H2 eN T2 ⟨_, fl, rfl⟩⟩
end
end Cl

set_option Elab.async false
set_option linter.all false
set_option maxRecDepth 100000
set_option maxHeartbeats 2000000
/-! own rule: list(o), o an instance with an __iter__ over its tuple and a __len__ -/
namespace Tw
open PySem PySem.Spec PyProof.Rows L2
def rListO (K : PySem.W.Frag) (C : Addr) (fld : Str) (sp : Sp) (E : XK) : List V → Hp → VK → Prop := fun xs H Q => ∃ (a dx : Addr) (fs : List (Str × V)) (t : Addr) (zs : List V), xs = [.ref a] ∧ H a = some (.ins C dx fs) ∧ fs.lookup fld = some (.ref t) ∧ SqT K H t zs ∧ zs.length ≤ 900 ∧
  sp [.ref a] H (fun v H' => ∃ n : Nat, v = .int n ∧ n < 1000 ∧ H' = H) E ∧ ∀ q, H q = none → Q (.ref q) (upd H q (.lst zs))
theorem ty_ne {a b : String} (h : Value.type a = Value.type b) (n : decide (a = b) = false) : False := by
  injection h with h
  exact of_decide_eq_false n h
theorem if_yes {α : Type} {M : Model} {A : Around} {E : Value → Shared → Prop} {s : Shared} {c : Bool} {a b : Sem α} {Q : α → Shared → Prop} (hc : c = true) (h : wpAny M A a Q E s) : wpAny M A (if c = true then a else b) Q E s := by
  rw [hc, if_pos rfl]
  exact h
section
variable {X : Cx} {k : Nat} {f : Addr} {fd : FuncData} {ps : List Str} {sp : Sp} {A1 : Around} {pins : List (Addr × Obj)} {σ : L2.St} {H : Hp} {s : Shared} {Q : VK}
/-- a def that raises nothing, called within a built-in -/
theorem run_sub0 {us : List Value} {vs : List V} {R : Value → Shared → Prop} (F : FnOk X.prog X.w X.K X.mg X.base CX0 k f fd ps sp) (sb : Sub X k A1) (hb : L2.Binds X.K fd ps []) (I : Inv X pins σ H s) (r : Vals vs us) (h : sp vs H Q E0) :
    wpAny (model X.prog X.w) A1 (call (.ref f) us) (EP X pins σ Q) R s := by
  have hl : us.length = ps.length := by rw [← r.length]; exact F.len _ _ _ _ h
  have hb1 : BindsTo s fd ⟨us, []⟩ (ps.zip us) := by
    have z := hb s us I.kIn (by rw [List.append_nil]; exact hl)
    rw [List.append_nil] at z
    exact z
  refine wpAny_call (codeAny_mono (F.run A1 X.stack s H ⟨us, []⟩ us vs Q E0 sb.room (Sub.env0 sb I) hb1 r h) fun z s' hq => ?_)
  match z, hq with
  | .error e, hq => exact False.elim hq
  | .ok (.ret u), hq => exact I.after hq
  | .ok .next, hq => exact False.elim hq
  | .ok .brk, hq => exact False.elim hq
  | .ok .cont, hq => exact False.elim hq
end
section
variable {X : Cx} {kI k : Nat} {fi fl C : Addr} {fdI fdL : FuncData} {psL : List Str} {spL : Sp} {fld : Str}
theorem call_listO (hdI : Dn X.K C "__iter__" fi) (FI : FnIt X.prog X.w X.K X.mg X.base k fi fdI ["self"] (spIter X.K C fld)) (bI : L2.Binds X.K fdI ["self"] [])
    (hdL : Dn X.K C "__len__" fl) (FL : FnOk X.prog X.w X.K X.mg X.base CX0 k fl fdL psL spL) (bL : L2.Binds X.K fdL psL []) (hr : Room (k + 3) X.A) : CallR X (.type "list") (rListO X.K C fld spL E0) := by
  intro pins s σ H xs us Q I rv h
  obtain ⟨a, dx, fs, t, zs, rfl, ha, hf, ht, hz, hlen, q⟩ := h
  obtain ⟨u, rfl, ru⟩ := rv.one
  cases ru
  have sb1 : Sub X (k + 1) X.A.in1.in1 := Sub.in1 (Sub.in1 (⟨hr, rfl⟩ : Sub X (k + 3) X.A))
  have sb : Sub X k X.A.in1.in1 := sb1.mono (Nat.le_succ k)
  refine callType_codes (Q₁ := fun obj s₁ => obj = .ref s.heap.objs.size ∧ s₁ = { s with heap := s.heap.push { cls := .type "list", data := .seq #[] } }) PySem.F.called_list (PySem.F.typeCall_list_1 _) PySem.F.entry_list_init
    (code_list_new _ ⟨rfl, rfl⟩) fun obj s₁ h₁ => ?_
  obtain ⟨rfl, rfl⟩ := h₁
  have hS : (s.heap.push { cls := .type "list", data := .seq #[] }).get? s.heap.objs.size = some { cls := .type "list", data := .seq #[] } := Heap.get?_push_size _ rfl
  refine ⟨⟨_, hS, rfl⟩, PySem.F.args_list_init_2 _ _, ?_⟩
  have nS : H s.heap.objs.size = none := I.hok.fresh (Nat.le_refl _)
  have fS : FpOk X pins H s.heap.objs.size := I.fpOk (Nat.le_refl _) nS
  have I1 : Inv X pins σ H { s with heap := s.heap.push { cls := .type "list", data := .seq #[] } } := I.kept (t' := s.toks) fun b u e => Heap.get?_push_of_some _ e
  show wpAny _ _ (do let old ← Builtin.List.listItems (.ref s.heap.objs.size); Builtin.List.listUpdate (.ref s.heap.objs.size) (fun _ => #[]); letGo old.toList.reverse; Builtin.List.listExtendWith (.ref s.heap.objs.size) (.ref a) .none) _ _ _
  refine wpAny_bind ?_
  unfold Builtin.List.listItems
  refine wpAny_bind (wpAny_seqItems hS rfl (wpAny_pure ?_))
  show wpAny _ _ (updateSeq s.heap.objs.size (fun _ => #[]) >>= fun _ => letGo (#[] : Array Value).toList.reverse >>= fun _ => Builtin.List.listExtendWith (.ref s.heap.objs.size) (.ref a) .none) _ _ _
  refine wpAny_bind (wpAny_updateSeq hS rfl ?_)
  have hS2 := Heap.get?_update_self (h := s.heap.push { cls := .type "list", data := .seq #[] }) (f := Obj.mapSeq fun _ => #[]) hS rfl
  have I2 := I1.turnedL (h' := (s.heap.push { cls := .type "list", data := .seq #[] }).update s.heap.objs.size (Obj.mapSeq fun _ => #[])) (t' := s.toks) (ch := [s.heap.objs.size]) (fun b o hb e => (Heap.get?_update_other _ _ (fun z => hb (by simp [z]))).trans e) (fun b hb => by rw [List.mem_singleton.mp hb]; exact fS)
  refine wpAny_bind (wpAny_letGo ?_)
  generalize hSa : s.heap.objs.size = S at *
  generalize hh2 : (s.heap.push { cls := .type "list", data := .seq #[] }).update S (Obj.mapSeq fun _ => #[]) = h2 at *
  have szS : S < h2.objs.size := Heap.lt_size hS2
  obtain ⟨mA, O, rr, _, _, _⟩ := ins_get I2.hok ha
  obtain ⟨od, J, hl⟩ := O.look
  obtain ⟨m0, hF⟩ := I2.fr
  have hne : S ≠ a := fun z => by rw [← z] at ha; rw [nS] at ha; cases ha
  have h1 : Builtin.List.listSameRef (.ref S) (.ref a) = false := by simp [Builtin.List.listSameRef, hne]
  unfold Builtin.List.listExtendWith
  refine wpAny_bind (J.type.here ?_)
  have n2 : (Value.ref C == Value.type "list") = false := rfl
  have n3 : (Value.ref C == Value.type "tuple") = false := rfl
  simp only [h1, n2, n3, Bool.or_false, Bool.false_eq_true, if_false]
  have I2p := I2.pinned (fp := [S]) (fun b hb => by rw [List.mem_singleton.mp hb]; exact fS) (fun b hb => by rw [List.mem_singleton.mp hb]; exact ⟨_, hS2, fun v z => nomatch z⟩)
  refine wpAny_bind (PySem.W.owit_iter hF I2.ok.mod.kin J hdI.at_ hdI.fn (thn (run_iter FI sb bI I2p ha hf ht) fun r s3 ⟨it, er, hn, h0, I3⟩ => ?_))
  subst er
  have e2 : upd H it (ItT t it 0) it = some (ItT t it 0) := upd_same
  have g : s3.heap.get? it = some (itTup t 0) := (I3.hok it _ e2).1
  have hS3 := (I3.pin (S, _) (List.mem_append_right _ (List.mem_append_right _ (mem_pinsAt (List.mem_singleton.mpr rfl) hS2)))).1
  have hTy : s3.TypeIs (.ref it) "tuple_iterator" := ⟨_, g, rfl⟩
  have fIt := ItX.inv_fp I3 e2 (Nat.le_trans I2.sz hn)
  have I4 := ItX.inv_drop I3 e2
  rw [ItX.dropH_upd h0] at I4 fIt
  unfold PySem.W.OwitIt
  refine wpAny_specialOf (name := Str.ofString "__next__") hTy PySem.F.slot_tuple_iterator_next.lookup ?_
  have I5 := I4.pinned (fp := [it]) (fun b hb => by rw [List.mem_singleton.mp hb]; exact fIt) (fun b hb => by rw [List.mem_singleton.mp hb]; exact ⟨_, g, fun v z => nomatch z⟩)
  show wpAny _ X.A.in1.in1 (holding [.ref it] (Builtin.List.listLengthHint (.ref a)) >>= _) _ _ s3
  obtain ⟨mA5, O5, rr5, _, _, _⟩ := ins_get I5.hok ha
  obtain ⟨od5, J5, hl5⟩ := O5.look
  obtain ⟨m5, hF5⟩ := I5.fr
  refine wpAny_bind (wpAny_holding ?_)
  have lenOk : ∀ {R : Value → Shared → Prop}, wpAny (model X.prog X.w) X.A.in1.in1 (call (.builtin "len") [.ref a]) (fun r s' => ∃ (n : Nat) (tk : Tok), r = .int n tk ∧ n < 1000 ∧ Inv X (pins ++ pinsAt [S] h2 ++ pinsAt [it] s3.heap) σ H s') R s3 := by
    intro R
    refine PySem.W.len_K hF5 I5.ok.mod.kin J5 hdL.at_ hdL.fn (thn (run_sub0 FL (Sub.in1 (Sub.mono sb1 (Nat.le_refl _))) bL I5 (.cons (relR a) .nil) hlen) fun r s' ⟨z, H', I', rz, n, ez, hn, eH⟩ => ?_)
    subst ez
    rw [eH] at I'
    obtain ⟨tk, rfl⟩ := rz
    exact ⟨⟨by omega, by omega⟩, n, _, rfl, hn, I'.tok _⟩
  unfold Builtin.List.listLengthHint
  refine wpAny_bind (wpAny_bind (J5.type.here ((PySem.W.looks_findIn I5.kIn hdL.at_).here ?_)))
  refine PySem.W.KFB.if_not rfl ?_
  refine if_yes rfl ?_
  refine wpAny_bind (wpAny_rule ?_)
  refine wpAny_bind (wpAny_attempt (thn lenOk fun r s6 ⟨n, tk, er, hn6, I6⟩ => ?_))
  subst er
  refine wpAny_bind (wpAny_of_eq (a := some ((n : Nat) : Int)) (by rfl) ?_)
  refine PySem.W.KFB.if_not (by unfold Builtin.List.listTooLong; exact decide_eq_false (by rw [sizeLine_eq, Int.toNat_natCast]; omega)) ?_
  refine wpAny_pure ?_
  -- the loop
  have I7 : Inv X pins σ H s6 := I6.unpinned.unpinned
  have hS6 := (I6.pin (S, _) (List.mem_append_right _ (List.mem_append_left _ (List.mem_append_right _ (mem_pinsAt (List.mem_singleton.mpr rfl) hS2))))).1
  have g6 := (I6.pin (it, _) (List.mem_append_right _ (List.mem_append_right _ (mem_pinsAt (List.mem_singleton.mpr rfl) g)))).1
  have fIt2 : FpOk X pins H it := ⟨fIt.1, fIt.2.1, fIt.2.2.1, fIt.2.2.2.1, fIt.2.2.2.2.1, fun p hp => fIt.2.2.2.2.2 p ((List.mem_append.mp hp).elim (fun z => List.mem_append_left _ z) fun z => List.mem_append_right _ (List.mem_append_left _ z))⟩
  have Sne' : S ≠ it := fun z => by
    rw [z, g6] at hS6
    exact ty_ne (show Value.type "tuple_iterator" = Value.type "list" from congrArg Obj.cls (Option.some.inj hS6)) (by decide +kernel)
  have loop : ∀ (s7 : Shared) (c : Nat), Inv X pins σ H s7 → s7.heap.get? S = some { cls := .type "list", data := .seq #[] c } → s7.heap.get? it = some (itTup t 0) →
      codeAny (model X.prog X.w) X.A.in1 (.builtin "list.extend.loop" ⟨[.ref S, .ref it, .none], []⟩) (wants (fun r s₂ => r = .none ∧ EP X pins σ Q (.ref S) s₂) X.xe) s7 := by
    intro s7 c J7 hS7 g7
    obtain ⟨its, rz, pl, hz2⟩ := J7.tuple ht
    have tne : t ≠ it := fun z => by
      obtain ⟨o, e1, e2, _⟩ := pl
      rw [z, g7] at e1
      rw [← Option.some.inj e1] at e2
      exact ty_ne (show Value.type "tuple_iterator" = Value.type "tuple" from e2) (by decide +kernel)
    have Sne : S ≠ it := fun z => by
      rw [z, g7] at hS7
      exact ty_ne (show Value.type "tuple_iterator" = Value.type "list" from congrArg Obj.cls (Option.some.inj hS7)) (by decide +kernel)
    have St : S ≠ t := fun z => by
      obtain ⟨o, e1, e2, _⟩ := pl
      rw [← z, hS7] at e1
      rw [← Option.some.inj e1] at e2
      exact ty_ne (show Value.type "list" = Value.type "tuple" from e2) (by decide +kernel)
    have li : its.length = zs.length := rz.length.symm
    have W := (PySem.Walks.tuple (prog := X.prog) (w := X.w) (A := X.A.in1.in1) sb1.room.hd it t tne its.toArray).toS
    refine PySem.codeAny_extend_loopS (A := X.A.in1) W (by rw [List.size_toArray, sizeLine_eq]; omega) S (fun z => ?_) .none _ 0 s7 #[] c rfl (Nat.zero_le _) ⟨⟨_, g7, rfl, rfl⟩, pl⟩ hS7 (PySem.ItemsOf.nil _) fun s8 acc c8 m hS8 hit => ?_
    · rcases List.mem_cons.mp z with z | z
      · exact Sne z
      · exact St (List.mem_singleton.mp z)
    have eacc : acc = its.toArray := by
      refine Array.ext_getElem? fun j => ?_
      by_cases hj : j < acc.size
      · rw [Array.getElem?_eq_getElem hj]
        exact (hit.2 j _ (Array.getElem?_eq_getElem hj)).symm
      · rw [Array.getElem?_eq_none (by omega), Array.getElem?_eq_none (by rw [← hit.1]; omega)]
    subst eacc
    have J8 := J7.turnedL (h' := s8.heap) (t' := s8.toks) (ch := [S, it]) (fun b o hb e => m.heap b o hb e) (fun b hb => by
      rcases List.mem_cons.mp hb with z | z
      · rw [z]; exact fS
      · rw [List.mem_singleton.mp z]; exact fIt2)
    have J9 := J8.take (h' := s8.heap) (t' := s8.toks) (it := S) (o := .lst zs) (fun _ _ _ e => e) fS ⟨by rw [sizeLine_eq]; omega, its, c8, rz, hS8⟩
    have e8 : s8 = { s7 with heap := s8.heap, toks := s8.toks } := Moved.eq_with m
    rw [e8]
    exact ⟨rfl, .ref S, _, J9, rfl, q S nS⟩
  refine wpAny_ite_split (fun _ => ?_) (fun _ => wpAny_pure ⟨plainId_quiet PySem.F.plain_extend_loop _, loop s6 _ I7 hS6 g6⟩)
  refine wpAny_bind (wpAny_rule ?_)
  refine wpAny_bind ?_
  show wpAny _ _ (updateSeq S (·.push .none) >>= fun _ => updateSeq S (·.pop)) _ _ _
  refine wpAny_bind (wpAny_updateSeq hS6 rfl ?_)
  have e9 := Heap.get?_update_self (h := s6.heap) (f := Obj.mapSeq (·.push Value.none)) hS6 rfl
  refine wpAny_updateSeq e9 rfl ?_ (by show 1 ≤ sizeLine; rw [sizeLine_eq]; decide) (by show 0 ≤ sizeLine + 1; exact Nat.zero_le _)
  have e10 := Heap.get?_update_self (h := s6.heap.update S (Obj.mapSeq (·.push Value.none))) (f := Obj.mapSeq (·.pop)) e9 rfl
  have J := I7.turnedL (h' := (s6.heap.update S (Obj.mapSeq (·.push Value.none))).update S (Obj.mapSeq (·.pop))) (t' := s6.toks) (ch := [S]) (fun b o hb e => (Heap.get?_update_other _ _ (fun z => hb (by simp [z]))).trans ((Heap.get?_update_other _ _ (fun z => hb (by simp [z]))).trans e)) (fun b hb => by rw [List.mem_singleton.mp hb]; exact fS)
  refine wpAny_pure ⟨plainId_quiet PySem.F.plain_extend_loop _, loop _ _ J e10 ?_⟩
  exact (Heap.get?_update_other _ _ Sne').trans ((Heap.get?_update_other _ _ Sne').trans g6)
end
end Tw

set_option Elab.async false
set_option linter.all false
set_option maxRecDepth 100000
set_option maxHeartbeats 2000000
/-! own rule: sorted(t), t a tuple of whole numbers -/
namespace Tw
open PySem PySem.Spec PyProof.Rows L2
section
variable {prog : Program} {w : World} {A : Around} {E : Value → Shared → Prop} {s : Shared}
/-- a tuple's items, gathered: they are met as a list's are -/
theorem gather_tup {t : Addr} {vs : List Value} {Q : List Value → Shared → Prop} (ht : s.heap.IsTuple t vs.toArray)
    (h : Q vs { s with heap := (s.heap.push (seqObj "list" #[] 0)).update s.heap.objs.size (Obj.mapSeq (· ++ vs.toArray)) }) (hz : vs.length ≤ sizeLine) :
    wpAny (model prog w) A (collect (.ref t)) Q E s := by
  obtain ⟨o, ho, hc, n, hd⟩ := ht
  unfold collect
  refine wpAny_bind (wpAny_runValue (codeAny_builtin entry_proto_collect' ?_))
  show wpAny _ _ (do again (.builtin "list.__iadd__" ⟨[← newList [], .ref t], []⟩)) _ _ s
  refine wpAny_bind (wpAny_newList (wpAny_pure ⟨Code.quiet_builtin _ (by decide +kernel), codeAny_builtin entry_list_iadd' ?_⟩))
  show wpAny _ _ (Builtin.List.listExtendWith (.ref s.heap.objs.size) (.ref t) (.ref s.heap.objs.size)) _ _ { s with heap := s.heap.push (seqObj "list" #[] 0) }
  have ho2 : (s.heap.push (seqObj "list" #[] 0)).get? t = some o := Heap.get?_push_of_some _ ho
  unfold Builtin.List.listExtendWith
  refine wpAny_bind (wpAny_typeOf (T := "tuple") ⟨o, ho2, hc⟩ ?_)
  have tt : (Value.type "tuple" == Value.type "tuple") = true := by rfl
  rw [if_pos (by rw [tt]; simp)]
  refine wpAny_bind (listItems_at ho2 hd ?_)
  refine wpAny_bind (listItems_at (xs := #[]) (n := 0) (Heap.get?_push_size _ rfl) rfl ?_)
  rw [if_neg (by simp)]
  refine wpAny_bind (listUpdate_at (xs := #[]) (n := 0) (Heap.get?_push_size _ rfl) rfl ?_ (Nat.zero_le _) (by show (#[] ++ vs.toArray).size ≤ sizeLine + 1; simp only [Array.size_append, List.size_toArray, List.length_nil]; omega))
  refine wpAny_pure ?_
  refine wpAny_bind (wpAny_load (get?_update_seq (Heap.get?_push_size _ rfl) _) ?_)
  show wpAny _ _ (pure ((#[] : Array Value) ++ vs.toArray).toList) Q E _
  rw [show ((#[] : Array Value) ++ vs.toArray).toList = vs by simp]
  exact wpAny_pure h
end
def rSortedTu (K : PySem.W.Frag) : List V → Hp → VK → Prop := fun vs H Q => ∃ (a : Addr) (ns : List Int), vs = [V.ref a] ∧ SqT K H a (ns.map V.int) ∧
  ∀ (ns' : List Int) (p : Addr), ns'.Perm ns → ns'.Pairwise (· ≤ ·) → H p = none → Q (.ref p) (upd H p (.lst (ns'.map V.int)))
section
variable {X : Cx}
theorem cr_sortedTu : CallR X (.builtin "sorted") (rSortedTu X.K) := by
  intro pins s σ H vs us Q I r h
  obtain ⟨a, ns, rfl, hs, q⟩ := h
  obtain ⟨its, rv, hl, hz⟩ := I.tuple hs
  rw [Vals.ref1 r]
  have hi := rv.ints
  have hzi : its.length ≤ sizeLine := by rw [← rv.length]; exact hz
  refine Calls.call_function_entry kind_sorted plain_sorted entry_sorted (args_sorted1 _) ?_
  unfold Builtin.«sorted»
  refine wpAny_bind (m := checkCount "sorted" 1 1 _) (wpAny_pure ?_)
  refine wpAny_bind (gather_tup hl ?_ hzi)
  refine wpAny_bind (wpAny_newList ?_ hzi)
  have hsz : ((s.heap.push (seqObj "list" #[] 0)).update s.heap.objs.size (Obj.mapSeq (· ++ its.toArray))).objs.size = s.heap.objs.size + 1 := by
    rw [Heap.size_update, size_push']
  have hoL : (((s.heap.push (seqObj "list" #[] 0)).update s.heap.objs.size (Obj.mapSeq (· ++ its.toArray))).push (seqObj "list" its.toArray 0)).get? (s.heap.objs.size + 1) = some (seqObj "list" its.toArray 0) := by
    rw [← hsz]
    exact Heap.get?_push_size _ rfl
  show wpAny _ _ _ _ _ { s with heap := ((s.heap.push (seqObj "list" #[] 0)).update s.heap.objs.size (Obj.mapSeq (· ++ its.toArray))).push (seqObj "list" its.toArray 0) }
  rw [hsz]
  refine wpAny_bind (wpAny_holding (wpAny_call_entry slot_list_sort ⟨_, hoL, rfl⟩ entry_list_sort (SrtO.list_sort_ord SrtO.swo_int hoL hzi (fun h2 => SrtO.ints_sortable hi h2) fun out h1 h2 => ⟨_, rfl, ?_⟩) (args_list_sort _)))
  refine wpAny_pure ⟨_, rfl, ?_⟩
  obtain ⟨k1, k2, k3⟩ := SrtO.ints_out hi h1 h2
  obtain ⟨ep, he'⟩ := PyProof.Rows.sortedAll_at s.heap its out.toArray
  have hlen : ((out.map SrtO.iv).map V.int).length ≤ sizeLine := by
    rw [List.length_map, k2.length_eq]
    rw [List.length_map] at hz
    exact hz
  exact ⟨.ref _, upd H (s.heap.objs.size + 1) (.lst ((out.map SrtO.iv).map V.int)), I.laid (t' := s.toks) (fun _ _ => PyProof.Rows.sortedAll_old) (Nat.le_succ _) ⟨hlen, out, ep, vals_of_ints k1, he'⟩, rfl, q _ _ k2 k3 (I.hok.fresh (Nat.le_succ _))⟩
end
end Tw

set_option Elab.async false
set_option linter.all false
set_option maxRecDepth 100000
set_option maxHeartbeats 1000000
/-! != of two tuples of two things, equal ones in turn -/
namespace Cq
open PySem PySem.SeqAt
open AutoSeq1 (wpAny_loadPart')
open MeetsSeq MeetsSeq2 MeetsSeq3 SeqRoads2
theorem pairs_ne {prog : Program} {w : World} {A : Around} {R : Result → Shared → Prop} {p q : Addr} {a b c e : Value} {k k2 : Nat} {u u2 : Option Addr} {z z2 : Array (Option Value)} {s : Shared}
    (hp : s.heap.get? p = some { cls := .type "tuple", dict := u, data := .seq #[a, b] k, slots := z }) (hq : s.heap.get? q = some { cls := .type "tuple", dict := u2, data := .seq #[c, e] k2, slots := z2 })
    (h : wpAny (model prog w) A.in1 (eqBool a c) (fun r s1 => r = true ∧ wpAny (model prog w) A.in1 (eqBool b e) (fun r s2 => r = true ∧ R (.ok (.ret (.bool false))) s2) (fun x s2 => R (.error x) s2) s1) (fun x s1 => R (.error x) s1) s) :
    wpAny (model prog w) A.in1 (Builtin.«tuple.__ne__» ⟨[.ref p, .ref q], []⟩) (GQ.FinOf prog w A R) (fun x s1 => R (.error x) s1) s := by
  have sub2 := AutoSeq1.sub_tuple_tuple
  obtain ⟨hh, gg, dd, tk, os⟩ := s
  wp_walk using wpAny_loadPart' hp, wpAny_loadPart' hq, wpAny_forIn_list _ (fun rest t s1 => t.1 = none ∧ ((rest = [(a, c), (b, e)] ∧ wpAny (model prog w) A.in1 (eqBool a c) (fun r s1 => r = true ∧ wpAny (model prog w) A.in1 (eqBool b e) (fun r s2 => r = true ∧ R (.ok (.ret (.bool false))) s2) (fun x s2 => R (.error x) s2) s1) (fun x s1 => R (.error x) s1) s1) ∨
    (rest = [(b, e)] ∧ wpAny (model prog w) A.in1 (eqBool b e) (fun r s2 => r = true ∧ R (.ok (.ret (.bool false))) s2) (fun x s2 => R (.error x) s2) s1) ∨ (rest = [] ∧ R (.ok (.ret (.bool false))) s1))) _
  case turn =>
    rintro ⟨y, x⟩ rest t s1 ⟨ht, ⟨e1, h1⟩ | ⟨e1, h1⟩ | ⟨e1, _⟩⟩
    · injection e1 with e1 e2
      injection e1 with e3 e4
      subst e3 e4 e2
      refine wpAny_bind (wpAny_mono h1 (fun r s2 g => ?_) fun _ _ g => g)
      obtain ⟨rfl, g⟩ := g
      wp_walk
      exact ⟨rfl, .inr (.inl ⟨rfl, g⟩)⟩
    · injection e1 with e1 e2
      injection e1 with e3 e4
      subst e3 e4 e2
      refine wpAny_bind (wpAny_mono h1 (fun r s2 g => ?_) fun _ _ g => g)
      obtain ⟨rfl, g⟩ := g
      wp_walk
      exact ⟨rfl, .inr (.inr ⟨rfl, g⟩)⟩
    · cases e1
  case fin =>
    rintro ⟨t1, t2⟩ s1 ⟨ht, ⟨e1, _⟩ | ⟨e1, _⟩ | ⟨_, h1⟩⟩
    · cases e1
    · cases e1
    · simp only at ht
      subst ht
      wp_walk
      simpa [Builtin.Tuple.tupleCompareSizes] using h1
  case h => exact ⟨rfl, .inl ⟨rfl, h⟩⟩
end Cq
namespace L2
open PySem PySem.Spec PyProof.Rows
theorem vals_two {a b : V} {l : List Value} (r : Vals [a, b] l) : ∃ x y, l = [x, y] ∧ RelV a x ∧ RelV b y := by
  cases r with
  | cons ra r =>
    cases r with
    | cons rb r =>
      cases r
      exact ⟨_, _, rfl, ra, rb⟩
def DPair (K : PySem.W.Frag) (D1 D2 : Eqv) : Eqv := fun x y H => ∃ (p q : Addr) (a b c e : V), x = .ref p ∧ y = .ref q ∧ SqT K H p [a, b] ∧ SqT K H q [c, e] ∧ D1 a c H ∧ D2 b e H
def rNeP (D : Eqv) : R2 := fun x y H Q => D x y H ∧ ∀ H', Ext H H' → Q (.bl false) H'
theorem op_neP {X : Cx} {n : Nat} {D1 D2 : Eqv} (g1 : EqG X n D1) (g2 : EqG X n D2) (m2 : Mon D2) (hr : Room (n + 1) X.A) : OpR X (compareOp .NotEq) (rNeP (DPair X.K D1 D2)) := by
  intro pins s σ H x y v u Q I rx ry ⟨⟨p, q, a, b, c, e, ex, ey, hp, hq, d1, d2⟩, k⟩
  subst ex ey
  cases rx
  cases ry
  have sb : Sub X (n + 1) X.A := ⟨hr, rfl⟩
  obtain ⟨its, r, e1, _⟩ := I.tuple hp
  obtain ⟨its2, r2, e2, _⟩ := I.tuple hq
  obtain ⟨va, vb, ei, ra, rb⟩ := vals_two r
  obtain ⟨vc, ve, ei2, rc, re⟩ := vals_two r2
  subst ei ei2
  obtain ⟨⟨cl, u1, da, z1⟩, o1, c1, n1, w1⟩ := id e1
  obtain ⟨⟨cl2, u2, da2, z2⟩, o2, c2, n2, w2⟩ := id e2
  dsimp only at c1 w1 c2 w2
  subst c1 w1 c2 w2
  show wpAny (model X.prog X.w) X.A (richCompare .NotEq (.ref p) (.ref q)) (EP X pins σ Q) X.xe s
  refine wpAny_richCompare_same_room (op := .NotEq) ⟨_, o1, rfl⟩ ⟨_, o2, rfl⟩ F.slot_tuple_ne (GQ.call_here F.slot_tuple_ne ⟨_, o1, rfl⟩ F.entry_tuple_ne (F.args_tuple_ne_2 _ _) ?_) hr.units0
  refine Cq.pairs_ne (R := wants (fun v s' => v ≠ .notImplemented ∧ EP X pins σ Q v s') X.xe) o1 o2 ?_
  refine wpAny_mono (g1 X.A.in1 pins s σ H _ _ va vc sb.in1 I ra rc d1) (fun t s1 ⟨ht, H1, I1, x1⟩ => ⟨ht, ?_⟩) fun _ _ g => g
  refine wpAny_mono (g2 X.A.in1 pins s1 σ H1 _ _ vb ve sb.in1 I1 rb re (m2 _ _ _ _ x1 d2)) (fun t s2 ⟨ht, H2, I2, x2⟩ => ⟨ht, ?_⟩) fun _ _ g => g
  exact ⟨(fun g => nomatch g), .bl false, H2, I2, rfl, k H2 (x1.trans x2)⟩
end L2


set_option Elab.async false
set_option linter.all false
set_option maxRecDepth 100000
set_option maxHeartbeats 4000000
/-! set(xs), xs a list of ints, as a value -/
namespace L2
open PySem PySem.Spec PyProof.Rows
section
variable {P : Program} {w : World} {A : Around} {E : Value → Shared → Prop}
/-- the set that is there at first -/
abbrev eS (w : World) : Obj := { cls := .type "set", dict := none, data := .set #[] 0 (.fresh 0 0 (!w.params.followText "set-order")) }
theorem init_over {z : Shared} {D l : Addr} {items : Array Value} {ns : List Int} {R : Result → Shared → Prop} (hh : A.handled = none) (hD : z.heap.get? D = some (eS w)) (hl : z.heap.IsList l items) (hit : IntsAre items.toList ns) (hb : ns.length + 1 < scanBound) (hne : l ≠ D)
    (q : ∀ (h' : Heap) (tk c : Nat), SetR w h' D (fun j => decide (j ∈ ns)) c → c ≤ ns.length → (∀ b o, b ≠ D → z.heap.get? b = some o → h'.get? b = some o) → R (.ok (.ret .none)) { z with heap := h', toks := tk }) :
    codeAny (model P w) A (.call (.builtin "set.__init__") ⟨[.ref D, .ref l], []⟩) R z := by
  have hn : items.size = ns.length := by
    have e := IntsAre.length hit
    rw [Array.length_toList] at e
    exact e
  have hT : Shared.TypeIs z (.ref D) "set" := ⟨_, hD, rfl⟩
  have lD : D < z.heap.objs.size := Heap.lt_size hD
  obtain ⟨⟨oc, od, oa, os⟩, hol, hcl, nl, hdl⟩ := id hl
  have ll : l < z.heap.objs.size := Heap.lt_size hol
  dsimp only at hcl hdl
  subst hcl hdl
  have no1 := F.sub_list_set
  have no2 := F.sub_list_frozenset
  have no3 : (Value.type "list" == Value.type "dict") = false := by decide
  refine codeAny_call_builtin F.called_set.init.plain F.entry_set_init (check_set_init_1 hT ?_)
  unfold Builtin.«set.__init__» noKeywords Builtin.Frozenset.updateFrom
  generalize hPI : pyIter = PI
  wp_walk
  subst hPI
  refine wpAny_pyIter_list hl ?_
  refine wpAny_bind (wpAny_runValue ?_)
  have free3 : A.in1.in1.handled = none := by simp [hh]
  have apart : l ≠ z.heap.objs.size := Nat.ne_of_lt ll
  have offS : D ∉ [z.heap.objs.size, l] := fun m => by
    rcases List.mem_cons.mp m with y | y
    · exact absurd y (Nat.ne_of_lt lD)
    · exact hne (List.mem_singleton.mp y).symm
  have each : ∀ (i : Nat) (v : Value), items[i]? = some v → ∃ k t, ns[i]? = some k ∧ v = .int k t := fun i v e => by
    have hi : i < ns.length := hn ▸ (Array.getElem?_eq_some_iff.mp e).1
    obtain ⟨t, e2⟩ := IntsAre.int_at hit i v (by rw [Array.getElem?_toList]; exact e)
    exact ⟨ns[i], t, List.getElem?_eq_getElem hi, by rw [e2, List.getD_eq_getElem?_getD, List.getElem?_eq_getElem hi]; rfl⟩
  refine set_update_ints ((Walks.list free3 _ l apart items).toS) D offS ns hn hb each (items.size - 0) 0 _ (by omega) (Nat.zero_le _) ?_ ⟨0, Nat.le_refl 0, ?_⟩ ?_
  · exact ⟨⟨_, Heap.get?_push_size _ rfl, rfl, rfl⟩, hl.push _⟩
  · exact setR_new_at (Heap.get?_push_of_some _ hD)
  rintro ⟨h', gens', drawn', tk', os'⟩ c moved hc new
  obtain rfl : gens' = z.gens := moved.gens
  obtain rfl : drawn' = z.drawn := moved.drawn
  obtain rfl : os' = z.os := moved.os
  show wpAny _ _ _ _ _ _
  refine wpAny_pure ?_
  show wpAny _ _ (ret Value.none) _ _ _
  refine wpAny_pure (q h' tk' c new (by omega) fun b o hbD e => ?_)
  have lb : b < z.heap.objs.size := Heap.lt_size e
  refine moved.heap b o (fun m => ?_) (Heap.get?_push_of_some _ e)
  rcases List.mem_cons.mp m with y | y
  · exact hbD y
  · exact absurd (List.mem_singleton.mp y) (Nat.ne_of_lt lb)
theorem set_over {z : Shared} {l : Addr} {items : Array Value} {ns : List Int} {Q : Value → Shared → Prop} (hh : A.handled = none) (hl : z.heap.IsList l items) (hit : IntsAre items.toList ns) (hb : ns.length + 1 < scanBound)
    (q : ∀ (h' : Heap) (tk c : Nat), SetR w h' z.heap.objs.size (fun j => decide (j ∈ ns)) c → c ≤ ns.length → (∀ b o, z.heap.get? b = some o → h'.get? b = some o) → Q (.ref z.heap.objs.size) { z with heap := h', toks := tk }) :
    wpAny (model P w) A (call (.type "set") [.ref l]) Q E z := by
  obtain ⟨c0, t0, mro0⟩ := F.called_set.mro
  have m1 := F.called_set.made
  have m2 := F.called_set.sub
  have m3 := F.called_set.notType
  have m4 := F.called_set.canCreate
  have m5 := F.typeCall_set_1 (.ref l)
  have ll : l < z.heap.objs.size := by
    obtain ⟨o, ho, _⟩ := id hl
    exact Heap.lt_size ho
  refine wpAny_call (codeAny_of_tree ?_)
  show wpAny _ _ (callAny (.type "set") _) _ _ _
  refine wpAny_pure ⟨Code.quiet_builtin _ (by decide +kernel), codeAny_builtin F.entry_type_call ?_⟩
  rw [Around.under_plain (weight_type_call_type "set" [.ref l] []) rfl]
  repeat any_goals first | assumption | wp_step
  have new1 : (z.heap.push (eS w)).get? z.heap.objs.size = some (eS w) := Heap.get?_push_size _ rfl
  refine codeAny_mono (code_set_led1 (.ref l) (E := E) (Q₁ := fun v y => v = .ref z.heap.objs.size ∧ y = { z with heap := z.heap.push (eS w) }) ⟨rfl, rfl⟩) fun r y hr => ?_
  cases r with
  | error e => exact hr
  | ok fl =>
    cases fl with
    | ret v =>
      obtain ⟨rfl, rfl⟩ := hr
      have hT : Shared.TypeIs { z with heap := z.heap.push (eS w) } (.ref z.heap.objs.size) "set" := ⟨_, new1, rfl⟩
      have i1 := F.called_set.init.lookup
      have i2 := F.called_set.init.bind (.ref z.heap.objs.size)
      repeat any_goals first | assumption | wp_step
      refine init_over (A := A.in1) (z := { z with heap := z.heap.push (eS w) }) (D := z.heap.objs.size) (by simp [hh]) new1 (hl.push _) hit hb (Nat.ne_of_lt ll) fun h' tk c S hc k => ?_
      show wpAny _ _ (pure (some Value.none)) _ _ _
      repeat any_goals first | assumption | wp_step
      exact q h' tk c S hc fun b o e => k b o (Nat.ne_of_lt (Heap.lt_size e)) (Heap.get?_push_of_some _ e)
    | _ => exact hr.elim
end
section
variable {X : Cx}
/-- set(xs) -/
def rSetLI (K : PySem.W.Frag) (w : World) : List V → Hp → VK → Prop := fun xs H Q => ∃ (l : Addr) (ns : List Int), xs = [V.ref l] ∧ SqL K H l (ns.map V.int) ∧ ns.length ≤ 1000 ∧ ∀ p n, n ≤ ns.length → H p = none → Q (.ref p) (upd H p (SetO w p (fun j => decide (j ∈ ns)) n))
theorem cr_setLI (hc : X.calm = true) : CallR X (.type "set") (rSetLI X.K X.w) := by
  intro pins s σ H xs us Q I r h
  obtain ⟨l, ns, rfl, hl, h1, q⟩ := h
  obtain ⟨its, rv, pl, _⟩ := I.list hl
  rw [Vals.ref1 r]
  refine set_over (I.ok.hd hc) pl.isList (ns := ns) (by simpa using rv.ints) (by unfold scanBound; omega) fun h' tk c R hc k => ?_
  exact ⟨.ref _, upd H s.heap.objs.size (SetO X.w s.heap.objs.size (fun j => decide (j ∈ ns)) c), I.laid (t' := tk) k (Nat.le_refl _) (setO_new R), rfl, q _ c hc (I.hok.fresh (Nat.le_refl _))⟩
end
end L2

set_option Elab.async false
set_option linter.all false
set_option maxRecDepth 100000
set_option maxHeartbeats 4000000
/-! sorted(xs), xs a list of tuples of ints, as long as a list may be -/
namespace L2
open PySem PySem.Spec PyProof.Rows PySem.W
abbrev tupE (ns : List Int) : PyData := .tuple (ns.map .int)
theorem tupE_le : dataLe false tupE = fun p q => decide (p ≤ q) := by
  funext p q
  show (!dataLt (.tuple (q.map .int)) (.tuple (p.map .int))) = _
  rw [dataLt_tuple]
  show (!rowLt (q.map .int) (p.map .int)) = _
  rw [dataLt_ints]
  by_cases h : q < p
  · have h' : ¬ p ≤ q := fun r => List.not_lt.mpr r h
    simp [h, h']
  · have h' : p ≤ q := List.not_lt.mp h
    simp [h, h']
section
variable {X : Cx} {pins : List (Addr × Obj)} {σ : St} {H : Hp} {s : Shared}
abbrev TupV (K : PySem.W.Frag) (H : Hp) (u : Value) (ns : List Int) : Prop := ∃ t, u = .ref t ∧ SqT K H t (ns.map V.int)
theorem tupV_of : ∀ {xs : List V} {bs : List (List Int)} {us : List Value}, Paired (TupI X.K H) xs bs → Vals xs us → EachIs (TupV X.K H) us bs
  | _, _, _, .nil, .nil => .nil
  | _, _, _, .cons ⟨t, e, h⟩ p, .cons r v => by
    subst e
    cases r
    exact .cons ⟨t, rfl, h⟩ (tupV_of p v)
theorem tupV_to : ∀ {bs : List (List Int)} {us : List Value}, EachIs (TupV X.K H) us bs → Paired (TupI X.K H) (us.map bkV) bs ∧ ∀ u ∈ us, ∃ a, u = Value.ref a
  | _, _, .nil => ⟨.nil, fun u hu => absurd hu (by simp)⟩
  | _, _, .cons ⟨t, e, h⟩ p => by
    subst e
    obtain ⟨h1, h2⟩ := tupV_to p
    refine ⟨.cons ⟨t, rfl, h⟩ h1, fun u hu => ?_⟩
    rcases List.mem_cons.mp hu with e | hu
    · exact ⟨t, e⟩
    · exact h2 u hu
theorem tupV_reads (I : Inv X pins σ H s) {u : Value} {ns : List Int} (h : TupV X.K H u ns) : ∃ as, Reads s.heap u (tupE ns) as := by
  obtain ⟨t, rfl, ht⟩ := h
  obtain ⟨its, rv, hT, _⟩ := I.tuple ht
  exact ⟨_, reads_tuple_ints hT (by simpa using rv.ints)⟩
/-- sorted(xs): the items ascending as tuples are -/
def rSortTA (K : PySem.W.Frag) : List V → Hp → VK → Prop := fun vs H Q => ∃ (a : Addr) (xs : List V) (bs : List (List Int)), vs = [V.ref a] ∧ SqL K H a xs ∧ Paired (TupI K H) xs bs ∧ (∀ b ∈ bs, b ≠ []) ∧
  ∀ (ys : List V) (p : Addr), Paired (TupI K H) ys (bs.mergeSort fun p q => decide (p ≤ q)) → H p = none → Q (.ref p) (upd H p (.lst ys))
theorem cr_sortTA (hu : X.A.units + 65 < cLine) : CallR X (.builtin "sorted") (rSortTA X.K) := by
  intro pins s σ H vs us Q I r h
  obtain ⟨a, xs, bs, rfl, hs, hp, hne, q⟩ := h
  obtain ⟨its, rv, hl, hz⟩ := I.list hs
  rw [Vals.ref1 r]
  have e0 : EachIs (TupV X.K H) its bs := tupV_of hp rv
  have hlen : bs.length = xs.length := (Paired.length hp).symm
  refine sorted_data (A := X.A) (R := TupV X.K H) (enc := tupE) hl.isList e0 (e0.mono fun u ns h => tupV_reads I h) (AllAlike.of fun b b' => by simp [alike, alike_ints]) (.inl fun d hd => ?_) (by rw [hlen]; exact hz) (fun b _ => ?_) fun out ho eo => ?_
  · obtain ⟨b, hb, rfl⟩ := List.mem_map.mp hd
    match b, hne b hb with
    | x :: r, _ => exact ⟨_, _, rfl⟩
  · have : (tupE b).depth ≤ 1 := by simp [PyData.depth, depth_ints]
    omega
  · rw [tupE_le] at eo
    obtain ⟨e1, e2⟩ := tupV_to eo
    obtain ⟨ep, he'⟩ := PyProof.Rows.sortedAll_at s.heap its out.toArray
    have hz2 : (out.map bkV).length ≤ sizeLine := by
      rw [List.length_map, ho, hlen]
      exact hz
    exact ⟨.ref _, upd H (s.heap.objs.size + 1) (.lst (out.map bkV)), I.laid (t' := s.toks) (fun _ _ => PyProof.Rows.sortedAll_old) (Nat.le_succ _) ⟨hz2, out, ep, bkV_vals e2, he'⟩, rfl, q _ _ e1 (I.hok.fresh (Nat.le_succ _))⟩
end
end L2

set_option Elab.async false
set_option linter.all false
set_option maxRecDepth 100000
set_option maxHeartbeats 4000000
/-! math.factorial -/
namespace L2
open PySem PySem.Spec PyProof.Rows
section
variable {X : Cx}
abbrev facN (n : Nat) : Nat := PySem.Builtin.Math.factorialNat n
def rFac : List V → Hp → VK → Prop := fun vs H Q => ∃ n : Nat, vs = [.int n] ∧ n ≤ 20000 ∧ Q (.int (facN n : Nat)) H
theorem cr_fac : CallR X (.builtin "math.factorial") rFac := by
  intro pins s σ H vs us Q I r h
  obtain ⟨n, rfl, hn, q⟩ := h
  cases r with
  | cons r1 r2 =>
    cases r2
    obtain ⟨t, rfl⟩ := r1
    exact PySem.W.mc_factorial (by omega) (by omega) fun _ => ⟨.int _, H, I.tok _, ⟨_, rfl⟩, q⟩
end
end L2

set_option Elab.async false
set_option linter.all false
set_option maxRecDepth 100000
set_option maxHeartbeats 4000000
/-! sorted(xs), xs a list of one item at most, whatever it is -/
namespace L2
open PySem PySem.Spec PyProof.Rows PySem.W
section
variable {X : Cx}
def rSort1 (K : PySem.W.Frag) : List V → Hp → VK → Prop := fun vs H Q => ∃ (a : Addr) (xs : List V), vs = [V.ref a] ∧ SqL K H a xs ∧ xs.length ≤ 1 ∧
  ∀ p : Addr, H p = none → Q (.ref p) (upd H p (.lst xs))
theorem cr_sort1 : CallR X (.builtin "sorted") (rSort1 X.K) := by
  intro pins s σ H vs us Q I r h
  obtain ⟨a, xs, rfl, hs, h1, q⟩ := h
  obtain ⟨its, rv, hl, hz⟩ := I.list hs
  rw [Vals.ref1 r]
  have hlen : xs.length = its.length := rv.length
  refine Srt.sorted_any hl.isList (by omega) (fun h2 => by omega) fun out hp => ?_
  have e : out = its := by
    match its, hlen with
    | [], _ => exact List.Perm.eq_nil hp
    | [x], _ => exact List.perm_singleton.mp hp
    | _ :: _ :: _, hl => simp only [List.length_cons] at hl; omega
  subst e
  obtain ⟨ep, he'⟩ := PyProof.Rows.sortedAll_at s.heap out out.toArray
  exact ⟨.ref _, upd H (s.heap.objs.size + 1) (.lst xs), I.laid (t' := s.toks) (fun _ _ => PyProof.Rows.sortedAll_old) (Nat.le_succ _) ⟨hz, out, ep, rv, he'⟩, rfl, q _ (I.hok.fresh (Nat.le_succ _))⟩
end
end L2

set_option Elab.async false
set_option linter.all false
set_option maxRecDepth 100000
set_option maxHeartbeats 4000000
/-! xs.extend(t), t a tuple -/
namespace PySem
open PySem PySem.W PySem.AutoSeq1
theorem ext_tup {l b : Addr} {items items2 : Array Value} {n n2 : Nat} {dc : Option Addr} {sl : Array (Option Value)} (hs0 : ¬(!items.isEmpty && Builtin.List.listTooLong (items.size + items2.size)) = true) (hs1 : items.size ≤ sizeLine) (hs2 : items.size + items2.size ≤ sizeLine + 1) :
    Meets (Builtin.«list.extend» ⟨[.ref l, .ref b], []⟩) (fun _ R s => s.heap.get? l = some { cls := .type "list", dict := none, data := .seq items n, slots := #[] } ∧ s.heap.get? b = some { cls := .type "tuple", dict := dc, data := .seq items2 n2, slots := sl } ∧
      R (.ok (.ret Value.none)) { s with heap := s.heap.update l (Obj.mapSeq fun x => x ++ items2), toks := s.toks }) :=
  .of_wp fun prog w A R s h => by
    obtain ⟨hp, g, d, tk, os⟩ := s
    obtain ⟨hl, hb, h⟩ := h
    have f1 := idx_int
    have f2 := sub_tuple_tuple
    have f3 := sub_list_list
    have f4 := sub_tuple_list
    have f5 := sub_list_tuple
    have hz' : (items ++ items2).size ≤ sizeLine + 1 := by rw [Array.size_append]; exact hs2
    wp_walk using (wpAny_updateSeq hl rfl (hz := hs1) (_hz' := hz')), wpAny_loadPart' hl, wpAny_loadPart' hb
    exact ⟨_, rfl, h⟩
end PySem
namespace L2
open PySem PySem.Spec PyProof.Rows PySem.W
section
variable {X : Cx}
def rExtT (K : PySem.W.Frag) : V → List V → Hp → VK → Prop := fun x vs H Q => ∃ (l b : Addr) (xs zs : List V), x = .ref l ∧ vs = [.ref b] ∧ H l = some (.lst xs) ∧ SqT K H b zs ∧ xs.length + zs.length ≤ sizeLine ∧
  Q .non (upd H l (.lst (xs ++ zs)))
theorem mt_extendT : MtM X "list.extend" (rExtT X.K) := by
  intro pins s σ H x vs v us Q I rx rv h
  obtain ⟨l, b, xs, zs, rfl, rfl, hH, hB, hz, q⟩ := h
  cases rx
  obtain ⟨u, rfl, ru⟩ := rv.one
  cases ru
  obtain ⟨z, its, n, r, hl, e⟩ := I.lstM hH
  obtain ⟨its2, r2, ⟨ob, eb, hc, n2, hd⟩, hl2⟩ := I.tuple hB
  obtain ⟨cls, dc, data, sl⟩ := ob
  dsimp only at hc hd
  subst hc hd
  have h1 := r.length
  have h2 := r2.length
  have hsz : its.toArray.size + its2.toArray.size ≤ sizeLine := by rw [List.size_toArray, List.size_toArray]; omega
  have hlong : ¬ (!its.toArray.isEmpty && Builtin.List.listTooLong (its.toArray.size + its2.toArray.size)) = true := by
    rw [notLongL hsz, Bool.and_false]
    exact Bool.false_ne_true
  refine call_meets F.slot_list_extend ⟨_, e, rfl⟩ F.entry_list_extend (F.args_list_extend_2 _ _) (PySem.ext_tup hlong (by rw [List.size_toArray]; omega) (by omega)) ⟨e, eb, ?_⟩
  refine ⟨.non, _, I.lset (its' := its ++ its2) hH e (by simp) (r.append r2) ?_, rfl, q⟩
  rw [List.length_append]
  omega
end
end L2

set_option Elab.async false
set_option linter.all false
set_option maxRecDepth 100000
set_option maxHeartbeats 4000000
/-! set(xs), xs a tuple of ints, as a value -/
namespace L2
open PySem PySem.Spec PyProof.Rows
section
variable {P : Program} {w : World} {A : Around} {E : Value → Shared → Prop}
theorem sub_tup_set : isSubtype (.type "tuple") (.type "set") = pure false := by rw [isSubtype_type]; kernel_rfl
theorem sub_tup_frz : isSubtype (.type "tuple") (.type "frozenset") = pure false := by rw [isSubtype_type]; kernel_rfl
theorem init_overT {z : Shared} {D l : Addr} {items : Array Value} {ns : List Int} {R : Result → Shared → Prop} (hh : A.handled = none) (hD : z.heap.get? D = some (eS w)) (hl : z.heap.IsTuple l items) (hit : IntsAre items.toList ns) (hb : ns.length + 1 < scanBound) (hne : l ≠ D)
    (q : ∀ (h' : Heap) (tk c : Nat), SetR w h' D (fun j => decide (j ∈ ns)) c → c ≤ ns.length → (∀ b o, b ≠ D → z.heap.get? b = some o → h'.get? b = some o) → R (.ok (.ret .none)) { z with heap := h', toks := tk }) :
    codeAny (model P w) A (.call (.builtin "set.__init__") ⟨[.ref D, .ref l], []⟩) R z := by
  have hn : items.size = ns.length := by
    have e := IntsAre.length hit
    rw [Array.length_toList] at e
    exact e
  have hT : Shared.TypeIs z (.ref D) "set" := ⟨_, hD, rfl⟩
  have lD : D < z.heap.objs.size := Heap.lt_size hD
  obtain ⟨⟨oc, od, oa, os⟩, hol, hcl, nl, hdl⟩ := id hl
  have ll : l < z.heap.objs.size := Heap.lt_size hol
  dsimp only at hcl hdl
  subst hcl hdl
  have no1 := sub_tup_set
  have no2 := sub_tup_frz
  have no3 : (Value.type "tuple" == Value.type "dict") = false := by decide
  refine codeAny_call_builtin F.called_set.init.plain F.entry_set_init (check_set_init_1 hT ?_)
  unfold Builtin.«set.__init__» noKeywords Builtin.Frozenset.updateFrom
  generalize hPI : pyIter = PI
  wp_walk
  subst hPI
  refine wpAny_pyIter_tuple hl ?_
  refine wpAny_bind (wpAny_runValue ?_)
  have free3 : A.in1.in1.handled = none := by simp [hh]
  have apart : l ≠ z.heap.objs.size := Nat.ne_of_lt ll
  have offS : D ∉ [z.heap.objs.size, l] := fun m => by
    rcases List.mem_cons.mp m with y | y
    · exact absurd y (Nat.ne_of_lt lD)
    · exact hne (List.mem_singleton.mp y).symm
  have each : ∀ (i : Nat) (v : Value), items[i]? = some v → ∃ k t, ns[i]? = some k ∧ v = .int k t := fun i v e => by
    have hi : i < ns.length := hn ▸ (Array.getElem?_eq_some_iff.mp e).1
    obtain ⟨t, e2⟩ := IntsAre.int_at hit i v (by rw [Array.getElem?_toList]; exact e)
    exact ⟨ns[i], t, List.getElem?_eq_getElem hi, by rw [e2, List.getD_eq_getElem?_getD, List.getElem?_eq_getElem hi]; rfl⟩
  refine set_update_ints ((Walks.tuple free3 _ l apart items).toS) D offS ns hn hb each (items.size - 0) 0 _ (by omega) (Nat.zero_le _) ?_ ⟨0, Nat.le_refl 0, ?_⟩ ?_
  · exact ⟨⟨_, Heap.get?_push_size _ rfl, rfl, rfl⟩, hl.push _⟩
  · exact setR_new_at (Heap.get?_push_of_some _ hD)
  rintro ⟨h', gens', drawn', tk', os'⟩ c moved hc new
  obtain rfl : gens' = z.gens := moved.gens
  obtain rfl : drawn' = z.drawn := moved.drawn
  obtain rfl : os' = z.os := moved.os
  show wpAny _ _ _ _ _ _
  refine wpAny_pure ?_
  show wpAny _ _ (ret Value.none) _ _ _
  refine wpAny_pure (q h' tk' c new (by omega) fun b o hbD e => ?_)
  have lb : b < z.heap.objs.size := Heap.lt_size e
  refine moved.heap b o (fun m => ?_) (Heap.get?_push_of_some _ e)
  rcases List.mem_cons.mp m with y | y
  · exact hbD y
  · exact absurd (List.mem_singleton.mp y) (Nat.ne_of_lt lb)
theorem set_overT {z : Shared} {l : Addr} {items : Array Value} {ns : List Int} {Q : Value → Shared → Prop} (hh : A.handled = none) (hl : z.heap.IsTuple l items) (hit : IntsAre items.toList ns) (hb : ns.length + 1 < scanBound)
    (q : ∀ (h' : Heap) (tk c : Nat), SetR w h' z.heap.objs.size (fun j => decide (j ∈ ns)) c → c ≤ ns.length → (∀ b o, z.heap.get? b = some o → h'.get? b = some o) → Q (.ref z.heap.objs.size) { z with heap := h', toks := tk }) :
    wpAny (model P w) A (call (.type "set") [.ref l]) Q E z := by
  obtain ⟨c0, t0, mro0⟩ := F.called_set.mro
  have m1 := F.called_set.made
  have m2 := F.called_set.sub
  have m3 := F.called_set.notType
  have m4 := F.called_set.canCreate
  have m5 := F.typeCall_set_1 (.ref l)
  have ll : l < z.heap.objs.size := by
    obtain ⟨o, ho, _⟩ := id hl
    exact Heap.lt_size ho
  refine wpAny_call (codeAny_of_tree ?_)
  show wpAny _ _ (callAny (.type "set") _) _ _ _
  refine wpAny_pure ⟨Code.quiet_builtin _ (by decide +kernel), codeAny_builtin F.entry_type_call ?_⟩
  rw [Around.under_plain (weight_type_call_type "set" [.ref l] []) rfl]
  repeat any_goals first | assumption | wp_step
  have new1 : (z.heap.push (eS w)).get? z.heap.objs.size = some (eS w) := Heap.get?_push_size _ rfl
  refine codeAny_mono (code_set_led1 (.ref l) (E := E) (Q₁ := fun v y => v = .ref z.heap.objs.size ∧ y = { z with heap := z.heap.push (eS w) }) ⟨rfl, rfl⟩) fun r y hr => ?_
  cases r with
  | error e => exact hr
  | ok fl =>
    cases fl with
    | ret v =>
      obtain ⟨rfl, rfl⟩ := hr
      have hT : Shared.TypeIs { z with heap := z.heap.push (eS w) } (.ref z.heap.objs.size) "set" := ⟨_, new1, rfl⟩
      have i1 := F.called_set.init.lookup
      have i2 := F.called_set.init.bind (.ref z.heap.objs.size)
      repeat any_goals first | assumption | wp_step
      refine init_overT (A := A.in1) (z := { z with heap := z.heap.push (eS w) }) (D := z.heap.objs.size) (by simp [hh]) new1 (hl.push _) hit hb (Nat.ne_of_lt ll) fun h' tk c S hc k => ?_
      show wpAny _ _ (pure (some Value.none)) _ _ _
      repeat any_goals first | assumption | wp_step
      exact q h' tk c S hc fun b o e => k b o (Nat.ne_of_lt (Heap.lt_size e)) (Heap.get?_push_of_some _ e)
    | _ => exact hr.elim
end
section
variable {X : Cx}
/-- set(xs) -/
def rSetTI (K : PySem.W.Frag) (w : World) : List V → Hp → VK → Prop := fun xs H Q => ∃ (l : Addr) (ns : List Int), xs = [V.ref l] ∧ SqT K H l (ns.map V.int) ∧ ns.length ≤ 1000 ∧ ∀ p n, n ≤ ns.length → H p = none → Q (.ref p) (upd H p (SetO w p (fun j => decide (j ∈ ns)) n))
theorem cr_setTI (hc : X.calm = true) : CallR X (.type "set") (rSetTI X.K X.w) := by
  intro pins s σ H xs us Q I r h
  obtain ⟨l, ns, rfl, hl, h1, q⟩ := h
  obtain ⟨its, rv, pl, _⟩ := I.tuple hl
  rw [Vals.ref1 r]
  refine set_overT (I.ok.hd hc) pl (ns := ns) (by simpa using rv.ints) (by unfold scanBound; omega) fun h' tk c R hc k => ?_
  exact ⟨.ref _, upd H s.heap.objs.size (SetO X.w s.heap.objs.size (fun j => decide (j ∈ ns)) c), I.laid (t' := tk) k (Nat.le_refl _) (setO_new R), rfl, q _ c hc (I.hok.fresh (Nat.le_refl _))⟩
end
end L2

set_option Elab.async false
set_option linter.all false
set_option maxRecDepth 100000
set_option maxHeartbeats 4000000
/-! t > u, both tuples of ints -/
namespace L2
open PySem PySem.Spec PyProof.Rows
abbrev gtB (ns ms : List Int) : Bool := Ob.lexAt (fun j => decide (ns.getD j 0 = ms.getD j 0)) (fun j => decide (ms.getD j 0 < ns.getD j 0)) (decide (ms.length < ns.length)) 0 (min ns.length ms.length)
def rGtT (K : PySem.W.Frag) : R2 := fun x y H Q => ∃ (t1 t2 : Addr) (ns ms : List Int), (x = .ref t1 ∧ y = .ref t2) ∧ (SqT K H t1 (ns.map V.int) ∧ SqT K H t2 (ms.map V.int)) ∧ Q (.bl (gtB ns ms)) H
theorem op_gtT {X : Cx} (few : X.A.units < cLine) : OpR X (compareOp .Gt) (rGtT X.K) := by
  rintro pins s σ H x y v u Q I rx ry ⟨t1, t2, ns, ms, ⟨rfl, rfl⟩, ⟨h1, h2⟩, q⟩
  cases rx; cases ry
  obtain ⟨us, va, pa, _⟩ := I.tuple h1
  obtain ⟨ws, vb, pb, _⟩ := I.tuple h2
  have item : ∀ {zs : List Value} {ks : List Int}, IntsAre zs ks → ∀ j (h : j < zs.toArray.size), ∃ t, zs.toArray[j] = .int (ks.getD j 0) t := fun ii j h =>
    PyProof.Rows.IntsAre.int_at ii _ _ (by simp at h; simp [h])
  have size : ∀ {zs : List Value} {ks : List Int}, IntsAre zs ks → zs.toArray.size = ks.length := fun ii => by rw [List.size_toArray]; exact ii.length
  have beq : ∀ a b : Int, decide (a = b) = (a == b) := fun a b => by
    by_cases c : a = b
    · subst c; simp
    · rw [decide_eq_false c]; exact (beq_eq_false_iff_ne.mpr c).symm
  have main := Ob.RcOp.tuples_gt (A := X.A) (s := s) (e := fun j => decide (ns.getD j 0 = ms.getD j 0)) (r := fun j => decide (ms.getD j 0 < ns.getD j 0)) pa pb few
    (fun j i1 i2 => by
      obtain ⟨k1, g1⟩ := item va.ints j i1
      obtain ⟨k2, g2⟩ := item vb.ints j i2
      rw [g1, g2, beq]
      exact SeqAt.EqAt.int_int _ _ _ _)
    (fun j i1 i2 _ => by
      obtain ⟨k1, g1⟩ := item va.ints j i1
      obtain ⟨k2, g2⟩ := item vb.ints j i2
      rw [g1, g2]
      exact Ob.RcOp.gt_int _ _ _ _)
  rw [size va.ints, size vb.ints] at main
  exact main X.prog X.w X.xe (EP X pins σ Q) ⟨.bl _, H, I, rfl, q⟩
end L2

set_option Elab.async false
set_option linter.all false
set_option maxRecDepth 100000
set_option maxHeartbeats 4000000
/-! sorted(xs), xs a list of tuples of ints, the first of which has no item -/
namespace PySem.W
open PySem PySem.Calls PyProof.Rows PySem.SeqAt
section
variable {prog : Program} {w : World} {A : Around} {E : Value → Shared → Prop} {s : Shared}
theorem call_tuple_ltZ {Q : Value → Shared → Prop} {l b : Addr} {items items2 : Array Value} {e r : Nat → Bool} (hl : s.heap.IsTuple l items) (hb : s.heap.IsTuple b items2)
    (he : ∀ j (h1 : j < items.size) (h2 : j < items2.size), EqAt A.in1 s items[j] items2[j] (e j)) (hr : ∀ j (h1 : j < items.size) (h2 : j < items2.size), e j = false → RcLt A.in1 s items[j] items2[j] (r j))
    (h : Q (.bool (firstLt e r (decide (items.size < items2.size)) (List.range (min items.size items2.size)))) s) : wpAny (model prog w) A (call (.builtin "tuple.__lt__") [.ref l, .ref b]) Q E s := by
  obtain ⟨⟨cls, dd, data, sl⟩, ho, hc, n, hd⟩ := id hl
  obtain ⟨⟨cls2, dd2, data2, sl2⟩, ho2, hc2, n2, hd2⟩ := id hb
  simp only at hc hd hc2 hd2
  subst hc hd hc2 hd2
  exact call_meets F.slot_tuple_lt ⟨_, ho, rfl⟩ F.entry_tuple_lt (F.args_tuple_lt_2 _ _) (tuple_ltAt l b items items2 n n2 dd dd2 sl sl2 e r) ⟨ho, ho2, he, hr, h⟩
theorem oneLt_tupZ {xs ys : List PyData} {a b : Value} {as bs : List Addr} {Q : Bool → Shared → Prop} (ra : Reads s.heap a (.tuple xs) as) (rb : Reads s.heap b (.tuple ys) bs) (hal : alikeAll xs ys = true)
    (hu : A.units + min (PyData.tuple xs).depth (PyData.tuple ys).depth < cLine) (hq : Q (dataLt (.tuple xs) (.tuple ys)) s) : wpAny (model prog w) A (oneLt' true a b) Q E s := by
  cases ra with
  | @tuple l o vs n _ as₁ h1 h2 h3 h4 =>
    cases rb with
    | @tuple l' o' vs' n' _ bs₁ k1 k2 k3 k4 =>
      have n1 : vs.size = xs.length := by simpa using ReadsAll.length _ _ _ h4
      have n2 : vs'.size = ys.length := by simpa using ReadsAll.length _ _ _ k4
      rw [dataLt_tuple, ← firstLt_toks xs ys hal, ← n1, ← n2] at hq
      rw [oneLt'_eq]
      simp only [if_true]
      refine wpAny_bind (wpAny_cRoomFor (room_here hu) ?_)
      refine wpAny_bind (wpAny_callSpecialIfBound?_slot (T := "tuple") ⟨_, h1, h2⟩ F.slot_tuple_lt (call_tuple_ltZ (e := pairEq xs ys) (r := fun j => dataLt (xs.getD j .none) (ys.getD j .none)) ⟨_, h1, h2, _, h3⟩ ⟨_, k1, k2, _, k3⟩ (fun j j1 j2 => ?_) (fun j j1 j2 hj => ?_) ?_))
      · have := eqAt_alikeAll xs ys A.in1 s vs.toList vs'.toList _ _ h4 k4 hal (room_in hu) j (by simpa using j1) (by simpa using j2)
        simpa using this
      · have := rcLt_alikeAll xs ys A.in1 s vs.toList vs'.toList _ _ h4 k4 hal (room_in hu) j (by simpa using j1) (by simpa using j2) hj
        simpa using this
      · exact wpAny_truthy_bool hq
end
section
variable {M : Model} {A : Around} {E : Value → Shared → Prop} {s : Shared}
def TupAt (h : Heap) (v : Value) (xs : Array Value) : Prop := ∃ a o n, v = .ref a ∧ h.get? a = some o ∧ o.cls = .type "tuple" ∧ o.data = .seq xs n
theorem first_tupZ {v : Value} {xs : Array Value} {Q : Option Value → Shared → Prop} (t : TupAt s.heap v xs) (h : Q xs[0]? s) : wpAny M A (firstOfTuple' v) Q E s := by
  obtain ⟨a, o, n, rfl, ho, hc, hd⟩ := t
  rw [kas_first_eq]
  refine wpAny_bind (Looks.here (show Looks M s.heap (typeOf (.ref a)) o.cls from (Looks.ld ho).andThen .now) ?_)
  rw [hc, if_neg (by first | decide | simp)]
  exact wpAny_bind (listItems_at ho hd (wpAny_pure h))
theorem firsts_anyZ : ∀ (vs : List Value), (∀ v ∈ vs, ∃ xs, TupAt s.heap v xs) → ∃ rs : List (Option Value), ∀ {Q : List (Option Value) → Shared → Prop}, Q rs s → wpAny M A (vs.mapM firstOfTuple') Q E s
  | [], _ => ⟨[], fun h => by rw [List.mapM_nil]; exact wpAny_pure h⟩
  | v :: vs, t => by
    obtain ⟨xs, hx⟩ := t v (.head _)
    obtain ⟨rs, hr⟩ := firsts_anyZ vs fun v hv => t v (.tail _ hv)
    refine ⟨xs[0]? :: rs, fun {Q} h => ?_⟩
    rw [List.mapM_cons]
    exact wpAny_bind (first_tupZ hx (wpAny_bind (hr (Q := fun bs s' => wpAny M A (pure (xs[0]? :: bs)) Q E s') (wpAny_pure h))))
theorem kind_tupZ {v₁ : Value} {rest : List Value} {Q : SortKind → Shared → Prop} (h1 : TupAt s.heap v₁ #[]) (hT : ∀ v ∈ rest, ∃ xs, TupAt s.heap v xs) (h : Q oneType' s) : wpAny M A (keyKind' (v₁ :: rest).toArray) Q E s := by
  obtain ⟨rs, hr⟩ := firsts_anyZ (M := M) (A := A) (E := E) rest hT
  rw [keyKind'_eq, List.mapM_toArray, map_eq_pure_bind]
  refine wpAny_bind (wpAny_bind ?_)
  rw [List.mapM_cons]
  refine wpAny_bind (first_tupZ h1 (wpAny_bind (hr ?_)))
  refine wpAny_pure (wpAny_pure ?_)
  rw [if_neg (by simp), if_neg (by simp)]
  rw [oneTypeOnly'_eq, List.mapM_toArray, map_eq_pure_bind]
  have hty : ∀ v ∈ v₁ :: rest, ∀ (Q' : Value → Shared → Prop), Q' (.type "tuple") s → wpAny M A (typeOf v) Q' E s := fun v hv Q' hq => by
    have ht : ∃ xs, TupAt s.heap v xs := by
      rcases List.mem_cons.mp hv with rfl | hv
      · exact ⟨_, h1⟩
      · exact hT v hv
    obtain ⟨xs, a, o, n, rfl, ho, hc, hd⟩ := ht
    refine Looks.here (show Looks M s.heap (typeOf (.ref a)) o.cls from (Looks.ld ho).andThen .now) ?_
    rw [hc]
    exact hq
  refine wpAny_bind (wpAny_bind (wpAny_bind (kas_mapM (r := .type "tuple") _ hty (wpAny_pure ?_))))
  have hall : ((List.map (fun _ => Value.type "tuple") (v₁ :: rest)).toArray.all fun x => x == Value.type "tuple") = true := by
    simp only [List.all_toArray, List.all_map, List.all_eq_true]
    intro _ _
    rfl
  have h0 : (List.map (fun _ => Value.type "tuple") (v₁ :: rest)).toArray[0]? = some (Value.type "tuple") := by simp
  rw [h0]
  simp only [hall, if_true]
  exact wpAny_pure (wpAny_pure h)
end
section
variable {prog : Program} {w : World} {A : Around} {E : Value → Shared → Prop} {s : Shared}
theorem reads_tupZ {v : Value} {r : List PyData} {as : List Addr} (h : Reads s.heap v (.tuple r) as) : ∃ xs, TupAt s.heap v xs := by
  cases h with
  | @tuple l o vs n _ as₁ h1 h2 h3 h4 => exact ⟨_, l, o, n, rfl, h1, h2, h3⟩
theorem reads_tup0Z {v : Value} {as : List Addr} (h : Reads s.heap v (.tuple []) as) : TupAt s.heap v #[] := by
  cases h with
  | @tuple l o vs n _ as₁ h1 h2 h3 h4 =>
    have n1 : vs.size = 0 := by simpa using ReadsAll.length _ _ _ h4
    obtain rfl : vs = #[] := Array.eq_empty_of_size_eq_zero n1
    exact ⟨l, o, n, rfl, h1, h2, h3⟩
theorem SortsAt.tupZ {vs : List Value} {ds : List PyData} (e : EachIs (fun v d => ∃ as, Reads s.heap v d as) vs (.tuple [] :: ds)) (hal : AllAlike (.tuple [] :: ds)) (ht : ∀ d, d ∈ ds → ∃ r, d = .tuple r) (hu : ∀ d, d ∈ PyData.tuple [] :: ds → A.units + d.depth < cLine) :
    SortsAt prog w A s (dataKind s.heap (.tuple [] :: ds)) vs := by
  have ht2 : ∀ d, d ∈ PyData.tuple [] :: ds → ∃ r, d = .tuple r := fun d hd => by
    rcases List.mem_cons.mp hd with rfl | hd
    · exact ⟨_, rfl⟩
    · exact ht d hd
  refine ⟨fun v hv => ?_, oneType', ?_, fun h2 E Q hq => ?_⟩
  · obtain ⟨d, hd, as, r⟩ := e.left v hv
    exact ⟨_, dataKind_some hal hd r⟩
  · intro E x y a b Q ha hb hq
    obtain ⟨d, as, hd, ra, rfl⟩ := dataKind_inv ha
    obtain ⟨d', as', hd', rb, rfl⟩ := dataKind_inv hb
    have hdd := hal d hd d' hd'
    have hroom : A.units + min d.depth d'.depth < cLine := Nat.lt_of_le_of_lt (Nat.add_le_add_left (Nat.min_le_left _ _) _) (hu d hd)
    obtain ⟨r1, rfl⟩ := ht2 d hd
    obtain ⟨r2, rfl⟩ := ht2 d' hd'
    rw [keyLt'_oneType]
    exact oneLt_tupZ ra rb (by simpa [alike] using hdd) hroom hq
  · cases e with
    | @cons v₁ _ vs _ r1 r2 =>
      obtain ⟨as, r1⟩ := r1
      refine kind_tupZ (reads_tup0Z r1) (fun v hv => ?_) hq
      obtain ⟨d, hd, as, r⟩ := r2.left v hv
      obtain ⟨r', rfl⟩ := ht d hd
      exact reads_tupZ r
end
end PySem.W
namespace PySem.W
open PySem PySem.Calls PyProof.Rows PySem.SeqAt
section
variable {prog : Program} {w : World} {A : Around} {E : Value → Shared → Prop} {s : Shared} {β : Type} {R : Value → β → Prop} {enc : β → PyData} {b0 : β} {bs : List β} {vs : List Value}
theorem sorted_tupZ {l : Addr} {Q : Value → Shared → Prop} (h0 : enc b0 = .tuple []) (ht : ∀ b, b ∈ bs → ∃ r, enc b = .tuple r) (hl : s.heap.IsList l vs.toArray) (e : EachIs R vs (b0 :: bs)) (er : EachIs (fun v b => ∃ as, Reads s.heap v (enc b) as) vs (b0 :: bs)) (hal : AllAlike ((b0 :: bs).map enc)) (hL : (b0 :: bs).length ≤ sizeLine)
    (hu : ∀ b, b ∈ b0 :: bs → A.units + 2 + (enc b).depth < cLine) (h : ∀ out, out.length = (b0 :: bs).length → EachIs R out ((b0 :: bs).mergeSort (dataLe false enc)) → Q (.ref (s.heap.objs.size + 1)) { s with heap := sortedAll s.heap vs (List.toArray out) }) :
    wpAny (model prog w) A (call (.builtin "sorted") [.ref l]) Q E s := by
  have er' : EachIs (fun v b => ∃ as, Reads (sortingHeap (copyHeap s.heap vs) (s.heap.objs.size + 1) vs) v (enc b) as) vs (b0 :: bs) := er.mono fun _ _ ⟨as, r⟩ => ⟨as, PyProof.Rows.Reads.keeps (fun _ _ => sorting_copy_old) r⟩
  have em := each_map (R := fun v d => ∃ as, Reads (sortingHeap (copyHeap s.heap vs) (s.heap.objs.size + 1) vs) v d as) enc er'
  have bm := bound_map (A := A.in1.in1) (enc := enc) (bs := b0 :: bs) hu
  have hal2 := hal
  rw [List.map_cons, h0] at em bm hal2
  refine sorted_vals (κ := dataKind (sortingHeap (copyHeap s.heap vs) (s.heap.objs.size + 1) vs) ((b0 :: bs).map enc)) hl ?_ (by rw [e.length]; exact hL) (h _ (by rw [sortVals_length false rfl]; exact e.length) (sortVals_data false e er' hal))
  rw [List.map_cons, h0]
  refine SortsAt.tupZ (s := { s with heap := sortingHeap (copyHeap s.heap vs) (s.heap.objs.size + 1) vs }) em hal2 (fun d hd => ?_) bm
  obtain ⟨b, hb, rfl⟩ := List.mem_map.mp hd
  exact ht b hb
end
end PySem.W
namespace L2
open PySem PySem.Spec PyProof.Rows PySem.W
section
variable {X : Cx} {pins : List (Addr × Obj)} {σ : St} {H : Hp} {s : Shared}
/-- sorted(xs): the items ascending as tuples are -/
def rSortT0 (K : PySem.W.Frag) : List V → Hp → VK → Prop := fun vs H Q => ∃ (a : Addr) (xs : List V) (bs : List (List Int)), vs = [V.ref a] ∧ SqL K H a xs ∧ Paired (TupI K H) xs ([] :: bs) ∧
  ∀ (ys : List V) (p : Addr), Paired (TupI K H) ys (([] :: bs).mergeSort fun p q => decide (p ≤ q)) → H p = none → Q (.ref p) (upd H p (.lst ys))
theorem cr_sortT0 (hu : X.A.units + 65 < cLine) : CallR X (.builtin "sorted") (rSortT0 X.K) := by
  intro pins s σ H vs us Q I r h
  obtain ⟨a, xs, bs, rfl, hs, hp, q⟩ := h
  obtain ⟨its, rv, hl, hz⟩ := I.list hs
  rw [Vals.ref1 r]
  have e0 : EachIs (TupV X.K H) its ([] :: bs) := tupV_of hp rv
  have hlen : ([] :: bs).length = xs.length := (Paired.length hp).symm
  refine sorted_tupZ (A := X.A) (R := TupV X.K H) (enc := tupE) rfl (fun b _ => ⟨_, rfl⟩) hl.isList e0 (e0.mono fun u ns h => tupV_reads I h) (AllAlike.of fun b b' => by simp [alike, alike_ints]) (by rw [hlen]; exact hz) (fun b _ => ?_) fun out ho eo => ?_
  · have : (tupE b).depth ≤ 1 := by simp [PyData.depth, depth_ints]
    omega
  · rw [tupE_le] at eo
    obtain ⟨e1, e2⟩ := tupV_to eo
    obtain ⟨ep, he'⟩ := PyProof.Rows.sortedAll_at s.heap its out.toArray
    have hz2 : (out.map bkV).length ≤ sizeLine := by
      rw [List.length_map, ho, hlen]
      exact hz
    exact ⟨.ref _, upd H (s.heap.objs.size + 1) (.lst (out.map bkV)), I.laid (t' := s.toks) (fun _ _ => PyProof.Rows.sortedAll_old) (Nat.le_succ _) ⟨hz2, out, ep, bkV_vals e2, he'⟩, rfl, q _ _ e1 (I.hok.fresh (Nat.le_succ _))⟩
end
end L2

set_option Elab.async false
set_option linter.all false
set_option maxRecDepth 100000
set_option maxHeartbeats 4000000
/-! o.m(e, .., k = v, ..); an expression read in one of two ways -/
namespace L2
open PySem PySem.Spec PyProof.Rows PySem.W
/-- a method with keywords -/
def tMethN (C : Addr) (m : Str) (n j : Nat) (sp : Sp) (gV : List V → List V → List V) (E : XK) (ta : TE) (t tk : TA) : TE := fun σ H Q => ta σ H fun x H1 => ∃ a dx fs, x = .ref a ∧ H1 a = some (.ins C dx fs) ∧ fs.lookup m = none ∧
  t σ H1 fun vs H2 => tk σ H2 fun zs H3 => vs.length = n ∧ zs.length = j ∧ sp (gV (x :: vs) zs) H3 Q E
section
variable {X : Cx} {CX : CXT} {k n : Nat} {f C : Addr} {fd : FuncData} {ps ks : List Str} {sp : Sp} {E : XK} {m : Str} {pos apos : Pos} {e o : Expr} {es : List Expr} {kws : List Keyword} {ta : TE} {t tk : TA} {g : List Value → List Value → List Value} {gV : List V → List V → List V}
theorem pe_methN {pl : Sem Bool} (he : PE X o ta) (c : Cls X.K C) (hm : Meth X.K C m f) (F : FnOk X.prog X.w X.K X.mg X.base CX k f fd ps sp) (hr : Room k X.A) (hb : KBn X.K fd ps (n + 1) ks g gV) (hx : Passes CX X E) (ha : PA X (e :: es) t) (hkw : PK X kws tk)
    (hall : (backToKw pos (keywordEach kws X.env)).all (·.1.isSome) = true := by rfl) (hks : (backToKw pos (keywordEach kws X.env)).filterMap (·.1) = ks := by rfl)
    (hst : starEach (e :: es) X.env = (false, eval e X.env) :: starEach es X.env := by rfl) (hpl : ((backTo pos (starEach (e :: es) X.env)).any (·.1) || (backToKw pos (keywordEach kws X.env)).any (·.1.isNone)) = false := by rfl)
    (ht : eval (.Call (.Attribute o m apos) (e :: es) kws pos) X.env = (do
      let ov ← eval o X.env
      standAt apos.atName
      let (f, first) ← holding [ov] (getMethod ov m pl)
      callWith pos f first (backTo pos (starEach (e :: es) X.env)) (backToKw pos (keywordEach kws X.env))) := by rfl) :
    PE X (.Call (.Attribute o m apos) (e :: es) kws pos) (tMethN C m n ks.length sp gV E ta t tk) := by
  refine ⟨fun pins s σ H Q I h => ?_⟩
  refine PySem.W.methodCall_KW (pl := pl) (thn (he.run pins s σ H _ I h) fun u s1 ⟨x, H1, I1, rx, a, dx, fs, ex, ea, l, q⟩ => ?_) ht
  subst ex
  obtain rfl : u = Value.ref a := rx
  refine getmeth_ok I1 ea c hm l ?_
  refine PySem.W.callWith_KW (first := [.ref a]) (h₀ := X.base) I.ok.mod.kin hm.kp hall (thn (ha.run pos pins s1 σ H1 _ I1 q) fun us s2 ⟨vs, H2, I2, r, q2⟩ => ?_) hpl hst
  refine thn (hkw.run pos pins s2 σ H2 _ I2 q2) fun ws s3 ⟨zs, H3, I3, rz, l1, l2, q3⟩ => ⟨I3.kIn, ?_⟩
  rw [hks]
  exact run_fnN (us := .ref a :: us) (vs := .ref a :: vs) F hr hb hx I3 (.cons rfl r) rz (by rw [List.length_cons, l1]) l2 q3
/-- an expression that may be read in two ways -/
theorem pe_two {a : Expr} {t1 t2 : TE} (h1 : PE X a t1) (h2 : PE X a t2) : PE X a (fun σ H Q => t1 σ H Q ∨ t2 σ H Q) :=
  ⟨fun pins s σ H Q I h => h.elim (h1.run pins s σ H Q I) (h2.run pins s σ H Q I)⟩
end
end L2

set_option Elab.async false
set_option linter.all false
set_option maxRecDepth 100000
set_option maxHeartbeats 4000000
/-! zip over two tuples, as a walk; != of own objects of two classes -/
namespace L2
open PySem PySem.Spec PyProof.Rows
theorem walk_zipT {K : PySem.W.Frag} {a b : Addr} {xs ys : List V} {n : Nat} (hn : n = min xs.length ys.length) : Walk (RZ.ItzT K a b) n (fun H => SqT K H a xs ∧ SqT K H b ys) (YPair (fun i => xs[i]?) (fun i => ys[i]?)) := by
  subst hn
  refine ⟨fun i _ hi q => ?_, fun _ q => ⟨xs, ys, q.1, q.2, by omega⟩, fun i H v H' _ q y => ?_⟩
  · have h1 : i < xs.length := by omega
    have h2 : i < ys.length := by omega
    exact ⟨xs, ys, xs[i], ys[i], q.1, q.2, by simp [h1], by simp [h2]⟩
  · obtain ⟨T, x, z, h1, h2, h3, h4, h5⟩ := y
    exact ⟨T, x, z, h1, h2, h3, h4 xs q.1, h5 ys q.2⟩
end L2
namespace Tw
open PySem PySem.Spec PyProof.Rows L2
open PySem.W (InstAt looks_findIn looks_subIn ifBound_K cmp_K)
section
variable {X : Cx} {CX : CXT} {k : Nat} {f C D : Addr} {fd : FuncData} {ps : List Str} {sp : Sp} {E : XK}
/-- != where the other one is an object of another class -/
def rNeD (C D : Addr) (sp : Sp) (E : XK) : R2 := fun x y H Q =>
  ∃ a dx fs b dy gs, x = .ref a ∧ H a = some (.ins C dx fs) ∧ y = .ref b ∧ H b = some (.ins D dy gs) ∧ sp [.ref a, y] H (fun v H' => ∃ r, v = .bl r ∧ Q (.bl (!r)) H') E
theorem op_ne_two (c : EqC X.K C f) (hd : PySem.W.notFirst X.K C (.ref D) = true) (F : FnOk X.prog X.w X.K X.mg X.base CX k f fd ps sp) (hr : Room (k + 1) X.A) (hb : Binds X.K fd ps []) (hx : Passes CX X E) : OpR X (compareOp .NotEq) (rNeD C D sp E) := by
  intro pins s σ H x y v u Q I rx ry ⟨a, dx, fs, b, dy, gs, ex, ha, ey, hb2, q⟩
  subst ex
  subst ey
  obtain rfl : v = Value.ref a := rx
  obtain rfl : u = Value.ref b := ry
  obtain ⟨mA, O, rr, _, _, _⟩ := ins_get I.hok ha
  obtain ⟨od, J, hl⟩ := O.look
  obtain ⟨mB, OB, rrB, _, _, _⟩ := ins_get I.hok hb2
  obtain ⟨odB, JB, hlB⟩ := OB.look
  obtain ⟨m0, hF⟩ := I.fr
  show wpAny _ _ (richCompare .NotEq (.ref a) (.ref b)) _ _ _
  refine ne_K (Room.units0 hr.in1) hr.units0 hF I.ok.mod.kin J JB.type hd c (thn (run_sub F (Sub.in1 ⟨hr, rfl⟩) hb hx I (.cons (relR a) (.cons (relR b) .nil)) q) fun r s' ⟨z, H', I', rz, b2, ez, q'⟩ => ?_)
  subst ez
  exact ⟨b2, rz, _, H', I', relB (!b2), q'⟩
end
end Tw

set_option Elab.async false
set_option linter.all false
set_option maxRecDepth 100000
set_option maxHeartbeats 2000000
/-! own rules: xs.count(k), t.count(k) (whole numbers); sum(d.values()) -/
namespace L2
open PySem PySem.Spec PyProof.Rows L2
theorem plain_ints : ∀ ns : List Int, PyData.plainAll (ns.map PyData.int) = true
  | [] => rfl
  | n :: ns => by
    simp only [List.map_cons, PyData.plainAll, plain_ints ns]
    rfl
theorem count_ints (k : Int) : ∀ ns : List Int, (ns.map PyData.int).countP (fun y => PyData.eqv y (.int k)) = ns.count k
  | [] => rfl
  | n :: ns => by
    rw [List.map_cons, List.countP_cons, count_ints k ns, List.count_cons]
    have e : PyData.eqv (.int n) (.int k) = (n == k) := rfl
    rw [e]
theorem dpAll_ints (K : PySem.W.Frag) (H : Hp) : ∀ ns : List Int, DpAll K H (ns.map V.int) (ns.map PyData.int)
  | [] => .nil
  | n :: ns => .cons (.int n) (dpAll_ints K H ns)
section
variable {X : Cx}
def rCountL (K : PySem.W.Frag) : V → List V → Hp → VK → Prop := fun x vs H Q => ∃ (a : Addr) (ns : List Int) (k : Int), x = .ref a ∧ vs = [.int k] ∧ SqL K H a (ns.map V.int) ∧ Q (.int (ns.count k : Nat)) H
def rCountT (K : PySem.W.Frag) : V → List V → Hp → VK → Prop := fun x vs H Q => ∃ (a : Addr) (ns : List Int) (k : Int), x = .ref a ∧ vs = [.int k] ∧ SqT K H a (ns.map V.int) ∧ Q (.int (ns.count k : Nat)) H
theorem mt_countL (hu : X.A.units + 65 < cLine) : MtR X "list.count" (rCountL X.K) := by
  intro pins s σ H x xs v us Q I rx rxs h
  obtain ⟨a, ns, k, rfl, rfl, hl, q⟩ := h
  cases rx
  cases rxs with
  | cons ry rt =>
    rename_i uy ut
    cases rt
    obtain ⟨its, rv, pl, hlen⟩ := I.list hl
    obtain ⟨as, h4⟩ := Dp.readsAll I (ns.map PyData.int) _ its (dpAll_ints _ _ ns) rv
    obtain ⟨bs, r1⟩ := Dp.reads I (.int k) _ uy (.int k) ry
    refine PySem.SeqAt.count_list_data (xs := ns.map PyData.int) (d := .int k) pl.isList h4 r1 (plain_ints ns) rfl (Nat.lt_of_le_of_lt (Nat.add_le_add_left (Nat.min_le_right _ _) _) (by simp only [PyData.depth]; omega)) ?_
    rw [count_ints]
    exact ⟨.int _, H, I.tok _, ⟨_, rfl⟩, q⟩
theorem mt_countT (hu : X.A.units + 65 < cLine) : MtR X "tuple.count" (rCountT X.K) := by
  intro pins s σ H x xs v us Q I rx rxs h
  obtain ⟨a, ns, k, rfl, rfl, hl, q⟩ := h
  cases rx
  cases rxs with
  | cons ry rt =>
    rename_i uy ut
    cases rt
    obtain ⟨its, rv, pl, hlen⟩ := I.tuple hl
    obtain ⟨as, h4⟩ := Dp.readsAll I (ns.map PyData.int) _ its (dpAll_ints _ _ ns) rv
    obtain ⟨bs, r1⟩ := Dp.reads I (.int k) _ uy (.int k) ry
    refine PySem.SeqAt.count_tuple_data (xs := ns.map PyData.int) (d := .int k) pl h4 r1 (plain_ints ns) rfl (Nat.lt_of_le_of_lt (Nat.add_le_add_left (Nat.min_le_right _ _) _) (by simp only [PyData.depth]; omega)) ?_
    rw [count_ints]
    exact ⟨.int _, H, I.tok _, ⟨_, rfl⟩, q⟩
theorem preSum_list : ∀ (is : List Int) (n : Nat), preSum (fun i => is.getD i 0) n = (is.take n).sum := by
  intro is n
  induction n with
  | zero => rfl
  | succ n ih =>
    rw [preSum, ih]
    by_cases h : n < is.length
    · rw [← List.take_append_getElem h, List.sum_append, List.getD_eq_getElem?_getD, List.getElem?_eq_getElem h]
      simp
    · rw [List.take_of_length_le (by omega), List.take_of_length_le (by omega), List.getD_eq_getElem?_getD, List.getElem?_eq_none (by omega)]
      simp
/-- sum(o.values()), a dict with int values -/
def tSumVals (td : TE) : TE := fun σ H Q => td σ H fun x H1 => ∃ (a : Addr) (kvs : List (Key × V)) (is : List Int), x = V.ref a ∧ H1 a = some (.dK kvs) ∧ kvs.map (·.2) = is.map V.int ∧ Q (.int is.sum) H1
variable {o : Expr} {p pos apos mpos : Pos} {td : TE}
theorem pe_sumVals (hc : X.calm = true) (hg : Gl X "sum") (hm : X.mg "sum" = none) (hd : PE X o td) (hbase : attributeBase o "values" X.env (eval o X.env) = eval o X.env := by rfl) (hline : (apos.endLine == mpos.line) = true := by rfl)
    (hse : starEach [Expr.Call (.Attribute o "values" apos) [] [] mpos] X.env = [(false, eval (Expr.Call (.Attribute o "values" apos) [] [] mpos) X.env)] := by rfl) :
    PE X (.Call (.Name "sum" p) [.Call (.Attribute o "values" apos) [] [] mpos] [] pos) (tSumVals td) := by
  refine ⟨fun pins s σ H Q I h => ?_⟩
  refine wpAny_Call_Name_kw (ld_blt I hg hm (u := .builtin "sum") (by first | rfl | decide +kernel) ?_ (by first | decide +kernel | decide) (by first | decide +kernel | decide))
  rw [hse]
  refine PySem.callWith_builtin1 (wpAny_Call_method0_late hbase hline (thn (hd.run pins s σ H _ I h) fun v s1 ⟨x, H1, I1, r1, a, kvs, is, ex, ha, hv, q⟩ => ?_))
  subst ex
  obtain rfl : v = Value.ref a := r1
  obtain ⟨_, hsys, vs, rel, dof⟩ := dk_of I1.hok ha
  obtain ⟨ep, dat⟩ := dof.dictAt
  have dat' := dat
  obtain ⟨ob, es, ho, ex, hdat, hko, hpr, hnd⟩ := dat'
  refine ⟨"dict", "dict.values", F.plainAttrs_dict, F.slot_dict_values, F.type_dict_values, ⟨ob, ho, ex.1⟩, fun b e => ?_, Calls.callWith_builtin rfl (PySem.evalArgs_none ?_)⟩
  · cases e
    exact ⟨ob, ho, ex.2.1⟩
  refine call_meetsIn F.slot_dict_values ⟨ob, ho, ex.1⟩ F.entry_dict_values (F.args_dict_values_1 _) (meets_dict_values (mixKind X.prog X.w) a hsys) ⟨⟨vs, dof⟩, ?_⟩
  have k1 : ∀ b u, s1.heap.get? b = some u → (s1.heap.push { cls := .type "dict_values", data := .fields #[.ref a] }).get? b = some u := fun b u e => Heap.get?_push_of_some _ e
  have dat1 : (s1.heap.push { cls := .type "dict_values", data := .fields #[.ref a] }).DictAt (mixKind X.prog X.w) a vs ep := dat.keep k1
  have hlv : vs.length = is.length := by
    have e1 := congrArg List.length hv
    rw [List.length_map, List.length_map] at e1
    rw [← e1]
    exact (KV.length rel).symm
  have hval : ∀ (i : Nat) (v : Value), (∃ k, vs[i]? = some (k, v)) → ∃ t, v = Value.int (is.getD i 0) t := fun i v ⟨k, hk⟩ => by
    obtain ⟨x, h1, h2⟩ := KV.at' rel hk
    have e1 : (kvs.map (·.2))[i]? = some x := by rw [List.getElem?_map, h1] <;> rfl
    rw [hv, List.getElem?_map] at e1
    obtain ⟨j, hj, e2⟩ := Option.map_eq_some_iff.mp e1
    subst e2
    obtain ⟨t, e3⟩ := h2
    refine ⟨t, ?_⟩
    rw [e3, List.getD_eq_getElem?_getD, hj] <;> rfl
  refine call_sum_walkG (wpAny_pyIter_values (v := s1.heap.objs.size) (d := a) ⟨_, Heap.get?_push_size _ rfl, rfl, rfl⟩ dat1 ?_)
  have hlt : a < s1.heap.objs.size := Heap.lt_size ho
  have hsz : (s1.heap.push { cls := .type "dict_values", data := .fields #[.ref a] }).objs.size = s1.heap.objs.size + 1 := Heap.size_push _ _
  refine ⟨_, _, _, _, _, _, fun i => is.getD i 0, rfl, Walks.dictValues (knd := mixKind X.prog X.w) (A := X.A.in1) (I.ok.hd hc) (s1.heap.push { cls := .type "dict_values", data := .fields #[.ref a] }).objs.size a (by rw [hsz]; exact Nat.ne_of_lt (Nat.lt_succ_of_lt hlt)) vs ep,
    ⟨⟨_, Heap.get?_push_size _ rfl, rfl, rfl⟩, dat1.keep fun b u e => Heap.get?_push_of_some _ e⟩, fun b hb => ?_, hval, fun h' tk t' hk => ?_⟩
  · show b < ((s1.heap.push _).push _).objs.size
    rw [Heap.size_push, Heap.size_push]
    rw [hsz] at hb
    rcases List.mem_cons.mp hb with e | hb
    · rw [e]
      exact Nat.lt_succ_self _
    · have e : b = a := List.mem_singleton.mp hb
      rw [e]
      exact Nat.lt_succ_of_lt (Nat.lt_succ_of_lt hlt)
  · rw [preSum_list, hlv, List.take_length]
    refine ⟨.int _, H1, I1.kept (t' := tk) fun b u e => hk b u (fun hmem => ?_) (Heap.get?_push_of_some _ (k1 b u e)), ⟨t', rfl⟩, q⟩
    have e1 : b = (s1.heap.push { cls := .type "dict_values", data := .fields #[.ref a] }).objs.size := List.mem_singleton.mp hmem
    have e2 := Heap.lt_size e
    rw [hsz] at e1
    rw [e1] at e2
    exact absurd e2 (Nat.not_lt.mpr (Nat.le_succ _))
end
/-- a dict by a comprehension, over any walk -/
theorem dc_it {J : It} {n : Nat} {G : Hp → Prop} {Y : Nat → Hp → V → Hp → Prop} (w : Walk J n G Y) {g : TG} {tt : TT} {tk tv : TE} {vs : List Nat} {σ : St} {H1 : Hp} {D : Addr} {Qd : Hp → Prop} (Pv : Nat → Hp → Prop) (h0 : Pv 0 (upd H1 D (.dK []))) (hG : ∀ i H, i ≤ n → Pv i H → G H)
    (hs : ∀ i x H H', i < n → Pv i H → Y i H x H' → g x (wipe σ vs) H' fun σ2 H2 => wipe σ2 vs = wipe σ vs ∧ tt σ2 H2 fun b H3 =>
      if b = true then tk σ2 H3 fun y H4 => tv σ2 H4 fun z H5 => ∃ kvs k, y = kV k ∧ H5 D = some (.dK kvs) ∧ kvs.length < sizeLine ∧ Pv (i + 1) (upd H5 D (.dK (putK kvs k z))) else Pv (i + 1) H3) (hd : ∀ H, Pv n H → Qd H) :
    ∃ W : Nat → Nat → Hp → Prop, (∃ m, W 0 m (upd H1 D (.dK []))) ∧ ∀ i m H, W i m H →
      (J.stop i H ∧ Qd H) ∨ (J.go i H ∧ ∃ Nx : Hp → Prop, (∀ H', Nx H' → ∃ m', m' < m ∧ W (i + 1) m' H') ∧ ∀ x H', J.yld i H x H' → g x (wipe σ vs) H' fun σ2 H2 => wipe σ2 vs = wipe σ vs ∧ tt σ2 H2 fun b H3 =>
        if b = true then tk σ2 H3 fun y H4 => tv σ2 H4 fun z H5 => ∃ kvs k, y = kV k ∧ H5 D = some (.dK kvs) ∧ kvs.length < sizeLine ∧ Nx (upd H5 D (.dK (putK kvs k z))) else Nx H3) := by
  refine ⟨fun i m H => m = n - i ∧ i ≤ n ∧ Pv i H, ⟨n, by simp, Nat.zero_le _, h0⟩, ?_⟩
  rintro i m H ⟨rfl, hi, p⟩
  have q := hG i H hi p
  by_cases hlt : i < n
  · refine .inr ⟨w.goes i H hlt q, Pv (i + 1), fun H' p' => ⟨n - (i + 1), by omega, rfl, hlt, p'⟩, fun x H' y => hs i x H H' hlt p (w.yields i H x H' hlt q y)⟩
  · have e : i = n := by omega
    subst e
    exact .inl ⟨w.stops H q, hd H p⟩
/-- what stays while a thing is locked stays behind -/
theorem same_lock {H H' : Hp} {d : Addr} {u v : HO} (h : H d = some u) (s : Same (upd H d v) H') : Same H (upd H' d u) := fun b o e => by
  by_cases hb : b = d
  · subst hb
    rw [upd_same, ← h, e]
  · rw [upd_ne hb]
    exact s b o (by rw [upd_ne hb]; exact e)
theorem ite_b {b c : Bool} {A B : Prop} (h : b = c) (k : if c = true then A else B) : if b = true then A else B := h ▸ k
/-- set(xs), xs a list or a tuple of whole numbers -/
def rSetSq (K : PySem.W.Frag) (w : World) : List V → Hp → VK → Prop := fun xs H Q => ∃ (l : Addr) (ns : List Int), xs = [V.ref l] ∧ (SqL K H l (ns.map V.int) ∨ SqT K H l (ns.map V.int)) ∧ ns.length ≤ 1000 ∧ ∀ p n, n ≤ ns.length → H p = none → Q (.ref p) (upd H p (SetO w p (fun j => decide (j ∈ ns)) n))
theorem cr_setSq {X : Cx} (hc : X.calm = true) : CallR X (.type "set") (rSetSq X.K X.w) := by
  intro pins s σ H vs us Q I rv ⟨l, ns, e, h, hl, q⟩
  rcases h with h | h
  · exact cr_setLI hc pins s σ H vs us Q I rv ⟨l, ns, e, h, hl, q⟩
  · exact cr_setTI hc pins s σ H vs us Q I rv ⟨l, ns, e, h, hl, q⟩
end L2

set_option Elab.async false
set_option linter.all false
set_option maxRecDepth 100000
set_option maxHeartbeats 2000000
/-! own rules: tuples of which it is known that they have no dict of their own: their methods -/
namespace L2
open PySem PySem.Spec PyProof.Rows L2
/-- a tuple that was made by tuple(..), with the object that it is -/
def TupF (H : Hp) (a : Addr) (xs : List V) : Prop := ∃ o : Obj, H a = some (.frz o (.tup xs)) ∧ o.dict = none
theorem TupF.same {H H' : Hp} {a : Addr} {xs : List V} (h : TupF H a xs) (s : Same H H') : TupF H' a xs := let ⟨o, e, d⟩ := h; ⟨o, s _ _ e, d⟩
theorem TupF.sq {K : PySem.W.Frag} {H : Hp} {a : Addr} {xs : List V} (h : TupF H a xs) : SqT K H a xs := let ⟨o, e, _⟩ := h; .inl (.inr ⟨o, e⟩)
section
variable {X : Cx}
/-- tuple(xs) of a list; of such a tuple itself -/
def rTupF (K : PySem.W.Frag) : List V → Hp → VK → Prop := fun xs H Q => ∃ p ys, xs = [V.ref p] ∧ ((SqL K H p ys ∧ ∀ l o, H l = none → o.dict = none → Q (.ref l) (upd H l (.frz o (.tup ys)))) ∨ (SqT K H p ys ∧ Q (.ref p) H))
theorem call_tupF : CallR X (.type "tuple") (rTupF X.K) := by
  intro pins s σ H xs us Q I r h
  obtain ⟨p, ys, rfl, h⟩ := h
  rcases h with ⟨hq, q⟩ | ⟨hq, q⟩
  · obtain ⟨u, rfl, rx⟩ := vals1 r
    cases rx
    obtain ⟨its, r', pl, hz⟩ := I.list hq
    have hlen := r'.length
    refine call_tuple_list pl.isList (fun h' kp => ?_) (by simp only [List.size_toArray] <;> omega)
    have I1 : Inv X pins σ H { s with heap := h' } := I.kept (t' := s.toks) kp
    have I2 : Inv X pins σ (upd H h'.objs.size (.frz { cls := .type "tuple", data := .seq its.toArray } (.tup ys))) { s with heap := h'.push { cls := .type "tuple", data := .seq its.toArray } } :=
      I1.laid (t' := s.toks) (fun b o e => Heap.get?_push_of_some _ e) (Nat.le_refl _) (show ObjOk X.prog X.w _ _ _ (.frz _ (.tup ys)) from ⟨Heap.get?_push_size _ rfl, hz, its, r', IsTup.new _ _⟩)
    exact ⟨.ref h'.objs.size, _, I2, rfl, q _ _ (I1.hok.fresh (Nat.le_refl _)) rfl⟩
  · exact call_tuple_of pins s σ H _ us Q I r ⟨p, ys, rfl, .inr ⟨hq, q⟩⟩
def tBMF (r : V → List V → Hp → VK → Prop) (to : TE) (t : TA) : TE := fun σ H Q => to σ H fun x H1 => (∃ a xs, x = .ref a ∧ TupF H1 a xs) ∧ t σ H1 fun xs H2 => r x xs H2 Q
variable {o e : Expr} {es : List Expr} {to : TE} {t : TA} {name : Str} {apos cpos : Pos} {T id : String} {r : V → List V → Hp → VK → Prop}
theorem pe_bmF (slot : Slot "tuple" name id) (hty : typeOf (.builtin id) = pure (.type "method_descriptor")) (hm : MtR X id r) (ho : PE X o to) (ha : PA X (e :: es) t)
    (hbase : attributeBase o name X.env (eval o X.env) = eval o X.env := by rfl)
    (hfew : ((backTo cpos (starEach (e :: es) X.env)).all (fun x => !x.1) && (backToKw cpos (keywordEach [] X.env)).all (fun x => x.1.isSome)
      && decide ((e :: es).length + ([] : List Keyword).length + (if ([] : List Keyword).isEmpty then 0 else 1) < 30)) = true := by rfl)
    (hline : (apos.endLine == cpos.line) = true := by rfl) (hs : starEach (e :: es) X.env = (false, eval e X.env) :: starEach es X.env := by rfl) (hplain : (backTo cpos (starEach es X.env)).any (·.1) = false := by rfl) :
    PE X (.Call (.Attribute o name apos) (e :: es) [] cpos) (tBMF r to t) := by
  refine ⟨fun pins s σ H Q I h => ?_⟩
  refine wpAny_Call_method_late hbase hfew hline rfl (thn (ho.run pins s σ H _ I h) fun v s1 ⟨x, H1, I1, r1, ty, q1⟩ => ?_)
  obtain ⟨a, xs, rfl, oo, ho2, hd⟩ := ty
  cases r1
  obtain ⟨g1, g2⟩ := I1.hok a _ ho2
  obtain ⟨hz, its, rv, hit⟩ := g2
  obtain ⟨o2, e2, hc, n2, hdat⟩ := hit
  rw [g1] at e2
  cases e2
  refine ⟨"tuple", id, F.plainAttrs_tuple, slot, hty, ⟨_, g1, hc⟩, fun b eb => ?_, ?_⟩
  · cases eb
    exact ⟨_, g1, hd⟩
  have hA := ha.run cpos pins s1 σ H1 _ I1 q1
  rw [hs] at hA ⊢
  refine Calls.callWith_builtin (by show (false || (backTo cpos (starEach es X.env)).any (·.1)) = false; rw [hplain] <;> rfl) (Calls.evalArgs_plain ?_)
  exact thn hA fun us s2 ⟨vs, H2, I2, r2, q2⟩ => hm pins s2 σ H2 (.ref a) vs _ us Q I2 (show RelV (.ref a) (Value.ref a) from rfl) r2 q2
theorem lay_ints : ∀ ns : List Int, PyData.canLayAll0 (ns.map PyData.int) = true
  | [] => rfl
  | n :: ns => by
    rw [List.map_cons, PyData.canLayAll0, lay_ints ns]
    rfl
/-- t.index(k), whole numbers, k there -/
def rIndexT (K : PySem.W.Frag) : V → List V → Hp → VK → Prop := fun x vs H Q => ∃ (a : Addr) (ns : List Int) (k : Int) (j : Nat), x = .ref a ∧ vs = [.int k] ∧ SqT K H a (ns.map V.int) ∧ ns[j]? = some k ∧ (∀ m, m < j → ns[m]? ≠ some k) ∧ Q (.int (j : Nat)) H
theorem mt_indexTI (hu : X.A.units + 65 < cLine) : MtR X "tuple.index" (rIndexT X.K) := by
  intro pins s σ H x xs v us Q I rx rxs h
  obtain ⟨a, ns, k, j, rfl, rfl, hl, hj, hno, q⟩ := h
  cases rx
  cases rxs with
  | cons ry rt =>
    rename_i uy ut
    cases rt
    obtain ⟨its, rv, pl, hlen⟩ := I.tuple hl
    obtain ⟨as, h4⟩ := Dp.readsAll I (ns.map PyData.int) _ its (dpAll_ints _ _ ns) rv
    obtain ⟨bs, r1⟩ := Dp.reads I (.int k) _ uy (.int k) ry
    have hjl := (List.getElem?_eq_some_iff.mp hj).1
    have hvl := rv.length
    rw [List.length_map] at hvl hlen
    obtain ⟨⟨cls, dd, data, sl⟩, ho, hc, n, hd'⟩ := id pl
    simp only at hc hd'
    subst hc hd'
    have hxs : PyData.canLayAll0 (ns.map PyData.int) = true := lay_ints ns
    have hmap : its.map (SeqAt.readOf s.heap) = ns.map PyData.int := SeqAt.readsAll_map _ its as hxs h4
    have at_ : ∀ (m : Nat) (hm : m < its.toArray.size) (z : Int), ns[m]? = some z → SeqAt.readOf s.heap its.toArray[m] = .int z := by
      intro m hm z hz
      have hml : m < its.length := by simpa using hm
      have e1 : (its.map (SeqAt.readOf s.heap))[m]? = some (.int z) := by rw [hmap, List.getElem?_map, hz]; rfl
      rw [List.getElem?_map, List.getElem?_eq_getElem hml] at e1
      have e2 : SeqAt.readOf s.heap its[m] = .int z := Option.some.inj e1
      simpa using e2
    have hj2 : j < its.toArray.size := by simp only [List.size_toArray]; omega
    refine call_meets F.slot_tuple_index ⟨_, ho, rfl⟩ F.entry_tuple_index (F.args_tuple_index_2 _ _)
      (TI.tuple_indexAt a its.toArray n dd sl uy (fun u => PyData.eqv (SeqAt.readOf s.heap u) (.int k)) j hj2 ?_ ?_) ⟨ho, SeqAt.items_eqAt (vs := its.toArray) (show ReadsAll s.heap its.toArray.toList (ns.map PyData.int) as from h4) r1 hxs rfl (Nat.lt_of_le_of_lt (Nat.add_le_add_left (Nat.min_le_right _ _) _) (by simp only [PyData.depth]; omega)), ?_⟩
    · show PyData.eqv (SeqAt.readOf s.heap its.toArray[j]) (.int k) = true
      rw [at_ j hj2 k hj]
      show (k == k) = true
      exact beq_self_eq_true k
    · intro m hm hmj
      have hmn : m < ns.length := by simp only [List.size_toArray] at hm; omega
      have hz : ns[m]? = some ns[m] := List.getElem?_eq_getElem hmn
      show PyData.eqv (SeqAt.readOf s.heap its.toArray[m]) (.int k) = false
      rw [at_ m hm _ hz]
      show (ns[m] == k) = false
      exact beq_eq_false_iff_ne.mpr fun z => hno m hmj (by rw [hz, z])
    · exact ⟨.int (j : Nat), H, I.tok _, ⟨_, rfl⟩, q⟩
/-- x.count(y), two names, x a list or a known tuple of whole numbers -/
def tCnt (K : PySem.W.Frag) (i j : Nat) : TE := fun σ H Q => ∃ (a : Addr) (ns : List Int) (k : Int), σ[i]? = some (some (.ref a)) ∧ σ[j]? = some (some (.int k)) ∧ (SqL K H a (ns.map V.int) ∨ TupF H a (ns.map V.int)) ∧ Q (.int (ns.count k : Nat)) H
theorem pe_cnt {e : Expr} {i j : Nat} (h1 : PE X e (tBM X.K "list" (rCountL X.K) (tVar i) (tCons (tVar j) tNil))) (h2 : PE X e (tBMF (rCountT X.K) (tVar i) (tCons (tVar j) tNil))) : PE X e (tCnt X.K i j) := by
  refine ⟨fun pins s σ H Q I h => ?_⟩
  obtain ⟨a, ns, k, e1, e2, h, q⟩ := h
  rcases h with h | h
  · exact h1.run pins s σ H Q I ⟨_, e1, .inl ⟨rfl, _, h⟩, _, e2, a, ns, k, rfl, rfl, h, q⟩
  · exact h2.run pins s σ H Q I ⟨_, e1, ⟨a, _, rfl, h⟩, _, e2, a, ns, k, rfl, rfl, h.sq, q⟩
end
/-- two promises of one def -/
theorem FnOk.or {P : Program} {w : World} {K : PySem.W.Frag} {mg : Str → Option Value} {base : Heap} {CX : CXT} {k : Nat} {f : Addr} {fd : FuncData} {ps : List Str} {s1 s2 : Sp} (F1 : FnOk P w K mg base CX k f fd ps s1) (F2 : FnOk P w K mg base CX k f fd ps s2) :
    FnOk P w K mg base CX k f fd ps (fun vs H Q E => s1 vs H Q E ∨ s2 vs H Q E) := by
  refine ⟨fun vs H Q E h => h.elim (F1.len vs H Q E) (F2.len vs H Q E), ?_⟩
  intro A outer s H args us vs Q E hr e b
  have h1 := F1.run A outer s H args us vs Q E hr e b
  have h2 := F2.run A outer s H args us vs Q E hr e b
  intros
  first
    | (rename_i h; exact h.elim (fun z => h1 (by assumption) z) (fun z => h2 (by assumption) z))
    | (rename_i h; exact h.elim h1 h2)
end L2

set_option Elab.async false
set_option linter.all false
set_option maxRecDepth 100000
set_option maxHeartbeats 2000000
/-! own rules: tuple(xs), xs a list or a tuple, in one reading -/
namespace L2
open PySem PySem.Spec PyProof.Rows L2
def rTupU : List V → Hp → VK → Prop := fun xs H Q => ∃ p ys, xs = [V.ref p] ∧ (H p = some (.lst ys) ∨ H p = some (.tup ys)) ∧ ∀ t H', Same H H' → H' t = some (.tup ys) → Q (.ref t) H'
theorem call_tupU {X : Cx} : CallR X (.type "tuple") rTupU := by
  intro pins s σ H xs us Q I r ⟨p, ys, e, h, q⟩
  rcases h with h | h
  · exact call_tuple_of pins s σ H xs us Q I r ⟨p, ys, e, .inl ⟨SqL.of h, fun l nl => q l _ (fun b o e => by rw [upd_ne (ne_of_none e nl)]; exact e) upd_same⟩⟩
  · exact call_tuple_of pins s σ H xs us Q I r ⟨p, ys, e, .inr ⟨SqT.of h, q p H (Same.refl _) h⟩⟩
def rCatU : R2 := fun x y H Q => ∃ a b xs ys, x = .ref a ∧ y = .ref b ∧ H a = some (.tup xs) ∧ H b = some (.tup ys) ∧ xs.length + ys.length ≤ sizeLine ∧ ∀ t H', Same H H' → H' t = some (.tup (xs ++ ys)) → Q (.ref t) H'
theorem op_catU {X : Cx} : OpR X (binaryOp .Add) rCatU := by
  intro pins s σ H x y v u Q I rx ry h
  obtain ⟨a, b, xs, ys, ex, ey, ha, hb, hz, q⟩ := h
  refine op_catA pins s σ H x y v u Q I rx ry ⟨a, b, xs, ys, ex, ey, SqT.of ha, SqT.of hb, hz, fun e => ?_, fun _ e => ?_, fun _ _ p np => q p _ (fun b o e => by rw [upd_ne (ne_of_none e np)]; exact e) upd_same⟩
  · exact q b H (fun _ _ e => e) (by rw [e]; exact hb)
  · exact q a H (fun _ _ e => e) (by rw [e, List.append_nil]; exact ha)
def rSlU : V → Option Int → Option Int → Hp → VK → Prop := fun x lo hi H Q => ∃ a xs, x = .ref a ∧ H a = some (.tup xs) ∧ ∀ (p : Addr) (H' : Hp), Same H H' → H' p = some (.tup (cutV xs lo hi)) → Q (.ref p) H'
theorem sl_tupU {X : Cx} : SlR X rSlU := by
  intro pins s σ H x v vl vu lo hi sl Q I rx hs pl pu h
  obtain ⟨a, xs, ex, hx, q⟩ := h
  refine sl_tupA pins s σ H x v vl vu lo hi sl Q I rx hs pl pu ⟨a, xs, ex, SqT.of hx, fun y => ?_, fun _ p np => q p _ (fun b o e => by rw [upd_ne (ne_of_none e np)]; exact e) upd_same⟩
  refine q a H (fun _ _ e => e) ?_
  have : cutV xs lo hi = xs := by
    unfold cutV
    rw [y.1, y.2, List.drop_zero, Nat.sub_zero, List.take_length]
  rw [this]
  exact hx
end L2
namespace Tw
open PySem PySem.Spec PyProof.Rows L2 PySem.W
section
variable {X : Cx} {CX : CXT} {k : Nat} {f C D : Addr} {fd : FuncData} {ps : List Str} {sp : Sp} {E : XK}
theorem op_eq_two (c : EqC X.K C f) (hd : PySem.W.notFirst X.K C (.ref D) = true) (F : FnOk X.prog X.w X.K X.mg X.base CX k f fd ps sp) (hr : Room k X.A) (hb : Binds X.K fd ps []) (hx : Passes CX X E) : OpR X (compareOp .Eq) (fun x y H Q =>
  ∃ a dx fs b dy gs, x = .ref a ∧ H a = some (.ins C dx fs) ∧ y = .ref b ∧ H b = some (.ins D dy gs) ∧ sp [.ref a, y] H (fun v H' => ∃ r, v = .bl r ∧ Q (.bl r) H') E) := by
  intro pins s σ H x y v u Q I rx ry ⟨a, dx, fs, b, dy, gs, ex, ha, ey, hb2, q⟩
  subst ex
  subst ey
  obtain rfl : v = Value.ref a := rx
  obtain rfl : u = Value.ref b := ry
  obtain ⟨mA, O, rr, _, _, _⟩ := ins_get I.hok ha
  obtain ⟨od, J, hl⟩ := O.look
  obtain ⟨mB, OB, rrB, _, _, _⟩ := ins_get I.hok hb2
  obtain ⟨odB, JB, hlB⟩ := OB.look
  obtain ⟨m0, hF⟩ := I.fr
  show wpAny _ _ (richCompare .Eq (.ref a) (.ref b)) _ _ _
  refine cmp_K hr.units0 hF I.ok.mod.kin J JB.type hd c.eq c.fn (thn (run_sub F ⟨hr, rfl⟩ hb hx I (.cons (relR a) (.cons (relR b) .nil)) q) fun r s' ⟨z, H', I', rz, b2, ez, q'⟩ => ?_)
  subst ez
  obtain rfl : r = Value.bool b2 := rz
  exact ⟨_, H', I', relB b2, q'⟩
end
end Tw

set_option Elab.async false
set_option linter.all false
set_option maxRecDepth 100000
set_option maxHeartbeats 2000000
/-! own rules: min(xs, key=lambda x: ys[x]), ys a tuple, a name of the def; t[::-1], t a tuple -/
namespace Cl
open PySem PySem.Spec PyProof.Rows L2 LamX
theorem tuple_getitem_lookup : typeLookup (Value.type "tuple") (Str.ofString "__getitem__") = pure (some (Value.builtin "tuple.__getitem__")) := rfl
section
variable {prog : Program} {w : World} {A : Around} {E : Value → Shared → Prop} {s : Shared}
theorem seqT {i : Int} {vs : List Value} {u : Value} (h0 : 0 ≤ i) (h : vs[i.toNat]? = some u) : seqIndex? i vs.toArray.size = some i.toNat := by
  have hl := (List.getElem?_eq_some_iff.mp h).1
  unfold seqIndex?
  have e : vs.toArray.size = vs.length := by simp
  rw [e, if_neg (show ¬ i < 0 by omega)]
  show (if (decide (0 ≤ i) && decide (i < (vs.length : Int))) = true then some i.toNat else none) = _
  rw [decide_eq_true h0, decide_eq_true (show i < (vs.length : Int) by omega)]
  rfl
/-- lambda x: y[x], called with an int -/
theorem lam_ixT {f l c' ck : Addr} {q x y : Str} {params : Arguments} {p1 p2 p3 : Pos} {scope : Scope} {cl : List (Str × Addr)} {pm ctv u : Value} {vs : List Value} {i : Int} {t : Tok} {Q : Value → Shared → Prop}
    (S : LSc scope x y) (hd : A.depth < recursionLimit) (hf : s.heap.get? f = some (PySem.W.kla_obj "<lambda>" q params (.Subscript (.Name y p1) (.Name x p2) p3) scope cl pm c' ctv))
    (hbind : ∀ v : Value, bindArgs (PySem.W.kla_fn "<lambda>" q params (.Subscript (.Name y p1) (.Name x p2) p3) scope cl pm (.ref c') ctv) ⟨[v], []⟩ = pure [(x, v)])
    (hcode : ∃ (oc : Obj) (us : Array Value) (tk : Tok), s.heap.get? c' = some oc ∧ oc.data = .fields us ∧ us[1]? = some (.str q tk)) (hlim : s.heap.NoLimit)
    (hck : cl.lookup y = some ck) (hcell : s.heap.IsCell ck (some (.ref l))) (hl : IsTup s.heap l vs.toArray) (h0 : 0 ≤ i) (h1 : i < 2 ^ 63) (hi : vs[i.toNat]? = some u)
    (hdx : (x == ("__debug__" : Str)) = false) (hdy : (y == ("__debug__" : Str)) = false) (hcy : (y == ("__classdict__" : Str)) = false)
    (h : ∀ h' tk, s.toks ≤ tk → (∀ b o, s.heap.get? b = some o → h'.get? b = some o) → Q u { s with heap := h', toks := tk }) : wpAny (model prog w) A (call (.ref f) [.int i t]) Q E s := by
  obtain ⟨oc, us, tq, hoc, hdc, hvc⟩ := hcode
  refine wpAny_call (PySem.W.kla_callFunE hd hf rfl S.co S.gen rfl ⟨c', oc, us, tq, rfl, hoc, hdc, hvc⟩ ?_)
  rw [hbind]
  refine wpAny_pure (wpAny_newFunctionEnv S.nocell (fun z hz => by rw [List.mem_singleton.mp hz]; exact S.px) (fun h₁ hns hsb => ⟨hlim.fresh _ hsb, ?_⟩) S.kind)
  have kp : ∀ b o, s.heap.get? b = some o → h₁.get? b = some o := fun b o e => hsb.extBut b o (Nat.ne_of_lt (Heap.lt_size e)) (Heap.get?_push_of_some _ e)
  refine PySem.W.kla_codeExpr ?_
  refine wpAny_Subscript_Name tuple_getitem_lookup ?_
  refine wpAny_Name (wpAny_loadName_free S.kind S.fy hck (hcell.keeps kp) ?_ hcy) hdy
  refine wpAny_Name (wpAny_loadName_local S.kind S.px hns (v := .int i t) ?_ ?_) hdx
  · simp [List.lookup]
  · have hl' : IsTup h₁ l vs.toArray := hl.keeps kp
    refine ⟨hl'.typeIs, getItem_tuple hl' (by omega) h1 (j := i.toNat) (seqT h0 hi) (by simpa using hi) ?_⟩
    exact h h₁ _ (by show s.toks ≤ s.toks + _; omega) kp
/-- what a lambda x: y[x] is, and what it reads -/
structure LamAtT (h : Heap) (f : Addr) (x y : Str) (q : Str) (params : Arguments) (p1 p2 p3 : Pos) (scope : Scope) (cl : List (Str × Addr)) (pm ctv : Value) (c' ck l : Addr) (us : List Value) : Prop where
  fn : h.get? f = some (PySem.W.kla_obj "<lambda>" q params (.Subscript (.Name y p1) (.Name x p2) p3) scope cl pm c' ctv)
  code : ∃ (oc : Obj) (us : Array Value) (tk : Tok), h.get? c' = some oc ∧ oc.data = .fields us ∧ us[1]? = some (.str q tk)
  lim : h.NoLimit
  hck : cl.lookup y = some ck
  cell : h.IsCell ck (some (.ref l))
  lst : IsTup h l us.toArray
theorem LamAtT.keeps {h h' : Heap} {f : Addr} {x y : Str} {q : Str} {params : Arguments} {p1 p2 p3 : Pos} {scope : Scope} {cl : List (Str × Addr)} {pm ctv : Value} {c' ck l : Addr} {us : List Value}
    (L : LamAtT h f x y q params p1 p2 p3 scope cl pm ctv c' ck l us) (k : ∀ b o, h.get? b = some o → h'.get? b = some o) : LamAtT h' f x y q params p1 p2 p3 scope cl pm ctv c' ck l us :=
  ⟨k _ _ L.fn, let ⟨oc, us, tk, a, b, c⟩ := L.code; ⟨oc, us, tk, k _ _ a, b, c⟩, L.lim.keeps k, L.hck, L.cell.keeps k, L.lst.keeps k⟩
theorem min_lamT {f a l c' ck : Addr} {q x y : Str} {params : Arguments} {p1 p2 p3 : Pos} {scope : Scope} {cl : List (Str × Addr)} {pm ctv : Value} {cs us : List Value} {ns : Nat → Int} {kf : Nat → Int} {Q : Value → Shared → Prop}
    (hh : A.handled = none) (S : LSc scope x y) (hd : A.depth < recursionLimit) (L : LamAtT s.heap f x y q params p1 p2 p3 scope cl pm ctv c' ck l us)
    (hbind : ∀ v : Value, bindArgs (PySem.W.kla_fn "<lambda>" q params (.Subscript (.Name y p1) (.Name x p2) p3) scope cl pm (.ref c') ctv) ⟨[v], []⟩ = pure [(x, v)])
    (hdx : (x == ("__debug__" : Str)) = false) (hdy : (y == ("__debug__" : Str)) = false) (hcy : (y == ("__classdict__" : Str)) = false)
    (ht : s.heap.IsTuple a cs.toArray) (hc : ∀ i, i < cs.length → ∃ t, cs[i]? = some (.int (ns i) t)) (hne : 0 < cs.length)
    (hk : ∀ i, i < cs.length → 0 ≤ ns i ∧ ns i < 2 ^ 63 ∧ ∃ t, us[(ns i).toNat]? = some (.int (kf i) t))
    (h : ∀ v h' tk, cs[argBest (fun i j => decide (kf i < kf j)) (cs.length - 1)]? = some v → (∀ b o, s.heap.get? b = some o → h'.get? b = some o) → Q v { s with heap := h', toks := tk }) :
    wpAny (model prog w) A (call (.builtin "min") [.ref a] [(Str.ofString "key", .ref f)]) Q E s := by
  have hd1 : A.in1.depth < recursionLimit := hd
  refine call_min_walkK (PySem.W.iter_tupleW (A := A.in1) hh ht fun s₂ e2 W st hfp hfr kp2 => ?_)
  have sz2 : s.heap.objs.size < s₂.heap.objs.size := hfp _ List.mem_cons_self
  have old : ∀ {s' : Shared}, Moved [s₂.heap.objs.size, s.heap.objs.size] (fun a b => b = a) s₂ s' → ∀ b o, s.heap.get? b = some o → s'.heap.get? b = some o := fun {s'} m b o e => by
    have lt := Heap.lt_size e
    refine m.heap b o (fun hm => ?_) (kp2 b o e)
    rcases List.mem_cons.mp hm with z | hm
    · rw [z] at lt
      exact Nat.lt_irrefl _ (Nat.lt_trans lt sz2)
    · rw [List.mem_singleton.mp hm] at lt
      exact Nat.lt_irrefl _ lt
  have szc : cs.toArray.size = cs.length := by simp
  refine ⟨s.heap.objs.size, [s.heap.objs.size, a], [s.heap.objs.size], (fun a b => b = a), cs.toArray.size, _, _, fun s' => Moved [s₂.heap.objs.size, s.heap.objs.size] (fun a b => b = a) s₂ s', fun i k _ => ∃ t, k = .int (kf i) t, fun i j => decide (kf i < kf j), rfl, W, st, hfp, by rw [szc]; exact hne, ⟨?_, ?_, ?_, ?_⟩, Moved.refl fun _ => rfl, ?_⟩
  · exact fun s1 s' J m => J.trans (fun _ _ _ h1 h2 => h2.trans h1) m
  · exact fun i k s1 s' v _ => v
  · intro i v s1 o Q' E' hi hP J stI hS cont
    rw [szc] at hi
    obtain ⟨t, ec⟩ := hc i hi
    have ev : v = .int (ns i) t := by
      have hP' : cs[i]? = some v := by simpa using hP
      rw [ec] at hP'
      exact (Option.some.inj hP').symm
    subst ev
    obtain ⟨h0, h1, tk, eu⟩ := hk i hi
    have L1 := L.keeps (old J)
    refine lam_ixT S hd1 L1.fn hbind L1.code L1.lim L1.hck L1.cell L1.lst h0 h1 eu hdx hdy hcy fun h' tk' hle kp => ?_
    exact cont _ _ (J.then_heap hle fun b o _ e => kp b o e) (W.frame _ s1 h' tk' stI hle fun b _ o e => kp b o e) (kp _ _ hS) ⟨_, rfl⟩ fun j k' z => z
  · intro i j ki kj s1 Q' E' J vi vj q
    exact CmpOf.ints_lt (prog := prog) (w := w) (A := A.in1) (P := fun i v => ∃ t, v = .int (kf i) t) kf (fun i v h => h) i j ki kj s1 Q' E' vi vj q
  · intro v s' hP J
    rw [szc] at hP
    have hP' : cs[argBest (fun i j => decide (kf i < kf j)) (cs.length - 1)]? = some v := by simpa using hP
    have e : s' = { s with heap := s'.heap, toks := s'.toks } := by
      obtain ⟨hp, g, d, tk, os⟩ := s'
      subst e2
      have h1 : g = s.gens := J.gens
      have h2 : d = s.drawn := J.drawn
      have h3 : os = s.os := J.os
      subst h1 h2 h3
      rfl
    rw [e]
    exact h v s'.heap s'.toks hP' (old J)
end
section
variable {X : Cx}
def tMinLamT (K : PySem.W.Frag) (T : List (Addr × Str)) (j : Nat) (te : TE) : TE := fun σ H Q => te σ H fun v H1 => ∃ (a l : Addr) (ns ks : List Int), v = .ref a ∧ SqT K H1 a (ns.map V.int) ∧ σ[j]? = some (some (.ref l)) ∧ SqT K H1 l (ks.map V.int) ∧ 0 < ns.length ∧ (∀ n ∈ ns, 0 ≤ n ∧ n < ks.length) ∧
  Tabs T H1 ∧ ∀ (m : Int) (H2 : Hp), ExtN H1 H2 → Tabs T H2 → LeastAt ks ns m → Q (.int m) H2
/-- min(e, key=lambda x: y[x]), y a name of the def that it shares with the lambda -/
theorem pe_minlamT {T : List (Addr × Str)} {c P : Addr} {p p1 p2 p3 lpos kpos pos : Pos} {e : Expr} {te : TE} {x y : Str} {j : Nat} {params : Arguments} {scope : Scope}
    (hg : Gl X "min") (hm : X.mg "min" = none) (he : PE X e te) (hd : X.A.depth < recursionLimit) (hh : X.A.handled = none) (TB : TabB X.base X.mg c P) (hcode : X.env.code = .ref c) (hmT : (P, X.env.qual ++ "<lambda>") ∈ T)
    (hu : ∀ q ∈ T, q.1 = P → q.2 = X.env.qual ++ "<lambda>") (S : LSc scope x y) (hfy : X.env.scope.names.lookup y = some .cell) (hfr : ∀ z ∈ scope.names, z.2 = .free → z.1 = y) (hN : X.N[j]? = some y) (hdef : defaultsOf params X.env = ([], []))
    (hbind : ∀ (q : Str) (cl : List (Str × Addr)) (pm cv ctv v : Value), bindArgs (PySem.W.kla_fn "<lambda>" q params (.Subscript (.Name y p1) (.Name x p2) p3) scope cl pm cv ctv) ⟨[v], []⟩ = pure [(x, v)])
    (hs : starEach [e] X.env = (false, eval e X.env) :: starEach [] X.env := by rfl)
    (hdx : (x == ("__debug__" : Str)) = false := by decide) (hdy : (y == ("__debug__" : Str)) = false := by decide) (hcy : (y == ("__classdict__" : Str)) = false := by decide) :
    PE X (.Call (.Name "min" p) [e] [⟨some "key", .Lambda params (.Subscript (.Name y p1) (.Name x p2) p3) scope lpos, kpos⟩] pos) (tMinLamT X.K T j te) := by
  refine ⟨fun pins s σ H Q I h => ?_⟩
  have hfree : ∀ z ∈ scope.names, z.2 = .free → ∃ c, X.env.cells.lookup z.1 = some c := fun z hz e => I.ok.has _ (.inl (by rw [hfr z hz e]; exact hfy))
  refine wpAny_Call_Name_kw (ld_blt I hg hm (u := .builtin "min") (by decide +kernel) ?_)
  refine PyProof.Rows.callWith_kw ?_ (by rw [hs]; rfl) (by rw [hs]; rfl) (by rfl) (by rfl)
  rw [hs]
  show wpAny _ _ (spliced ((false, eval e X.env) :: backTo pos (starEach [] X.env))) _ _ s
  refine Calls.spliced_cons (thn (he.run pins s σ H _ I h) fun u s1 ⟨v, H1, I1, r1, a, l, ns, ks, ev, ht, hσ, hl, hne, hin, hT, q⟩ => Calls.spliced_nil ?_)
  subst ev
  obtain rfl : u = Value.ref a := r1
  show wpAny _ _ (evalAll ((do let v ← eval (.Lambda params (.Subscript (.Name y p1) (.Name x p2) p3) scope lpos) X.env; standAt pos; pure v) :: [])) _ _ s1
  refine wpAny_evalAll_cons (wpAny_bind (lam_make2 I1 TB hcode hmT hu hT hdef hfree fun f c' pm ctv H2 s2 I2 eN T2 hf hfn hff hco => wpAny_bind (wpAny_standAt (wpAny_pure (wpAny_evalAll_nil ?_)))))
  show wpAny _ _ (call (.builtin "min") [.ref a] [(Str.ofString "key", .ref f)]) _ _ s2
  obtain ⟨cs, rc, tc, _⟩ := I2.tuple (eN.sqT ht)
  obtain ⟨us, ru, pl, hz2⟩ := I2.tuple (eN.sqT hl)
  obtain ⟨m, _, look⟩ := I2.loc
  obtain ⟨u0, r0, lk⟩ := look j y _ hN hσ (.inr (.inl hfy))
  obtain rfl : u0 = Value.ref l := r0
  have cellAt : ∃ ck, X.env.cells.lookup y = some ck ∧ s2.heap.IsCell ck (some (.ref l)) := by
    rcases lk with ⟨k, _⟩ | ⟨_, ck, e1, e2⟩
    · rw [show X.env.kindOf y = some .cell from hfy] at k
      cases k
    · exact ⟨ck, e1, e2⟩
  obtain ⟨ck, eck, hcell⟩ := cellAt
  obtain ⟨⟨oc, vs, tk, o1, o2, o3⟩, _, _⟩ := I2.hok c' _ hco
  have lc : cs.length = ns.length := by rw [← rc.length, List.length_map]
  have lu : us.length = ks.length := by rw [← ru.length, List.length_map]
  have nsAt : ∀ i, i < ns.length → ∃ t, cs[i]? = some (.int (ns.getD i 0) t) := fun i hi => by
    obtain ⟨z, ez, rz⟩ := rc.get (i := i) (x := V.int (ns.getD i 0)) (by rw [List.getElem?_map, List.getD_eq_getElem?_getD, List.getElem?_eq_getElem hi]; rfl)
    obtain ⟨t, rfl⟩ := rz
    exact ⟨t, ez⟩
  refine min_lamT (ns := fun i => ns.getD i 0) (kf := fun i => ks.getD (ns.getD i 0).toNat 0) hh S hd ⟨hf, ⟨oc, vs, tk, o1, o2, o3⟩, I2.nolimit, NdefX.clo_has hfree (PySem.mem_of_lookup S.fy) eck, hcell, pl⟩ (fun v => hbind _ _ _ _ _ v) hdx hdy hcy tc (fun i hi => nsAt i (by omega)) (by omega)
    (fun i hi => ?_) fun v h' tk2 hv kp => ?_
  · have hi' : i < ns.length := by omega
    have hmem : ns.getD i 0 ∈ ns := by rw [List.getD_eq_getElem?_getD, List.getElem?_eq_getElem hi']; exact List.getElem_mem hi'
    obtain ⟨b0, b1⟩ := hin _ hmem
    have hs63 := line63
    rw [List.length_map] at hz2
    have hk' : (ns.getD i 0).toNat < ks.length := by omega
    obtain ⟨z, ez, rz⟩ := ru.get (i := (ns.getD i 0).toNat) (x := V.int (ks.getD (ns.getD i 0).toNat 0)) (by rw [List.getElem?_map, List.getD_eq_getElem?_getD (l := ks), List.getElem?_eq_getElem hk']; rfl)
    obtain ⟨t, rfl⟩ := rz
    exact ⟨b0, by omega, t, ez⟩
  · obtain ⟨n, en⟩ : ∃ n, ns.length = n + 1 := ⟨ns.length - 1, by omega⟩
    have fl := best_is (fun i => ks.getD (ns.getD i 0).toNat 0) n
    rw [← en] at fl
    rw [lc, show ns.length - 1 = n by omega] at hv
    obtain ⟨t, et⟩ := nsAt _ fl.1
    rw [et] at hv
    cases hv
    exact ⟨.int _, H2, I2.kept kp, ⟨t, rfl⟩, q _ H2 eN T2 ⟨_, fl, rfl⟩⟩
end
end Cl
namespace L2
open PySem PySem.Spec PyProof.Rows L2
section
variable {prog : Program} {w : World} {A : Around} {E : Value → Shared → Prop} {s : Shared}
theorem pick_rev (items : Array Value) : (List.filterMap (fun (k : Nat) => items[((items.size : Int) - 1 + ↑k * -1).toNat]?) (List.range items.size)) = items.toList.reverse := by
  obtain ⟨l⟩ := items
  simp only [List.size_toArray, List.getElem?_toArray]
  have h : ∀ m, m ≤ l.length → List.filterMap (fun (k : Nat) => l[((l.length : Int) - 1 + ↑k * -1).toNat]?) (List.range m) = (l.drop (l.length - m)).reverse := by
    intro m
    induction m with
    | zero => intro _; simp
    | succ m ih =>
      intro hm
      rw [List.range_succ, List.filterMap_append, ih (by omega)]
      have hi : l.length - (m + 1) < l.length := by omega
      have e1 : List.filterMap (fun (k : Nat) => l[((l.length : Int) - 1 + ↑k * -1).toNat]?) [m] = [l[l.length - (m + 1)]] := by
        rw [List.filterMap_cons]
        rw [show (((l.length : Int) - 1 + ((m : Nat) : Int) * -1).toNat) = l.length - (m + 1) by omega, List.getElem?_eq_getElem hi]
        rfl
      have e2 : l.drop (l.length - (m + 1)) = l[l.length - (m + 1)] :: l.drop (l.length - m) := by
        rw [List.drop_eq_getElem_cons hi, show l.length - (m + 1) + 1 = l.length - m by omega]
      rw [e1, e2, List.reverse_cons]
  rw [h _ (Nat.le_refl _), Nat.sub_self, List.drop_zero]
theorem sliceApplied_rev {sl : Addr} {t : Tok} {n : Nat} {Q : Int × Int × Nat → Shared → Prop} (h : s.heap.IsSliceOf sl .none .none (.int (-1) t)) (q : Q ((n : Int) - 1, -1, n) s) :
    wpAny (model prog w) A (Builtin.Slice.sliceApplied (.ref sl) (pure ↑n)) Q E s := by
  obtain ⟨o, h1, h2, h3⟩ := h
  unfold Builtin.Slice.sliceApplied
  refine wpAny_bind ?_
  unfold Builtin.Slice.sliceFields
  refine wpAny_bind (wpAny_field h1 h3 (by rfl) ?_)
  refine wpAny_bind (wpAny_field h1 h3 (by rfl) ?_)
  refine wpAny_bind (wpAny_field h1 h3 (by rfl) ?_)
  refine wpAny_pure ?_
  refine wpAny_bind (slicePart_int ?_)
  show wpAny _ _ (if ((-1 : Int) == 0) = true then _ else _) _ _ _
  rw [if_neg (by decide)]
  refine wpAny_bind (slicePart_none ?_)
  refine wpAny_bind (slicePart_none ?_)
  refine wpAny_bind (wpAny_pure ?_)
  have e : Builtin.Slice.sliceAdjust none none (-1) (n : Int) = ((n : Int) - 1, -1) := rfl
  show wpAny _ _ (match Builtin.Slice.sliceAdjust none none (-1) (n : Int) with | (lo, hi) => pure (lo, -1, Builtin.Slice.slicePlaces lo hi (-1))) _ _ _
  rw [e]
  refine wpAny_pure ?_
  have e2 : Builtin.Slice.slicePlaces ((n : Int) - 1) (-1) (-1) = n := by
    unfold Builtin.Slice.slicePlaces
    rw [if_neg (by decide)]
    by_cases h0 : n = 0
    · subst h0
      rfl
    · rw [if_pos (by omega)]
      show (((n : Int) - 1 - -1 - 1) / 1 + 1).toNat = n
      omega
  rw [e2]
  exact q
theorem getItem_tuple_rev {t sl : Addr} {items : Array Value} {tk : Tok} {Q : Value → Shared → Prop} (ht : IsTup s.heap t items) (hs : s.heap.IsSliceOf sl .none .none (.int (-1) tk)) (hz : items.size ≤ sizeLine)
    (q : Q (.ref s.heap.objs.size) { s with heap := s.heap.push { cls := .type "tuple", data := .seq items.toList.reverse.toArray } }) : wpAny (model prog w) A (getItem (.ref t) (.ref sl)) Q E s := by
  unfold getItem
  refine wpAny_holding ?_
  refine wpAny_bind (wpAny_sequenceKey ht.typeIs (by decide) ?_)
  refine wpAny_bind (wpAny_callSpecial?_slot ht.typeIs slot_tuple_getitem (wpAny_call_entry slot_tuple_getitem ht.typeIs entry_tuple_getitem ?_ (args_tuple_getitem _ _)))
  unfold Builtin.«tuple.__getitem__»
  show wpAny _ _ (do
      let xs ← Builtin.Tuple.tupleItemsOf (.ref t)
      _) _ _ _
  refine wpAny_bind (tupleItemsOf_ ht ?_)
  obtain ⟨o, h1, h2, h3⟩ := id hs
  refine wpAny_bind (wpAny_typeOf (T := "slice") ⟨_, h1, h2⟩ ?_)
  rw [if_pos (by decide)]
  refine wpAny_bind (sliceApplied_rev hs ?_)
  show wpAny _ _ (if (((items.size : Int) - 1) == 0 && ((-1 : Int) == 1) && items.size == items.size) = true then _ else _) _ _ _
  rw [if_neg (by simp)]
  refine wpAny_bind ?_
  unfold Builtin.Tuple.tupleExact
  refine wpAny_newObj_type ?_ ?_
  · rw [pick_rev]
    refine wpAny_pure ⟨_, rfl, ?_⟩
    exact wpAny_pure q
  · show sizeOk (.seq _)
    rw [pick_rev]
    show (items.toList.reverse.toArray).size ≤ sizeLine
    simpa using hz
end
section
variable {X : Cx}
/-- t[::-1], t a tuple -/
def tRevT (K : PySem.W.Frag) (te ts : TE) : TE := fun σ H Q => te σ H fun x H1 => ts σ H1 fun y H2 => y = .int (-1) ∧ ∃ a xs, x = .ref a ∧ SqT K H2 a xs ∧ ∀ (p : Addr) (H' : Hp), Same H2 H' → H' p = some (.tup xs.reverse) → Q (.ref p) H'
theorem pe_revT {e st : Expr} {p3 pos : Pos} {te ts : TE} (he : PE X e te) (hs : PE X st ts) : PE X (.Subscript e (.Slice none none (some st) p3) pos) (tRevT X.K te ts) := by
  refine ⟨fun pins s σ H Q I h => ?_⟩
  refine Subscript_ (thn (he.run pins s σ H _ I h) fun v s1 ⟨x, H1, I1, r1, h1⟩ => ?_)
  refine wpAny_Slice ?_
  rw [evalPart_none]
  refine wpAny_pure (wpAny_pure ?_)
  show wpAny _ _ (eval st X.env) _ _ s1
  refine thn (hs.run pins s1 σ H1 _ I1 h1) fun u s2 ⟨y, H2, I2, r2, ey, a, xs, ex, ht, q⟩ => ?_
  subst ey
  subst ex
  obtain ⟨tk, rfl⟩ := r2
  obtain rfl : v = Value.ref a := r1
  have I3 := I2.kept (t' := s2.toks) (h' := s2.heap.push { cls := .type "slice", data := .fields #[.none, .none, .int (-1) tk] }) fun b o e => Heap.get?_push_of_some _ e
  obtain ⟨its, rv, tt, hz⟩ := I3.tuple ht
  have hl := rv.length
  refine tail_any (T := "tuple") tt.typeIs rfl ?_ rfl
  refine getItem_tuple_rev tt (Heap.IsSliceOf.new _ _ _ _) (by simp only [List.size_toArray]; omega) ?_
  generalize s2.heap.push { cls := .type "slice", data := .fields #[.none, .none, .int (-1) tk] } = h3 at I3 tt
  have hn := I3.hok.fresh (Nat.le_refl h3.objs.size)
  exact ⟨.ref h3.objs.size, _, I3.laid (t' := s2.toks) (fun b o e => Heap.get?_push_of_some _ e) (Nat.le_refl _) (show ObjOk X.prog X.w _ _ _ (.tup xs.reverse) from ⟨by rw [List.length_reverse]; exact hz, its.reverse, rv.reverse, IsTup.new _ _⟩), rfl, q _ _ (fun b o e => by rw [upd_ne (ne_of_none e hn)]; exact e) upd_same⟩
end
end L2
namespace Tw
open PySem PySem.Spec PyProof.Rows L2 PySem.W
section
variable {X : Cx} {CX : CXT} {k : Nat} {f C D : Addr} {fd : FuncData} {ps : List Str} {sp : Sp} {E : XK}
theorem op_notIn_own (hd : Dn X.K C "__contains__" f) (F : FnOk X.prog X.w X.K X.mg X.base CX k f fd ps sp) (hr : Room k X.A) (hb : Binds X.K fd ps []) (hx : Passes CX X E) : OpR X (compareOp .NotIn) (rIn C sp E true) := by
  intro pins s σ H x y v u Q I rx ry ⟨a, dx, fs, ey, ha, q⟩
  subst ey
  obtain rfl : u = Value.ref a := ry
  obtain ⟨mA, O, rr, _, _, _⟩ := ins_get I.hok ha
  obtain ⟨od, J, hl⟩ := O.look
  obtain ⟨m0, hF⟩ := I.fr
  refine PySem.W.notIn_K hF I.ok.mod.kin J hd.at_ hd.fn (thn (run_sub F ⟨hr, rfl⟩ hb hx I (.cons (relR a) (.cons rx .nil)) q) fun r s' ⟨z, H', I', rz, b, ez, q'⟩ => ?_)
  subst ez
  obtain rfl : r = Value.bool b := rz
  exact wpAny_truthy_bool ⟨_, _, I', relB (!b), q'⟩
end
end Tw

set_option Elab.async false
set_option linter.all false
set_option maxRecDepth 100000
set_option maxHeartbeats 4000000
/-! t * n, t a tuple, n from 0 on -/
namespace PySem
open PySem PySem.W PySem.AutoSeq1
theorem tuple_mul1 (l : Addr) (items : Array Value) (n : Nat) (dd : Option Addr) (sl : Array (Option Value)) (u : Tok) :
    Meets (Builtin.«tuple.__mul__» ⟨[.ref l, .int 1 u], []⟩) (fun _ R s => s.heap.get? l = some { cls := .type "tuple", dict := dd, data := .seq items n, slots := sl } ∧ R (.ok (.ret (.ref l))) s) :=
  .of_wp fun prog w A R s h => by
    obtain ⟨hp, g, d, tk, os⟩ := s
    obtain ⟨hl, h⟩ := h
    have f1 := idx_int
    have f2 := sub_tuple_tuple
    have h1 : (decide ((1 : Int) < -2 ^ 63) || decide ((1 : Int) ≥ 2 ^ 63)) = false := by decide
    have h2 : (items.isEmpty || (1 : Int) == 1) = true := by simp
    wp_walk using wpAny_loadPart' hl
    exact ⟨_, rfl, h⟩
theorem tuple_mul0 (l : Addr) (items : Array Value) (n : Nat) (dd : Option Addr) (sl : Array (Option Value)) (u : Tok) (hne : items.isEmpty = false) :
    Meets (Builtin.«tuple.__mul__» ⟨[.ref l, .int 0 u], []⟩) (fun _ R s => s.heap.get? l = some { cls := .type "tuple", dict := dd, data := .seq items n, slots := sl } ∧ R (.ok (.ret (.ref s.heap.objs.size))) { s with heap := s.heap.push { cls := .type "tuple", data := .seq #[] 0 } }) :=
  .of_wp fun prog w A R s h => by
    obtain ⟨hp, g, d, tk, os⟩ := s
    obtain ⟨hl, h⟩ := h
    have f1 := idx_int
    have f2 := sub_tuple_tuple
    have h1 : (decide ((0 : Int) < -2 ^ 63) || decide ((0 : Int) ≥ 2 ^ 63)) = false := by decide
    have h2 : (items.isEmpty || (0 : Int) == 1) = false := by simp [hne]
    have h3 : (decide ((0 : Int) ≤ 0) || items.isEmpty) = true := by simp
    wp_walk using wpAny_loadPart' hl
    exact ⟨_, rfl, h⟩
end PySem
namespace L2
open PySem PySem.Spec PyProof.Rows PySem.W
def rRepU : R2 := fun x y H Q => ∃ (l : Addr) (k : Nat) (xs : List V), x = .ref l ∧ y = .int k ∧ H l = some (.tup xs) ∧ xs ≠ [] ∧ k ≤ 1000 ∧ xs.length ≤ 1000 ∧ ∀ t H', Same H H' → H' t = some (.tup (List.replicate k xs).flatten) → Q (.ref t) H'
theorem op_repU {X : Cx} : OpR X (binaryOp .Mult) rRepU := by
  intro pins s σ H x y v u Q I rx ry h
  obtain ⟨l, k, xs, rfl, rfl, hx, hne, hk, hl, q⟩ := h
  by_cases h2 : 2 ≤ k
  · exact op_repT pins s σ H _ _ v u Q I rx ry ⟨l, k, xs, rfl, rfl, SqT.of hx, hne, by omega, by omega, hl, fun p np => q p _ (fun b o e => by rw [upd_ne (ne_of_none e np)]; exact e) (by rw [upd_same, Int.toNat_natCast])⟩
  · cases rx
    obtain ⟨t, rfl⟩ := ry
    obtain ⟨its, rv, tc, hz⟩ := I.tuple (SqT.of hx : SqT X.K H l xs)
    obtain ⟨ob, eb, hc, n2, hd⟩ := id tc
    obtain ⟨cls, dc, data, sl⟩ := ob
    dsimp only at hc hd
    subst hc hd
    have hie : its.toArray.isEmpty = false := by
      have := rv.length
      cases its with
      | nil => exact absurd (List.length_eq_zero_iff.mp this) hne
      | cons a r => rfl
    refine wpAny_binaryOp_repeat_ref (T := "tuple") (U := "int") (by decide +kernel) ⟨_, eb, rfl⟩ (fun _ => rfl) noFill_tuple_mul F.fills_int_mul F.slot_int_rmul repeat_tuple AutoSeq1.idx_int ?_
    refine call_meets F.slot_int_rmul rfl F.entry_int_rmul (F.args_int_rmul_2 _ _) (int_rmul_tuple _ _ _ _ _ _ _) ⟨eb, ?_⟩
    refine ⟨rfl, ⟨_, eb, rfl⟩, ?_⟩
    obtain hk0 | hk1 : k = 0 ∨ k = 1 := by omega
    · subst hk0
      refine call_meets F.slot_tuple_mul ⟨_, eb, rfl⟩ F.entry_tuple_mul (F.args_tuple_mul_2 _ _) (tuple_mul0 _ _ _ _ _ _ hie) ⟨eb, ?_⟩
      have hn := I.hok.fresh (Nat.le_refl s.heap.objs.size)
      exact ⟨.ref s.heap.objs.size, _, I.laid (t' := s.toks) (fun b o e => Heap.get?_push_of_some _ e) (Nat.le_refl _) (show ObjOk X.prog X.w _ _ _ (.tup []) from ⟨Nat.zero_le _, [], .nil, IsTup.new _ _⟩), rfl, q _ _ (fun b o e => by rw [upd_ne (ne_of_none e hn)]; exact e) upd_same⟩
    · subst hk1
      refine call_meets F.slot_tuple_mul ⟨_, eb, rfl⟩ F.entry_tuple_mul (F.args_tuple_mul_2 _ _) (tuple_mul1 _ _ _ _ _ _) ⟨eb, ?_⟩
      refine ⟨.ref l, H, I, rfl, q l H (Same.refl _) ?_⟩
      rw [hx, List.replicate_one, List.flatten_singleton]
end L2

set_option Elab.async false
set_option linter.all false
set_option maxRecDepth 100000
set_option maxHeartbeats 4000000
/-! len of a set; min of a tuple of ints -/
namespace L2
open PySem PySem.Spec PyProof.Rows PySem.W
section
variable {X : Cx}
def rLenSet (w : World) : List V → Hp → VK → Prop := fun xs H Q => ∃ (a : Addr) (S : Int → Bool) (n : Nat), xs = [V.ref a] ∧ H a = some (SetO w a S n) ∧ ∀ ks : List Int, ks.Nodup → (∀ k, S k = true ↔ k ∈ ks) → ks.length = n → Q (.int (n : Nat)) H
theorem cr_lenSet : CallR X (.builtin "len") (rLenSet X.w) := by
  intro pins s σ H xs us Q I r h
  obtain ⟨a, S, n, rfl, e, q⟩ := h
  rw [Vals.ref1 r]
  have ok := I.hok a _ e
  unfold SetO ObjOk at ok
  obtain ⟨⟨o, es, ep, t, h1, h2, h3, h4, h5, h6, h7, h8, h9, _, _⟩, _, _⟩ := ok
  have hb : (es.size : Int) < 2 ^ 63 := by
    have : scanBound ≤ 1048576 := by unfold scanBound; decide
    omega
  refine call_len_set h1 h2 h3 h8 hb ?_
  subst h9
  exact ⟨.int (es.size : Nat), H, I.kept (fun _ _ e => e), ⟨_, rfl⟩, q _ h5 h6 (by rw [List.length_map, Array.length_toList])⟩
theorem reads_int1 {h : Heap} {k m : Int} {t : Tok} {as : List Addr} (r : Reads h (.int k t) (.int m) as) : k = m := by
  cases r
  rfl
theorem readsAll_ints {h : Heap} : ∀ {ns : List Int} {us : List Value}, Vals (ns.map V.int) us → ∃ as, ReadsAll h us (ns.map PyData.int) as
  | [], _, .nil => ⟨_, .nil⟩
  | n :: ns, _, .cons r v => by
    obtain ⟨t, rfl⟩ := r
    obtain ⟨as, ra⟩ := readsAll_ints v
    exact ⟨_, .cons (.int n t) ra⟩
theorem depth_ints0 : ∀ ns : List Int, PyData.depthAll (ns.map PyData.int) ≤ 1
  | [] => by simp [PyData.depthAll]
  | a :: l => by
    have := depth_ints0 l
    rw [List.map_cons, PyData.depthAll]
    simp only [PyData.depth]
    omega
theorem fmin_le : ∀ (l : List Int) (a : Int), l.foldl min a ≤ a ∧ ∀ z ∈ l, l.foldl min a ≤ z
  | [], a => ⟨Int.le_refl _, fun z hz => nomatch hz⟩
  | b :: l, a => by
    obtain ⟨h1, h2⟩ := fmin_le l (min a b)
    rw [List.foldl_cons]
    refine ⟨by omega, fun z hz => ?_⟩
    rcases List.mem_cons.mp hz with rfl | hz
    · omega
    · exact h2 z hz
def rMinTu (K : PySem.W.Frag) : List V → Hp → VK → Prop := fun vs H Q => ∃ (a : Addr) (ns : List Int), vs = [V.ref a] ∧ SqT K H a (ns.map V.int) ∧ ns ≠ [] ∧ ∀ m : Int, m ∈ ns → (∀ z ∈ ns, m ≤ z) → Q (.int m) H
theorem cr_minTu (hh : X.A.handled = none) (hu : X.A.units + 65 < cLine) : CallR X (.builtin "min") (rMinTu X.K) := by
  intro pins s σ H vs us Q I r h
  obtain ⟨a, ns, rfl, hs, hne, q⟩ := h
  obtain ⟨its, rv, tc, hz⟩ := I.tuple hs
  rw [Vals.ref1 r]
  obtain ⟨n, l, rfl⟩ : ∃ n l, ns = n :: l := by
    cases ns with
    | nil => exact absurd rfl hne
    | cons n l => exact ⟨n, l, rfl⟩
  obtain ⟨as, ra⟩ := readsAll_ints (h := s.heap) rv
  refine min_tuple_data (x := .int n) (xs := l.map PyData.int) hh tc (by simpa using ra) ⟨?_, ?_⟩ ?_ fun i v h' tk cs hv hr kp => ?_
  · intro x hx y hy
    rw [← List.map_cons] at hx hy
    obtain ⟨b1, _, rfl⟩ := List.mem_map.mp hx
    obtain ⟨b2, _, rfl⟩ := List.mem_map.mp hy
    simp [alike]
  · intro x hx
    rw [← List.map_cons] at hx
    obtain ⟨b1, _, rfl⟩ := List.mem_map.mp hx
    intro z
    cases z
  · have := depth_ints0 (n :: l)
    rw [List.map_cons] at this
    omega
  · have hv' : its[i]? = some v := by simpa using hv
    have hl := rv.length
    have hi : i < (n :: l).length := by
      rw [List.length_map] at hl
      rw [hl]
      exact (List.getElem?_eq_some_iff.mp hv').1
    obtain ⟨z, ez, rz⟩ := rv.get (i := i) (x := V.int (n :: l)[i]) (by rw [List.getElem?_map, List.getElem?_eq_getElem hi]; rfl)
    rw [hv'] at ez
    cases ez
    obtain ⟨t, rfl⟩ := rz
    rw [minD_ints] at hr
    obtain ⟨h1, h2⟩ := fmin_le l n
    have e : (n :: l)[i] = l.foldl min n := reads_int1 hr
    exact ⟨.int _, H, I.kept kp, ⟨t, rfl⟩, q _ (List.getElem_mem hi) fun z hz => by
      rw [e]
      rcases List.mem_cons.mp hz with rfl | hz
      · exact h1
      · exact h2 z hz⟩
end
end L2

set_option Elab.async false
set_option linter.all false
set_option maxRecDepth 100000
set_option maxHeartbeats 2000000
/-! own rules: slices of tuples that are known to have no dict; t.index(text) -/
namespace L2
open PySem PySem.Spec PyProof.Rows L2
section
variable {X : Cx}
def rSlF (K : PySem.W.Frag) : V → Option Int → Option Int → Hp → VK → Prop := fun x lo hi H Q => ∃ a xs, x = .ref a ∧ SqT K H a xs ∧
  ¬ (HT.sIx xs.length 0 lo = 0 ∧ HT.sIx xs.length xs.length hi = xs.length) ∧ ∀ p o, H p = none → o.dict = none → Q (.ref p) (upd H p (.frz o (.tup (cutV xs lo hi))))
theorem sl_tupF : SlR X (rSlF X.K) := by
  intro pins s σ H x v vl vu lo hi sl Q I rx hs pl pu h
  obtain ⟨a, xs, rfl, hx, hw, q⟩ := h
  cases rx
  obtain ⟨its, r, ht, hz⟩ := I.tuple hx
  have hlen : its.toArray.size = xs.length := by rw [List.size_toArray]; exact r.length.symm
  refine ⟨"tuple", _, PyProof.Rows.slot_tuple_getitem.lookup, ht.typeIs, ?_⟩
  refine HT.getItem_tuple_cut ht hs pl pu (by rw [hlen]; exact hw) ?_ (by rw [hlen]; exact hz)
  rw [hlen]
  have hv := (r.drop (HT.sIx xs.length 0 lo)).take (HT.sIx xs.length xs.length hi - HT.sIx xs.length 0 lo)
  refine ⟨.ref s.heap.objs.size, _, I.laid (t' := s.toks) (o := .frz { cls := .type "tuple", data := .seq (((its.drop (HT.sIx xs.length 0 lo)).take (HT.sIx xs.length xs.length hi - HT.sIx xs.length 0 lo)).toArray) } (.tup (cutV xs lo hi))) (fun b ob q => Heap.get?_push_of_some _ q) (Nat.le_refl _) ?_, rfl, q _ _ (I.hok.fresh (Nat.le_refl _)) rfl⟩
  exact ⟨Heap.get?_push_size _ rfl, Nat.le_trans (cutV_length xs lo hi) hz, _, hv, IsTup.new _ _⟩
/-- t.index(x), texts, x there -/
def rIndexS (K : PySem.W.Frag) : V → List V → Hp → VK → Prop := fun x vs H Q => ∃ (a : Addr) (ns : List Str) (k : Str) (j : Nat), x = .ref a ∧ vs = [.str k] ∧ SqT K H a (ns.map V.str) ∧ (∀ z ∈ ns, (PyData.str z).canLay0 = true) ∧ ns[j]? = some k ∧ (∀ m, m < j → ns[m]? ≠ some k) ∧ Q (.int (j : Nat)) H
theorem dpAll_strs (K : PySem.W.Frag) (H : Hp) : ∀ ns : List Str, DpAll K H (ns.map V.str) (ns.map PyData.str)
  | [] => .nil
  | n :: ns => .cons (.str n) (dpAll_strs K H ns)
theorem lay_strs : ∀ ns : List Str, (∀ z ∈ ns, (PyData.str z).canLay0 = true) → PyData.canLayAll0 (ns.map PyData.str) = true
  | [], _ => rfl
  | n :: ns, h => by
    rw [List.map_cons, PyData.canLayAll0, lay_strs ns (fun z hz => h z (List.mem_cons_of_mem _ hz)), h n List.mem_cons_self]
    rfl
theorem str_beq (a b : Str) : PyData.eqv (.str a) (.str b) = (a == b) := rfl
theorem mt_indexTS (hu : X.A.units + 65 < cLine) : MtR X "tuple.index" (rIndexS X.K) := by
  intro pins s σ H x xs v us Q I rx rxs h
  obtain ⟨a, ns, k, j, rfl, rfl, hl, hlay, hj, hno, q⟩ := h
  cases rx
  cases rxs with
  | cons ry rt =>
    rename_i uy ut
    cases rt
    obtain ⟨its, rv, pl, hlen⟩ := I.tuple hl
    obtain ⟨as, h4⟩ := Dp.readsAll I (ns.map PyData.str) _ its (dpAll_strs _ _ ns) rv
    obtain ⟨bs, r1⟩ := Dp.reads I (.str k) _ uy (.str k) ry
    have hjl := (List.getElem?_eq_some_iff.mp hj).1
    have hvl := rv.length
    rw [List.length_map] at hvl hlen
    obtain ⟨⟨cls, dd, data, sl⟩, ho, hc, n, hd'⟩ := id pl
    simp only at hc hd'
    subst hc hd'
    have hxs : PyData.canLayAll0 (ns.map PyData.str) = true := lay_strs ns hlay
    have hmap : its.map (SeqAt.readOf s.heap) = ns.map PyData.str := SeqAt.readsAll_map _ its as hxs h4
    have at_ : ∀ (m : Nat) (hm : m < its.toArray.size) (z : Str), ns[m]? = some z → SeqAt.readOf s.heap its.toArray[m] = .str z := by
      intro m hm z hz
      have hml : m < its.length := by simpa using hm
      have e1 : (its.map (SeqAt.readOf s.heap))[m]? = some (.str z) := by rw [hmap, List.getElem?_map, hz]; rfl
      rw [List.getElem?_map, List.getElem?_eq_getElem hml] at e1
      have e2 : SeqAt.readOf s.heap its[m] = .str z := Option.some.inj e1
      simpa using e2
    have hj2 : j < its.toArray.size := by simp only [List.size_toArray]; omega
    refine call_meets F.slot_tuple_index ⟨_, ho, rfl⟩ F.entry_tuple_index (F.args_tuple_index_2 _ _)
      (TI.tuple_indexAt a its.toArray n dd sl uy (fun u => PyData.eqv (SeqAt.readOf s.heap u) (.str k)) j hj2 ?_ ?_) ⟨ho, SeqAt.items_eqAt (vs := its.toArray) (show ReadsAll s.heap its.toArray.toList (ns.map PyData.str) as from h4) r1 hxs (hlay k (List.mem_of_getElem? hj)) (Nat.lt_of_le_of_lt (Nat.add_le_add_left (Nat.min_le_right _ _) _) (by simp only [PyData.depth]; omega)), ?_⟩
    · show PyData.eqv (SeqAt.readOf s.heap its.toArray[j]) (.str k) = true
      rw [at_ j hj2 k hj]
      show (k == k) = true
      exact beq_self_eq_true k
    · intro m hm hmj
      have hmn : m < ns.length := by simp only [List.size_toArray] at hm; omega
      have hz : ns[m]? = some ns[m] := List.getElem?_eq_getElem hmn
      show PyData.eqv (SeqAt.readOf s.heap its.toArray[m]) (.str k) = false
      rw [at_ m hm _ hz]
      show (ns[m] == k) = false
      exact beq_eq_false_iff_ne.mpr fun z => hno m hmj (by rw [hz, z])
    · exact ⟨.int (j : Nat), H, I.tok _, ⟨_, rfl⟩, q⟩
end
theorem sameUp {H : Hp} {p : Addr} {o : HO} (np : H p = none) : Same H (upd H p o) := fun b u e => by
  rw [upd_ne (fun z => by rw [z, np] at e; cases e)]
  exact e
def rListK (K : PySem.W.Frag) : List V → Hp → VK → Prop := fun xs H Q => ∃ p ys, xs = [.ref p] ∧ (SqL K H p ys ∨ SqT K H p ys) ∧ ∀ l, H l = none → Q (.ref l) (upd H l (.lst ys))
theorem call_listK {X : Cx} : CallR X (.type "list") (rListK X.K) := call_list_of
def rTupK (K : PySem.W.Frag) : List V → Hp → VK → Prop := fun xs H Q => ∃ p ys, xs = [.ref p] ∧ ((SqL K H p ys ∧ ∀ l, H l = none → Q (.ref l) (upd H l (.tup ys))) ∨ (SqT K H p ys ∧ Q (.ref p) H))
theorem call_tupleK {X : Cx} : CallR X (.type "tuple") (rTupK X.K) := call_tuple_of
def tTruL (K : PySem.W.Frag) (ta : TE) : L2.TT := fun σ H Q => ta σ H fun x H' => ∃ k, TruV K x H' k ∧ Q k H'
theorem pt_truL {X : Cx} {K : PySem.W.Frag} {a : Expr} {ta : TE} (hK : X.K = K) (ha : PE X a ta) (he : ∀ whole, isTrue a X.env whole = (do let v ← whole; standAt a.pos; holding [v] (truthy v))) : PT X a (tTruL K ta) := by
  subst hK
  exact pt_truth ha he
/-! slices and sums of tuples, whichever object comes of them -/
theorem SqT.whole {xs : List V} {lo hi : Option Int} (h : HT.sIx xs.length 0 lo = 0 ∧ HT.sIx xs.length xs.length hi = xs.length) : cutV xs lo hi = xs := by
  unfold cutV
  rw [h.1, h.2, List.drop_zero, Nat.sub_zero, List.take_length]
theorem slA {K : PySem.W.Frag} {H : Hp} {a : Addr} {xs : List V} {lo hi : Option Int} {Q : VK} (ha : SqT K H a xs) (q : ∀ (H' : Hp) (p : Addr), Same H H' → SqT K H' p (cutV xs lo hi) → Q (.ref p) H') : rSlA K (.ref a) lo hi H Q :=
  ⟨a, xs, rfl, ha, fun h => q H a (Same.refl _) (by rw [SqT.whole h]; exact ha), fun _ p np => q _ p (sameUp np) (SqT.of upd_same)⟩
/-- the same, the new tuple standing by itself where the old one does -/
theorem slA' {K : PySem.W.Frag} {H : Hp} {a : Addr} {xs : List V} {lo hi : Option Int} {Q : VK} (ha : H a = some (.tup xs)) (q : ∀ (H' : Hp) (p : Addr), Same H H' → H' p = some (.tup (cutV xs lo hi)) → Q (.ref p) H') : rSlA K (.ref a) lo hi H Q :=
  ⟨a, xs, rfl, SqT.of ha, fun h => q H a (Same.refl _) (by rw [SqT.whole h]; exact ha), fun _ p np => q _ p (sameUp np) upd_same⟩
theorem catA {K : PySem.W.Frag} {H : Hp} {a b : Addr} {xs ys : List V} {Q : VK} (ha : SqT K H a xs) (hb : SqT K H b ys) (hl : xs.length + ys.length ≤ sizeLine) (q : ∀ (H' : Hp) (p : Addr), Same H H' → SqT K H' p (xs ++ ys) → Q (.ref p) H') : rCatA K (.ref a) (.ref b) H Q :=
  ⟨a, b, xs, ys, rfl, rfl, ha, hb, hl, fun h => q H b (Same.refl _) (by rw [h]; exact hb), fun _ h => q H a (Same.refl _) (by rw [h, List.append_nil]; exact ha), fun _ _ p np => q _ p (sameUp np) (SqT.of upd_same)⟩
theorem catA' {K : PySem.W.Frag} {H : Hp} {a b : Addr} {xs ys : List V} {Q : VK} (ha : H a = some (.tup xs)) (hb : H b = some (.tup ys)) (hl : xs.length + ys.length ≤ sizeLine) (q : ∀ (H' : Hp) (p : Addr), Same H H' → H' p = some (.tup (xs ++ ys)) → Q (.ref p) H') : rCatA K (.ref a) (.ref b) H Q :=
  ⟨a, b, xs, ys, rfl, rfl, SqT.of ha, SqT.of hb, hl, fun h => q H b (Same.refl _) (by rw [h]; exact hb), fun _ h => q H a (Same.refl _) (by rw [h, List.append_nil]; exact ha), fun _ _ p np => q _ p (sameUp np) upd_same⟩
theorem sIx_m1 {n : Nat} (d : Nat) (h : 1 ≤ n) : HT.sIx n d (some (-1)) = n - 1 := by
  unfold HT.sIx
  simp
  omega
theorem cutv_to (xs : List V) (k : Nat) : cutV xs none (some (k : Int)) = xs.take k := by
  unfold cutV
  rw [HT.sIx_none, HT.sIx_nat, List.drop_zero, Nat.sub_zero]
  by_cases h : k ≤ xs.length
  · rw [Nat.min_eq_left h]
  · rw [Nat.min_eq_right (by omega), List.take_length, List.take_of_length_le (by omega)]
theorem cutv_from (xs : List V) (k : Nat) : cutV xs (some (k : Int)) none = xs.drop k := by
  unfold cutV
  rw [HT.sIx_none, HT.sIx_nat]
  by_cases h : k ≤ xs.length
  · rw [Nat.min_eq_left h, List.take_of_length_le (by rw [List.length_drop]; omega)]
  · rw [Nat.min_eq_right (by omega), Nat.sub_self, List.take_zero, List.drop_eq_nil_of_le (by omega)]
theorem cutv_init {xs : List V} (h : 1 ≤ xs.length) : cutV xs none (some (-1)) = xs.dropLast := by
  unfold cutV
  rw [HT.sIx_none, sIx_m1 _ h, List.drop_zero, Nat.sub_zero, List.dropLast_eq_take]
theorem not_whole_init {n : Nat} (h : 1 ≤ n) : ¬ (HT.sIx n 0 none = 0 ∧ HT.sIx n n (some (-1)) = n) := by
  rw [sIx_m1 _ h]
  omega
theorem atV_last {α : Type} (f : α → V) (d : α) {xs : List α} (h : 1 ≤ xs.length) : atI (xs.map f) (-1) = some (f (xs.getLastD d)) := by
  unfold atI ixN
  rw [if_neg (by omega), if_pos (by rw [List.length_map]; omega), List.length_map, show ((-1 : Int) + (xs.length : Nat)).toNat = xs.length - 1 by omega]
  show (xs.map f)[xs.length - 1]? = _
  rw [List.getElem?_map, List.getElem?_eq_getElem (by omega), List.getLastD_eq_getLast?, List.getLast?_eq_getElem?, List.getElem?_eq_getElem (by omega)]
  rfl
theorem atV_nat {α : Type} (f : α → V) (d : α) {xs : List α} {i : Nat} (h : i < xs.length) : atI (xs.map f) (i : Int) = some (f (xs.getD i d)) := by
  refine atI_nat ?_
  rw [List.getElem?_map, List.getElem?_eq_getElem h, List.getD_eq_getElem?_getD, List.getElem?_eq_getElem h]
  rfl
end L2

set_option Elab.async false
set_option linter.all false
set_option maxRecDepth 100000
set_option maxHeartbeats 400000
/-! zip(xs, t): each a list or a tuple, told by a Bool (true: a tuple) -/
namespace Zm
open PySem PySem.Spec PyProof.Rows L2
open PySem.Sem (wp)
def SqM (K : PySem.W.Frag) (t : Bool) (H : Hp) (a : Addr) (xs : List V) : Prop := match t with
  | true => SqT K H a xs
  | false => SqL K H a xs
def hSq (t : Bool) (h : Heap) (a : Addr) (xs : Array Value) : Prop := match t with
  | true => h.IsTuple a xs
  | false => h.IsList a xs
def hIt (t : Bool) (h : Heap) (it a : Addr) (i : Nat) : Prop := match t with
  | true => h.IsTupleIter it a i
  | false => h.IsListIter it a i
def nIt (t : Bool) : String := if t then "tuple_iterator" else "list_iterator"
def oIt (t : Bool) (a : Addr) : Obj := { cls := .type (nIt t), data := .fields #[.ref a, .int 0 0] }
theorem hIt_young {t : Bool} {h : Heap} {it a : Addr} (e : h.get? it = some (oIt t a)) : hIt t h it a 0 := by
  cases t <;> exact ⟨_, e, rfl, rfl⟩
theorem hIt_there {t : Bool} {h : Heap} {it a : Addr} {i : Nat} (e : hIt t h it a i) : ∃ o, h.get? it = some o ∧ ∀ v, o.data ≠ .cell v := by
  cases t <;> (obtain ⟨o, e1, _, d⟩ := e; exact ⟨o, e1, fun v q => by rw [d] at q; cases q⟩)
theorem hIt_at {t : Bool} {h h' : Heap} {it a : Addr} {i : Nat} (e : hIt t h it a i) (k : ∀ o, h.get? it = some o → h'.get? it = some o) : hIt t h' it a i := by
  cases t
  · exact Heap.IsListIter.at e k
  · exact Heap.IsTupleIter.at e k
theorem hSq_lt {t : Bool} {h : Heap} {a : Addr} {xs : Array Value} (e : hSq t h a xs) : a < h.objs.size := by
  cases t <;> (obtain ⟨o, e1, _⟩ := e; exact Heap.lt_size e1)
theorem hSq_up {t : Bool} {h h' : Heap} {a : Addr} {xs : Array Value} (e : hSq t h a xs) (k : ∀ o, h.get? a = some o → h'.get? a = some o) : hSq t h' a xs := by
  cases t <;> (obtain ⟨o, e1, r⟩ := e; exact ⟨o, k _ e1, r⟩)
theorem sq_get {X : Cx} {pins : List (Addr × Obj)} {σ : L2.St} {H : Hp} {s : Shared} {t : Bool} {a : Addr} {xs : List V} (I : Inv X pins σ H s) (q : SqM X.K t H a xs) :
    ∃ its : List Value, Vals xs its ∧ hSq t s.heap a its.toArray := by
  cases t
  · obtain ⟨its, rv, p, _⟩ := I.list q
    exact ⟨its, rv, p.isList⟩
  · obtain ⟨its, rv, p, _⟩ := I.tuple q
    exact ⟨its, rv, p⟩
theorem sq_one {X : Cx} {pins : List (Addr × Obj)} {σ : L2.St} {H : Hp} {s : Shared} {t : Bool} {a : Addr} {xs ys : List V} (I : Inv X pins σ H s) (q : SqM X.K t H a xs) (q2 : SqM X.K t H a ys) : xs = ys := by
  cases t
  · exact I.list_inj q q2
  · exact I.tuple_inj q q2
section
variable {prog : Program} {w : World} {A : Around}
theorem drawM (hh : A.handled = none) (t : Bool) (it a : Addr) (hne : a ≠ it) (items : Array Value) :
    Draws prog w A it [it, a] items.size (fun i v => items[i]? = some v) (fun i h => hIt t h it a i ∧ hSq t h a items) := by
  cases t
  · exact Draws.list hh it a hne items
  · exact Draws.tuple hh it a hne items
theorem newM {E : Value → Shared → Prop} {s : Shared} {t : Bool} {a : Addr} {items : Array Value} {Q : Value → Shared → Prop} (hl : hSq t s.heap a items)
    (hQ : Q (.ref s.heap.objs.size) { s with heap := s.heap.push (oIt t a) }) : wpAny (model prog w) A (pyIter (.ref a)) Q E s := by
  cases t
  · exact wpAny_pyIter_list hl hQ
  · exact wpAny_pyIter_tuple hl hQ
end
/-- the five new things, one behind the other -/
def zNew (n : Nat) (t1 t2 : Bool) (a b : Addr) : List Obj :=
  [oIt t1 a, oIt t2 b, { cls := .type "tuple", data := .seq #[.ref n, .ref (n + 1)] }, { cls := .type "tuple", data := .seq #[.none, .none] },
   { cls := .type "zip", data := .fields #[.none, .bool false, .bool false, .ref (n + 2), .ref (n + 3)] }]
def pushes (h : Heap) (os : List Obj) : Heap := os.foldl Heap.push h
theorem pushes_size : ∀ (os : List Obj) (h : Heap), (pushes h os).objs.size = h.objs.size + os.length
  | [], _ => rfl
  | o :: os, h => by
    show (pushes (h.push o) os).objs.size = _
    rw [pushes_size os, Heap.size_push, List.length_cons]
    omega
theorem pushes_keep : ∀ (os : List Obj) (h : Heap) (c : Addr) (o : Obj), h.get? c = some o → (pushes h os).get? c = some o
  | [], _, _, _, e => e
  | _ :: os, h, c, o, e => pushes_keep os _ c o (Heap.get?_push_of_some _ e)
theorem pushes_get (os : List Obj) : ∀ (h : Heap) (i : Nat) (o : Obj), os[i]? = some o → o.isFreed = false → (pushes h os).get? (h.objs.size + i) = some o := by
  induction os with
  | nil => intro h i o e _; cases e
  | cons p os ih =>
    intro h i o e f
    cases i with
    | zero =>
      have e : some p = some o := e
      injection e with e
      rw [e]
      exact pushes_keep os (h.push o) _ _ (Heap.get?_push_size _ f)
    | succ i =>
      have r := ih (h.push p) i o e f
      have z : (h.push p).objs.size + i = h.objs.size + (i + 1) := by rw [Heap.size_push]; omega
      rw [z] at r
      exact r
theorem nA {x y : Nat} (h : x < y ∨ y < x) : ¬ @Eq Addr x y := fun e => by
  have e : @Eq Nat x y := e
  omega
theorem meets_new (t1 t2 : Bool) (a b : Addr) (xs ys : Array Value) :
    Meets (Builtin.«zip.__new__» ⟨[.type "zip", .ref a, .ref b], []⟩) (fun _ R s => hSq t1 s.heap a xs ∧ hSq t2 s.heap b ys ∧
      R (.ok (.ret (.ref (s.heap.objs.size + 4)))) { s with heap := pushes s.heap (zNew s.heap.objs.size t1 t2 a b) }) :=
  .of_wp fun prog w A R s h => by
    obtain ⟨hp, g, d, tk, os⟩ := s
    obtain ⟨h1, h2, h⟩ := h
    have hsub := sub_zip
    have h2 : hSq t2 (hp.push (oIt t1 a)) b ys := hSq_up h2 fun o e => Heap.get?_push_of_some _ e
    have q1 : ∀ {A' : Around} {E : Value → Shared → Prop} {Q : Value → Shared → Prop}, Q (.ref hp.objs.size) ⟨hp.push (oIt t1 a), g, d, tk, os⟩ → wpAny (model prog w) A' (pyIter (.ref a)) Q E ⟨hp, g, d, tk, os⟩ :=
      fun q => newM (s := ⟨hp, g, d, tk, os⟩) h1 q
    have q2 : ∀ {A' : Around} {E : Value → Shared → Prop} {Q : Value → Shared → Prop}, Q (.ref (hp.push (oIt t1 a)).objs.size) ⟨(hp.push (oIt t1 a)).push (oIt t2 b), g, d, tk, os⟩ → wpAny (model prog w) A' (pyIter (.ref b)) Q E ⟨hp.push (oIt t1 a), g, d, tk, os⟩ :=
      fun q => newM (s := ⟨hp.push (oIt t1 a), g, d, tk, os⟩) h2 q
    wp_walk using q1, q2
    refine ⟨_, rfl, ?_⟩
    have z1 : ∀ (h : Heap) (o : Obj), (h.push o).objs.size = h.objs.size + 1 := fun h o => Heap.size_push ..
    simp only [z1]
    exact h
section
variable {prog : Program} {w : World} {A : Around} {E : Value → Shared → Prop} {s : Shared}
theorem callM {t1 t2 : Bool} {a b : Addr} {xs ys : Array Value} {Q : Value → Shared → Prop} (h1 : hSq t1 s.heap a xs) (h2 : hSq t2 s.heap b ys)
    (h : Q (.ref (s.heap.objs.size + 4)) { s with heap := pushes s.heap (zNew s.heap.objs.size t1 t2 a b) }) :
    wpAny (model prog w) A (call (.type "zip") [.ref a, .ref b]) Q E s := by
  refine callType_new F.called_zip (by decide) (F.typeCall_zip_2 _ _) (F.newCall_zip_2 _ _) (fun obj => F.args_object_init_3 obj _ _) F.entry_zip_new
    (meets_new t1 t2 a b xs ys) ⟨h1, h2, ⟨_, pushes_get (zNew s.heap.objs.size t1 t2 a b) s.heap 4 _ rfl rfl, rfl⟩, h⟩
end
/-- a turn's pair is new -/
def ItM (K : PySem.W.Frag) (t1 t2 : Bool) (a b : Addr) : It :=
  ⟨fun i H => ∃ xs ys : List V, SqM K t1 H a xs ∧ SqM K t2 H b ys ∧ i < min xs.length ys.length,
    fun i H v H' => ∃ (T : Addr) (x y : V), v = .ref T ∧ H T = none ∧ H' = upd H T (.tup [x, y]) ∧ (∀ xs, SqM K t1 H a xs → xs[i]? = some x) ∧ ∀ ys, SqM K t2 H b ys → ys[i]? = some y,
    fun i H => ∃ xs ys : List V, SqM K t1 H a xs ∧ SqM K t2 H b ys ∧ i = min xs.length ys.length⟩
def StM (t1 t2 : Bool) (n : Nat) (a b : Addr) (i : Nat) (h : Heap) : Prop :=
  IsZip h (n + 4) (n + 2) (n + 3) .none ∧ IsTupOf2 h (n + 2) (.ref n) (.ref (n + 1)) ∧ (∃ x y, IsTupOf2 h (n + 3) x y) ∧ hIt t1 h n a i ∧ hIt t2 h (n + 1) b i
def five (n : Nat) : List Addr := [n + 4, n + 2, n + 3, n, n + 1]
theorem sepM {n a b : Nat} (ha : a < n) (hb : b < n) : ZipSep2 (n + 4) (n + 2) (n + 3) n (n + 1) [n, a] [n + 1, b] := by
  constructor <;> simp only [List.mem_cons, List.not_mem_nil, or_false, ne_eq, not_or, true_or, or_true] <;> first | exact nA (by omega) | exact ⟨nA (by omega), nA (by omega)⟩
theorem turnM {P : Program} {w : World} {K : PySem.W.Frag} {elts : List Expr} {kk : Nat} {tpos : Pos} {t1 t2 : Bool} {n a b : Nat} (ha : a < n) (hb : b < n) :
    Turn P w K (.Tuple elts kk tpos) (ItM K t1 t2 a b) (five n) (n + 4) (StM t1 t2 n a b) where
  mem := List.mem_cons_self
  obj := fun i h st c hc => by
    obtain ⟨g1, g2, ⟨x, y, g3⟩, g4, g5⟩ := st
    simp only [five, List.mem_cons, List.not_mem_nil, or_false] at hc
    rcases hc with q | q | q | q | q <;> subst q
    · exact ⟨_, g1, fun v q => nomatch q⟩
    · exact ⟨_, g2, fun v q => nomatch q⟩
    · exact ⟨_, g3, fun v q => nomatch q⟩
    · exact hIt_there g4
    · exact hIt_there g5
  keep := fun i h h' st k => by
    obtain ⟨g1, g2, ⟨x, y, g3⟩, g4, g5⟩ := st
    have k : ∀ d ∈ five n, ∀ o, h.get? d = some o → h'.get? d = some o := k
    simp only [five, List.forall_mem_cons, List.not_mem_nil] at k
    exact ⟨k.1 _ g1, k.2.1 _ g2, ⟨x, y, k.2.2.1 _ g3⟩, hIt_at g4 k.2.2.2.1, hIt_at g5 k.2.2.2.2.1⟩
  item := by
    intro X hP hw hK hc i pins s σ H E I hf st hg
    subst hP hw hK
    obtain ⟨g1, g2, ⟨x0, y0, g3⟩, g4, g5⟩ := st
    obtain ⟨xs, ys, qx, qy, hi⟩ := hg
    obtain ⟨us, rx, px⟩ := sq_get I qx
    obtain ⟨vs, ry, py⟩ := sq_get I qy
    have lx := rx.length
    have ly := ry.length
    have hdl : X.A.in1.handled = none := I.ok.hd hc
    refine wpAny_pyNext_zipD2_item (sepM ha hb) (drawM hdl t1 n a (Nat.ne_of_lt ha) us.toArray) (drawM hdl t2 (n + 1) b (Nat.ne_of_lt (Nat.lt_succ_of_lt hb)) vs.toArray) g1 g2 g3 ⟨g4, px⟩ ⟨g5, py⟩
      (by rw [List.size_toArray]; omega) (by rw [List.size_toArray]; omega) fun u v h' tk hu hv z1 z3 d1 d2 hT hsz hk => ?_
    have hzl : n + 4 < s.heap.objs.size := Heap.lt_size g1
    refine ⟨_, rfl, wpAny_letOwnedTupleGo_zip (s := { s with heap := h', toks := tk }) z1 fun h2 z2 sb => ?_⟩
    have hT2 : h2.get? s.heap.objs.size = some { cls := .type "tuple", data := .seq #[u, v] } := (sb.2 _ (Nat.ne_of_gt hzl)).trans hT
    obtain ⟨x, ex, rux⟩ : ∃ x, xs[i]? = some x ∧ RelV x u := by
      obtain ⟨u', hu', ru⟩ := rx.get (List.getElem?_eq_getElem (show i < xs.length by omega))
      have : us[i]? = some u := by simpa using hu
      rw [this] at hu'
      cases hu'
      exact ⟨_, List.getElem?_eq_getElem _, ru⟩
    obtain ⟨y, ey, rvy⟩ : ∃ y, ys[i]? = some y ∧ RelV y v := by
      obtain ⟨v', hv', rv⟩ := ry.get (List.getElem?_eq_getElem (show i < ys.length by omega))
      have : vs[i]? = some v := by simpa using hv
      rw [this] at hv'
      cases hv'
      exact ⟨_, List.getElem?_eq_getElem _, rv⟩
    have out : ∀ c, c ∉ five n → c ≠ n + 4 ∧ c ≠ n + 3 ∧ c ≠ n ∧ c ≠ n + 1 := fun c hc => by
      simp only [five, List.mem_cons, List.not_mem_nil, or_false, not_or] at hc
      exact ⟨hc.1, hc.2.2.1, hc.2.2.2.1, hc.2.2.2.2⟩
    have young : ObjOk X.prog X.w (upd H s.heap.objs.size (.tup [x, y])) h2 s.heap.objs.size (.tup [x, y]) :=
      ⟨by show 2 ≤ sizeLine; decide, [u, v], .cons rux (.cons rvy .nil), ⟨_, hT2, rfl, _, rfl⟩⟩
    have I1 : Inv X pins σ (upd H s.heap.objs.size (.tup [x, y])) { s with heap := h2, toks := tk } :=
      I.turnedNew (t' := tk) (ch := five n) (fun c o hb q => by
        obtain ⟨c1, c2, c3, c4⟩ := out c hb
        exact (sb.2 c c1).trans (hk c o c1 c2 c3 c4 q)) hf (Nat.le_refl _) young
    refine ⟨.ref s.heap.objs.size, _, I1, rfl, ⟨_, x, y, rfl, I.hok.fresh (Nat.le_refl _), rfl, fun l hl => by rw [sq_one I hl qx]; exact ex, fun l hl => by rw [sq_one I hl qy]; exact ey⟩, ?_, fun c hcm => ?_⟩
    · have sbk : ∀ c o, c ≠ n + 4 → h'.get? c = some o → h2.get? c = some o := fun c o hc e => (sb.2 c hc).trans e
      have dz : ∀ k : Nat, @LT.lt Nat _ k 4 → ¬ @Eq Addr (n + k) (n + 4) := fun k hk => nA (by omega)
      exact ⟨z2, sbk _ _ (dz 2 (by decide)) (hk _ _ (dz 2 (by decide)) (@nA (n + 2) (n + 3) (by omega)) (@nA (n + 2) n (by omega)) (@nA (n + 2) (n + 1) (by omega)) g2), ⟨u, v, sbk _ _ (dz 3 (by decide)) z3⟩, hIt_at d1.1 fun o e => sbk _ _ (dz 0 (by decide)) e, hIt_at d2.1 fun o e => sbk _ _ (dz 1 (by decide)) e⟩
    · have hlt : c < s.heap.objs.size := by
        have hzl : @LT.lt Nat _ (n + 4) s.heap.objs.size := hzl
        simp only [five, List.mem_cons, List.not_mem_nil, or_false] at hcm
        rcases hcm with q | q | q | q | q <;> subst q <;> show @LT.lt Nat _ _ _ <;> omega
      rw [upd_ne (Nat.ne_of_lt hlt)]
      exact (hf c hcm).1
  done := by
    intro X hP hw hK hc i pins s σ H E I hf st hg
    subst hP hw hK
    obtain ⟨g1, g2, ⟨x0, y0, g3⟩, g4, g5⟩ := st
    obtain ⟨xs, ys, qx, qy, hi⟩ := hg
    obtain ⟨us, rx, px⟩ := sq_get I qx
    obtain ⟨vs, ry, py⟩ := sq_get I qy
    have lx := rx.length
    have ly := ry.length
    have hdl : X.A.in1.handled = none := I.ok.hd hc
    refine wpAny_pyNext_zipD2_end (sepM ha hb) (drawM hdl t1 n a (Nat.ne_of_lt ha) us.toArray) (drawM hdl t2 (n + 1) b (Nat.ne_of_lt (Nat.lt_succ_of_lt hb)) vs.toArray) g1 g2 g3 ⟨g4, px⟩ ⟨g5, py⟩
      (by rw [List.size_toArray]; omega) (by rw [List.size_toArray]; omega) (by rw [List.size_toArray, List.size_toArray]; omega) fun h' tk hk => ⟨rfl, I.turnedL (t' := tk) (ch := five n) (fun c o hb q => ?_) hf⟩
    simp only [five, List.mem_cons, List.not_mem_nil, or_false, not_or] at hb
    exact hk c o hb.1 hb.2.2.1 hb.2.2.2.1 hb.2.2.2.2 q
  self := fun A i s Q E st h => wpAny_pyIter_zip st.1 h
def iZipM (K : PySem.W.Frag) (t1 t2 : Bool) (ta : TA) : TI := fun σ H R => ta σ H fun vs H1 => ∃ (a b : Addr) (xs ys : List V), vs = [.ref a, .ref b] ∧ SqM K t1 H1 a xs ∧ SqM K t2 H1 b ys ∧ R (ItM K t1 t2 a b) H1
theorem pi_zipM {X : Cx} (t1 t2 : Bool) {e e2 : Expr} {ta : TA} {p pos tpos : Pos} {elts : List Expr} {kk : Nat} (hg : Gl X "zip") (hm : X.mg "zip" = none) (ha : PA X [e, e2] ta)
    (hs : starEach [e, e2] X.env = (false, eval e X.env) :: starEach [e2] X.env := by rfl) (hpl : (backTo pos (starEach [e2] X.env)).any (·.1) = false := by rfl) :
    PI X (.Tuple elts kk tpos) (.Call (.Name "zip" p) [e, e2] [] pos) (iZipM X.K t1 t2 ta) := by
  refine ⟨fun pins s σ H R I h => ?_⟩
  refine Call_ (ld_blt I hg hm PyProof.Rows.boot_zip (PyProof.Rows.callWith_type1 (thn (ha.run pos pins s σ H _ I h) fun us s1 ⟨vs, H1, I1, r1, q1⟩ => ?_) hs hpl))
  obtain ⟨a, b, xs, ys, rfl, qx, qy, q⟩ := q1
  obtain ⟨u1, us, rfl, r, r1⟩ : ∃ u1 us', us = u1 :: us' ∧ RelV (.ref a) u1 ∧ Vals [.ref b] us' := by cases r1 with | cons r rr => exact ⟨_, _, rfl, r, rr⟩
  obtain ⟨u2, rfl, r2⟩ := vals1 r1
  cases r
  cases r2
  obtain ⟨is1, rx, px⟩ := sq_get I1 qx
  obtain ⟨is2, ry, py⟩ := sq_get I1 qy
  have la := hSq_lt px
  have lb := hSq_lt py
  refine callM px py ?_
  have gt := fun i o e f => pushes_get (zNew s1.heap.objs.size t1 t2 a b) s1.heap i o e f
  refine wpAny_pyIter_zip (gt 4 _ rfl rfl) ?_
  have I2 : Inv X pins σ H1 { s1 with heap := pushes s1.heap (zNew s1.heap.objs.size t1 t2 a b) } := I1.kept (t' := s1.toks) fun c o e => pushes_keep _ _ c o e
  refine ⟨s1.heap.objs.size + 4, five s1.heap.objs.size, _, _, H1, rfl, I2, turnM la lb, ⟨gt 4 _ rfl rfl, gt 2 _ rfl rfl, ⟨_, _, gt 3 _ rfl rfl⟩, hIt_young (gt 0 _ rfl (by cases t1 <;> rfl)), hIt_young (gt 1 _ rfl (by cases t2 <;> rfl))⟩, fun c hc => ?_, q⟩
  have hle : s1.heap.objs.size ≤ c := by
    simp only [five, List.mem_cons, List.not_mem_nil, or_false] at hc
    rcases hc with q | q | q | q | q <;> subst q <;> show @LE.le Nat _ _ _ <;> omega
  exact I1.fpOk hle (I1.hok.fresh hle)
/-- walked -/
theorem walk_zipM {K : PySem.W.Frag} {t1 t2 : Bool} {a b : Addr} {xs ys : List V} {n : Nat} (hn : n = min xs.length ys.length) :
    Walk (ItM K t1 t2 a b) n (fun H => SqM K t1 H a xs ∧ SqM K t2 H b ys) (YPair (fun i => xs[i]?) (fun i => ys[i]?)) := by
  subst hn
  refine ⟨fun i _ hi q => ⟨xs, ys, q.1, q.2, hi⟩, fun _ q => ⟨xs, ys, q.1, q.2, rfl⟩, fun i H v H' _ q y => ?_⟩
  obtain ⟨T, x, z, h1, h2, h3, h4, h5⟩ := y
  exact ⟨T, x, z, h1, h2, h3, h4 xs q.1, h5 ys q.2⟩
end Zm

set_option Elab.async false
set_option linter.all false
set_option maxRecDepth 100000
set_option maxHeartbeats 1000000
/-! own rules: max(xs, key=lambda x: e) and min, xs a list or a tuple (Zm.SqM), e any expression over the def's shared names and x -/
namespace Lm
open PySem PySem.Spec PyProof.Rows L2 LamX
/-- one parameter, no other name of its own -/
structure LamP (sc scope : Scope) (x : Str) : Prop where
  kind : scope.kind = .function
  co : scope.isCoroutine = false
  gen : scope.isGenerator = false
  par : scope.names.lookup x = some .local
  one : ∀ y ∈ scope.names, y.2 = .local → y.1 = x
  nocell : ∀ y ∈ scope.names, y.2 ≠ .cell
  free : ∀ y ∈ scope.names, y.2 = .free → sc.names.lookup y.1 = some .cell
def lamPB (sc scope : Scope) (x : Str) : Bool :=
  decide (scope.kind = .function) && (!scope.isCoroutine && (!scope.isGenerator && (decide (scope.names.lookup x = some .local) && scope.names.all fun y =>
    (!decide (y.2 = .local) || decide (y.1 = x)) && (!decide (y.2 = .cell) && (!decide (y.2 = .free) || decide (sc.names.lookup y.1 = some .cell))))))
theorem lamP_by {sc scope : Scope} {x : Str} (h : lamPB sc scope x = true) : LamP sc scope x := by
  unfold lamPB at h
  simp only [Bool.and_eq_true, Bool.or_eq_true, Bool.not_eq_true', decide_eq_true_eq, decide_eq_false_iff_not, List.all_eq_true] at h
  obtain ⟨h1, h2, h3, h4, h5⟩ := h
  exact ⟨h1, h2, h3, h4, fun y hy e => (h5 y hy).1.resolve_left fun z => z e, fun y hy => (h5 y hy).2.1, fun y hy e => (h5 y hy).2.2.resolve_left fun z => z e⟩
section
variable {X : Cx} {pins : List (Addr × Obj)} {σ : L2.St} {H : Hp} {s : Shared}
theorem LamP.has {scope : Scope} {x : Str} (L : LamP X.env.scope scope x) (ok : X.Ok) : ∀ y ∈ scope.names, y.2 = .free → ∃ c, X.env.cells.lookup y.1 = some c := fun y hy e => ok.has _ (.inl (L.free y hy e))
/-- what the lambda shares is what the def has -/
theorem clo_sub {scope : Scope} {x : Str} (L : LamP X.env.scope scope x) (ok : X.Ok) {y : Str} {c : Addr} (e : (cloFrom X.env.cells scope.names []).lookup y = some c) : X.env.cells.lookup y = some c := by
  rcases cloFrom_mem (PySem.mem_of_lookup e) with h | ⟨h, hc⟩
  · exact absurd h List.not_mem_nil
  · obtain ⟨d, hd⟩ := L.has ok _ h rfl
    have hd : X.env.cells.lookup y = some d := hd
    have hc : c = (X.env.cells.lookup y).getD 0 := hc
    rw [hd] at hc
    rw [hd, show c = d from hc]
theorem clo_there {scope : Scope} {y : Str} (h : scope.names.lookup y = some .free) : ∃ c, (cloFrom X.env.cells scope.names []).lookup y = some c :=
  mem_lookup (cloFrom_has (cells := X.env.cells) (acc := []) (PySem.mem_of_lookup h))
/-- the lambda's own context, just entered -/
theorem lam_in {A : Around} {E : XK} {scope : Scope} {x : Str} {f c' : Addr} {i : Nat} {v : V} {u : Value} {h1 : Heap} {tk : Nat} (I : Inv X pins σ H s) (L : LamP X.env.scope scope x)
    (e0 : Env0 X.prog X.w X.K X.mg X.base A X.stack s H) (hd : A.handled = none) (hns : h1.Ns s.heap.objs.size fun y => [(x, u)].reverse.lookup y) (kp : ∀ b o, s.heap.get? b = some o → h1.get? b = some o)
    (hN : X.N[i]? = some x) (nd : X.N.Nodup) (r : RelV v u) : Inv (lamCx X A X.stack s H E scope f c') [] (σ.set i (some v)) H { s with heap := h1, toks := tk } := by
  have cellK : ∀ {c : Addr} {z : Option Value}, s.heap.IsCell c z → h1.IsCell c z := fun ⟨o, ho, hd⟩ => ⟨o, kp _ _ ho, hd⟩
  have none_ex : ∀ b : Addr, b ∉ (lamCx X A X.stack s H E scope f c').ex := fun b => List.not_mem_nil
  constructor
  · constructor
    · exact e0.mod
    · exact L.kind
    · rfl
    · rfl
    · exact Nat.le_refl _
    · exact fun y z c a b => I.ok.inj y z c (clo_sub L I.ok a) (clo_sub L I.ok b)
    · intro y hy
      have hy : scope.names.lookup y = some .cell ∨ scope.names.lookup y = some .free := hy
      rcases hy with h | h
      · exact absurd rfl (L.nocell _ (PySem.mem_of_lookup h))
      · exact clo_there h
    · intro y c z
      exact absurd (show false = true from z) Bool.false_ne_true
    · exact fun _ => hd
    · exact Around.frames_deeper e0.frames
    · exact .inr ⟨rfl, rfl⟩
    · exact fun b z => absurd z (none_ex b)
    · exact e0.bs
    · exact e0.bsz
    · exact fun b _ _ => none_ex b
    · exact fun b z => absurd z (none_ex b)
    · exact e0.funs
    · exact e0.frf
  · rfl
  · exact e0.bare
  · exact Un.kept kp
  · refine ⟨_, hns, fun j y w hj hw hv => ?_⟩
    have hj : X.N[j]? = some y := hj
    have hv : Vis scope y := hv
    have other : scope.names.lookup y = some .free → ∃ w', RelV w w' ∧ Look (lamEnv X scope s.heap.objs.size f c') h1 (fun y => [(x, u)].reverse.lookup y) y w' := fun k => by
      have hyx : j ≠ i := fun z => by
        rw [z, hN] at hj
        cases hj
        rw [L.par] at k
        cases k
      rw [List.getElem?_set_ne (fun z => hyx z.symm)] at hw
      obtain ⟨m, _, hl⟩ := I.loc
      have kc := L.free _ (PySem.mem_of_lookup k) rfl
      obtain ⟨w', rw', lk⟩ := hl j y w hj hw (.inr (.inl kc))
      refine ⟨w', rw', .inr ⟨.inr k, ?_⟩⟩
      obtain ⟨d, hd'⟩ := clo_there (X := X) k
      have hd2 := clo_sub L I.ok hd'
      rcases lk with ⟨k', _⟩ | ⟨_, d3, e3, hc⟩
      · rw [show X.env.kindOf y = some .cell from kc] at k'
        cases k'
      · rw [hd2] at e3
        cases e3
        exact ⟨d, hd', cellK hc⟩
    rcases hv with k | k | k
    · have hyx : y = x := L.one _ (PySem.mem_of_lookup k) rfl
      subst hyx
      have hji : j = i := by
        obtain ⟨hj1, hj2⟩ := List.getElem?_eq_some_iff.mp hj
        obtain ⟨hi1, hi2⟩ := List.getElem?_eq_some_iff.mp hN
        rcases Nat.lt_trichotomy j i with z | z | z
        · exact absurd (hj2.trans hi2.symm) (List.pairwise_iff_getElem.mp nd j i hj1 hi1 z)
        · exact z
        · exact absurd (hi2.trans hj2.symm) (List.pairwise_iff_getElem.mp nd i j hi1 hj1 z)
      subst hji
      have hl : j < σ.length := by
        rw [I.len]
        exact (List.getElem?_eq_some_iff.mp hN).1
      rw [List.getElem?_set_self hl] at hw
      cases hw
      refine ⟨u, r, .inl ⟨k, ?_⟩⟩
      show [(y, u)].lookup y = some u
      rw [List.lookup_cons, beq_self_eq_true]
    · exact absurd rfl (L.nocell _ (PySem.mem_of_lookup k))
    · exact other k
  · intro y c e
    obtain ⟨z, hz⟩ := I.cell y c (clo_sub L I.ok e)
    exact ⟨z, cellK hz⟩
  · exact e0.hok.fresh (Nat.le_refl _)
  · exact fun y c e => I.freeC y c (clo_sub L I.ok e)
  · exact fun q hq => absurd (show q ∈ ([] : List (Addr × Obj)) ++ [] from hq) List.not_mem_nil
  · exact e0.hok.kept kp
  · rw [List.length_set]
    exact I.len
/-- the lambda called with one thing, within a builtin -/
theorem lam_call {k i : Nat} {x : Str} {f c' : Addr} {params : Arguments} {body : Expr} {scope : Scope} {pm ctv u : Value} {v : V} {tb : TE} {Q : VK} {E : Value → Shared → Prop} (I : Inv X pins σ H s) (L : LamP X.env.scope scope x)
    (hf : s.heap.get? f = some (PySem.W.kla_obj "<lambda>" (X.env.qual ++ "<lambda>") params body scope (cloFrom X.env.cells scope.names []) pm c' ctv)) (hco : H c' = some (CodeO c' (X.env.qual ++ "<lambda>")))
    (hbind : ∀ v : Value, bindArgs (PySem.W.kla_fn "<lambda>" (X.env.qual ++ "<lambda>") params body scope (cloFrom X.env.cells scope.names []) pm (.ref c') ctv) ⟨[v], []⟩ = pure [(x, v)])
    (hr : Room (k + 2) X.A) (hd : X.A.handled = none) (hbody : ∀ (A : Around) (outer : List Env) (s : Shared) (H : Hp), Room k (A.deeper (lamEnv X scope s.heap.objs.size f c')) → PE (lamCx X A outer s H E0 scope f c').nox body tb)
    (hN : X.N[i]? = some x) (nd : X.N.Nodup) (r : RelV v u) (ht : tb (σ.set i (some v)) H Q) :
    wpAny (model X.prog X.w) X.A.in1 (call (.ref f) [u]) (fun u' s' => ∃ (v' : V) (H' : Hp), Inv X pins σ H' s' ∧ Un (frs X.stack) [] H H' s.heap s'.heap ∧ RelV v' u' ∧ Q v' H') E s := by
  obtain ⟨⟨oc, us, tq, o1, o2, o3⟩, _, _⟩ := I.hok c' _ hco
  have hr1 : Room (k + 1) X.A.in1 := hr.in1
  refine wpAny_call (PySem.W.kla_callFunE hr1.depth hf rfl L.co L.gen rfl ⟨c', oc, us, tq, rfl, o1, o2, o3⟩ ?_)
  rw [hbind]
  refine wpAny_pure (wpAny_newFunctionEnv L.nocell (fun z hz => by rw [List.mem_singleton.mp hz]; exact L.par) (fun h1 hns hsb => ⟨I.nolimit.fresh _ hsb, ?_⟩) L.kind)
  have kp : ∀ b o, s.heap.get? b = some o → h1.get? b = some o := fun b o e => hsb.extBut b o (Nat.ne_of_lt (Heap.lt_size e)) (Heap.get?_push_of_some _ e)
  have e0 : Env0 X.prog X.w X.K X.mg X.base X.A.in1 X.stack s H := I.env0.in1
  have J := lam_in (E := E0) (f := f) (c' := c') (tk := s.toks + ([(x, u)] : List (Str × Value)).length) I L e0 hd hns kp hN nd r
  refine PySem.W.kla_codeExpr (wpAny_mono ((hbody _ _ s H (hr1.deeper _)).run [] _ _ H Q (J.wish _) ht) (fun v' s' hq => ?_) fun e s' hq => hq.elim)
  obtain ⟨w', H', J', rv, q⟩ := hq
  have J2 := J'.unwish
  exact ⟨w', H', I.call' J2.os J2.base J2.hok J2.bare (fun b z => absurd z List.not_mem_nil), J2.base, rv, q⟩
end
/-- the first of the greatest -/
def FirstMost (kf : Nat → Int) (n j : Nat) : Prop := Cl.FirstLeast (fun i => -kf i) n j
theorem most_is (kf : Nat → Int) (n : Nat) : FirstMost kf (n + 1) (argBest (fun i j => decide (kf i > kf j)) n) := by
  have e : (fun i j => decide (kf i > kf j)) = fun i j => decide (-kf i < -kf j) := by
    funext i j
    exact decide_eq_decide.mpr ⟨fun z => by omega, fun z => by omega⟩
  rw [e]
  exact Cl.best_is _ n
open Zm (SqM hSq hIt nIt oIt newM sq_get)
theorem sqM_ext {K : PySem.W.Frag} {t : Bool} {H H' : Hp} {a : Addr} {xs : List V} (e : ExtN H H') (h : SqM K t H a xs) : SqM K t H' a xs := by
  cases t
  · exact e.sqL h
  · exact e.sqT h
section
variable {prog : Program} {w : World} {A : Around}
/-- the library's walk, told of the values' readings -/
theorem walkM (hh : A.handled = none) (t : Bool) (it a : Addr) (hne : a ≠ it) (xs : List V) :
    WalksS prog w A it [it, a] [it] (fun a b => b = a) xs.length (fun i v => ∃ y, xs[i]? = some y ∧ RelV y v) (fun i s => hIt t s.heap it a i ∧ ∃ its : List Value, Vals xs its ∧ hSq t s.heap a its.toArray) := by
  have base : ∀ its : List Value, WalksS prog w A it [it, a] [it] (fun a b => b = a) its.toArray.size (fun i v => its.toArray[i]? = some v) (fun i s => hIt t s.heap it a i ∧ hSq t s.heap a its.toArray) := fun its => by
    cases t
    · exact (Walks.list (A := A) hh it a hne its.toArray).toS
    · exact (Walks.tuple (A := A) hh it a hne its.toArray).toS
  have size : ∀ {its : List Value}, Vals xs its → its.toArray.size = xs.length := fun r => by
    rw [List.size_toArray]
    exact r.length.symm
  constructor
  · exact (base []).sub
  · exact (base []).grefl
  · exact (base []).gtrans
  · rintro i s h' tk ⟨st, its, r, p⟩ le k
    obtain ⟨a1, a2⟩ := (base its).frame i s h' tk ⟨st, p⟩ le k
    exact ⟨a1, its, r, a2⟩
  · rintro i s Q E hi ⟨st, its, r, p⟩ hQ
    refine (base its).item i s Q E (by rw [size r]; exact hi) ⟨st, p⟩ fun v s' hv st' m => hQ v s' ?_ ⟨st'.1, its, r, st'.2⟩ m
    obtain ⟨v', e1, rr⟩ := r.get (List.getElem?_eq_getElem hi)
    have hv : its[i]? = some v := by simpa using hv
    rw [hv] at e1
    cases e1
    exact ⟨_, List.getElem?_eq_getElem hi, rr⟩
  · rintro s Q E ⟨st, its, r, p⟩ hQ
    exact (base its).done s Q E ⟨by rw [size r]; exact st, p⟩ hQ
  · rintro i s Q E ⟨st, its, r, p⟩ hQ
    exact (base its).self i s Q E ⟨st, p⟩ hQ
end
/-- what the key is asked of, and what comes of it -/
def tBestLam (K : PySem.W.Frag) (best : (Nat → Int) → Nat → Nat → Prop) (t : Bool) (T : List (Addr × Str)) (i : Nat) (te tb : TE) : TE := fun σ H Q => te σ H fun v H1 => ∃ (a : Addr) (xs : List V) (kf : Nat → Int), v = .ref a ∧ SqM K t H1 a xs ∧ 0 < xs.length ∧ Tabs T H1 ∧
  ∀ (H2 : Hp), ExtN H1 H2 → Tabs T H2 →
    (∀ (j : Nat) (y : V) (H' : Hp), xs[j]? = some y → ExtN H2 H' → Tabs T H' → tb (σ.set i (some y)) H' fun k H'' => k = .int (kf j) ∧ ExtN H' H'' ∧ Tabs T H'') ∧
    ∀ (j : Nat) (y : V) (H' : Hp), best kf xs.length j → xs[j]? = some y → ExtN H2 H' → Tabs T H' → Q y H'
section
variable {X : Cx}
/-- the loop's state between two keys, and one key -/
structure KeySt (X : Cx) (pins : List (Addr × Obj)) (σ : L2.St) (t : Bool) (T : List (Addr × Str)) (H2 : Hp) (a f c' it S : Addr) (xs : List V) (lo : Obj) (s' : Shared) (H' : Hp) : Prop where
  inv : Inv X pins σ H' s'
  ext : ExtN H2 H'
  tab : Tabs T H'
  sq : SqM X.K t H' a xs
  lam : s'.heap.get? f = some lo
  nf : H' f = none
  fS : FpOk X pins H' S
  fI : FpOk X pins H' it
variable {pins : List (Addr × Obj)} {σ : L2.St} {t : Bool} {T : List (Addr × Str)} {H2 : Hp} {a f c' it S : Addr} {xs : List V} {lo : Obj}
theorem KeySt.moved {s4 s5 : Shared} {H' : Hp} (k : KeySt X pins σ t T H2 a f c' it S xs lo s4 H') (hS : f ≠ S) (hI : f ≠ it) (m : Moved [S, it] (fun a b => b = a) s4 s5) : KeySt X pins σ t T H2 a f c' it S xs lo s5 H' := by
  have e5 : s5 = { s4 with heap := s5.heap, toks := s5.toks } := by
    obtain ⟨hp, g, d, tk, os⟩ := s5
    have h1 : g = s4.gens := m.gens
    have h2 : d = s4.drawn := m.drawn
    have h3 : os = s4.os := m.os
    subst h1 h2 h3
    rfl
  refine ⟨?_, k.ext, k.tab, k.sq, m.heap _ _ (fun hm => ?_) k.lam, k.nf, k.fS, k.fI⟩
  · rw [e5]
    exact k.inv.turnedL (ch := [S, it]) (fun c o hc ho => m.heap c o hc ho) (fun b hb => by
      rcases List.mem_cons.mp hb with z | hb
      · rw [z]; exact k.fS
      · rw [List.mem_singleton.mp hb]; exact k.fI)
  · rcases List.mem_cons.mp hm with z | hm
    · exact hS z
    · exact hI (List.mem_singleton.mp hm)
theorem FpOk.through {b : Addr} {ob : Obj} {s4 s5 : Shared} {H' H'' : Hp} (I : Inv X pins σ H' s4) (un : Un (frs X.stack) [] H' H'' s4.heap s5.heap) (hb : s4.heap.get? b = some ob) (fp : FpOk X pins H' b) : FpOk X pins H'' b ∧ s5.heap.get? b = some ob := by
  refine ⟨⟨un.free b ob hb fp.1 List.not_mem_nil, fp.2⟩, un.keep b ob hb fp.1 (fun z => ?_) List.not_mem_nil⟩
  rcases List.mem_cons.mp (I.stkSub _ z) with w | w
  · exact fp.2.1 w
  · exact fp.2.2.1 w
/-- both builtins, behind the making of the lambda -/
theorem best_run {k i : Nat} {x : Str} {params : Arguments} {body : Expr} {scope : Scope} {pm ctv : Value} {kf : Nat → Int} {tb : TE} {s2 : Shared} {Q : VK} (w : Bool) (I2 : Inv X pins σ H2 s2) (hr : Room (k + 2) X.A) (hh : X.A.handled = none)
    (L : LamP X.env.scope scope x) (hN : X.N[i]? = some x) (nd : X.N.Nodup) (hsq : SqM X.K t H2 a xs) (hne : 0 < xs.length) (T2 : Tabs T H2)
    (hf : s2.heap.get? f = some (PySem.W.kla_obj "<lambda>" (X.env.qual ++ "<lambda>") params body scope (cloFrom X.env.cells scope.names []) pm c' ctv)) (hfn : H2 f = none) (hff : f ∉ frs X.stack) (hco : H2 c' = some (CodeO c' (X.env.qual ++ "<lambda>")))
    (hbind : ∀ (q : Str) (cl : List (Str × Addr)) (pm cv ctv v : Value), bindArgs (PySem.W.kla_fn "<lambda>" q params body scope cl pm cv ctv) ⟨[v], []⟩ = pure [(x, v)])
    (hbody : ∀ (A : Around) (outer : List Env) (s : Shared) (H : Hp) (f c' : Addr), Room k (A.deeper (lamEnv X scope s.heap.objs.size f c')) → PE (lamCx X A outer s H E0 scope f c').nox body tb)
    (qk : ∀ (j : Nat) (y : V) (H' : Hp), xs[j]? = some y → ExtN H2 H' → Tabs T H' → tb (σ.set i (some y)) H' fun k H'' => k = .int (kf j) ∧ ExtN H' H'' ∧ Tabs T H'')
    (qf : ∀ (j : Nat) (y : V) (H' : Hp), (if w = true then FirstMost kf xs.length j else Cl.FirstLeast kf xs.length j) → xs[j]? = some y → ExtN H2 H' → Tabs T H' → Q y H') :
    wpAny (model X.prog X.w) X.A (call (.builtin (if w = true then "max" else "min")) [.ref a] [(Str.ofString "key", .ref f)]) (EP X pins σ Q) X.xe s2 := by
  obtain ⟨its, rv0, p0⟩ := sq_get I2 hsq
  have hnI := I2.hok.fresh (Nat.le_refl s2.heap.objs.size)
  have flt : f < s2.heap.objs.size := Heap.lt_size hf
  have alt := Zm.hSq_lt p0
  -- what is the same for both
  have core : ∀ (bt : Nat → Nat → Bool) (op : CmpOp), (∀ i j ki kj (s : Shared) (Q : Value → Shared → Prop) (E : Value → Shared → Prop), (∃ t, ki = .int (kf i) t) → (∃ t, kj = .int (kf j) t) → Q (.bool (bt i j)) s → wpAny (model X.prog X.w) X.A.in1 (richCompare op ki kj) Q E s) →
      (∀ j y H', j = argBest bt (xs.length - 1) → xs[j]? = some y → ExtN H2 H' → Tabs T H' → Q y H') →
      wpAny (model X.prog X.w) X.A.in1 (pyIter (.ref a)) (fun it s₂ => ∃ I fp wr G n P St J V bt, it = .ref I ∧ WalksS X.prog X.w X.A.in1 I fp wr G n P St ∧ St 0 s₂ ∧ (∀ b ∈ fp, b < s₂.heap.objs.size) ∧ 0 < n ∧
        KeyRun X.prog X.w X.A.in1 (.ref f) op s₂.heap.objs.size wr G n P St J V bt ∧ J s₂ ∧ ∀ v s', P (argBest bt (n - 1)) v → J s' → EP X pins σ Q v s') X.xe s2 := fun bt op hcmp hend => by
    refine newM p0 ?_
    have szp : (s2.heap.push (oIt t a)).objs.size = s2.heap.objs.size + 1 := Heap.size_push ..
    have ltp : s2.heap.objs.size < (s2.heap.push (oIt t a)).objs.size := by rw [szp]; exact Nat.lt_succ_self _
    have fpI : FpOk X pins H2 s2.heap.objs.size := I2.fpOk (Nat.le_refl _) hnI
    have fpS : FpOk X pins H2 (s2.heap.push (oIt t a)).objs.size := I2.fpOk (Nat.le_of_lt ltp) (I2.hok.fresh (Nat.le_of_lt ltp))
    have hfI : f ≠ s2.heap.objs.size := fun z => by rw [z] at flt; exact Nat.lt_irrefl _ flt
    have hfS : f ≠ (s2.heap.push (oIt t a)).objs.size := fun z => by
      rw [z] at flt
      exact Nat.lt_irrefl _ (Nat.lt_trans flt ltp)
    refine ⟨s2.heap.objs.size, _, _, _, xs.length, _, _, fun s' => ∃ H', KeySt X pins σ t T H2 a f c' s2.heap.objs.size (s2.heap.push (oIt t a)).objs.size xs (PySem.W.kla_obj "<lambda>" (X.env.qual ++ "<lambda>") params body scope (cloFrom X.env.cells scope.names []) pm c' ctv) s' H',
      fun i k _ => ∃ t, k = .int (kf i) t, bt, rfl, walkM (prog := X.prog) (w := X.w) (A := X.A.in1) hh t s2.heap.objs.size a (Nat.ne_of_lt alt) xs, ⟨Zm.hIt_young (Heap.get?_push_size _ (by cases t <;> rfl)), its, rv0, Zm.hSq_up p0 fun o e => Heap.get?_push_of_some _ e⟩, fun b hb => ?_, hne, ⟨?_, ?_, ?_, ?_⟩, ?_, ?_⟩
    · show b < (s2.heap.push (oIt t a)).objs.size
      rcases List.mem_cons.mp hb with z | hb
      · rw [z]; exact ltp
      · rw [List.mem_singleton.mp hb]; exact Nat.lt_trans alt ltp
    · rintro s4 s5 ⟨H', k'⟩ m
      exact ⟨H', k'.moved hfS hfI m⟩
    · exact fun i k s1 s' v _ => v
    · rintro j v s4 o Q' E' hj ⟨y, hy, ry⟩ ⟨H', k'⟩ ⟨stI, its', rv', stL⟩ hS cont
      have hco' : H' c' = some (CodeO c' (X.env.qual ++ "<lambda>")) := k'.ext _ _ hco codeO_ne
      refine wpAny_mono (lam_call (Q := fun k H'' => k = .int (kf j) ∧ ExtN H' H'' ∧ Tabs T H'') k'.inv L k'.lam hco' (fun v => hbind _ _ _ _ _ v) hr hh (fun A outer s H hr2 => hbody A outer s H f c' hr2) hN nd ry (qk j y H' hy k'.ext k'.tab)) (fun u' s5 hq => ?_) fun _ _ z => z
      obtain ⟨v', H'', I'', un, rv2, ek, sm, tb2⟩ := hq
      subst ek
      obtain ⟨tk, rfl⟩ := rv2
      obtain ⟨oi, hoi, _⟩ := Zm.hIt_there stI
      obtain ⟨g1, g2⟩ := FpOk.through k'.inv un hS k'.fS
      obtain ⟨g3, g4⟩ := FpOk.through k'.inv un hoi k'.fI
      have sq2 := sqM_ext sm k'.sq
      obtain ⟨its2, rw2, p2⟩ := sq_get I'' sq2
      exact cont _ s5 ⟨H'', I'', k'.ext.trans sm, tb2, sq2, un.keep _ _ k'.lam k'.nf hff List.not_mem_nil, un.free _ _ k'.lam k'.nf List.not_mem_nil, g1, g3⟩ ⟨Zm.hIt_at stI fun o ho => by rw [hoi] at ho; cases ho; exact g4, its2, rw2, p2⟩ g2 ⟨tk, rfl⟩ fun _ _ z => z
    · intro i j ki kj s4 Q' E' _ vi vj q'
      exact hcmp i j ki kj s4 Q' E' vi vj q'
    · exact ⟨H2, I2.kept (t' := s2.toks) fun b o e => Heap.get?_push_of_some _ e, ExtN.refl _, T2, hsq, Heap.get?_push_of_some _ hf, hfn, fpS, fpI⟩
    · rintro v s5 ⟨y, hy, ry⟩ ⟨H', k'⟩
      exact ⟨y, H', k'.inv, ry, hend _ y H' rfl hy k'.ext k'.tab⟩
  obtain ⟨n, en⟩ : ∃ n, xs.length = n + 1 := ⟨xs.length - 1, by omega⟩
  cases w
  · refine call_min_walkK (core (fun i j => decide (kf i < kf j)) .Lt (fun i j ki kj s Q' E' vi vj q' => CmpOf.ints_lt (prog := X.prog) (w := X.w) (A := X.A.in1) (P := fun i v => ∃ t, v = .int (kf i) t) kf (fun i v h => h) i j ki kj s Q' E' vi vj q') fun j y H' hj hy e tt => qf j y H' ?_ hy e tt)
    rw [if_neg Bool.false_ne_true, hj, en]
    exact Cl.best_is kf n
  · refine call_max_walkK (core (fun i j => decide (kf i > kf j)) .Gt (fun i j ki kj s Q' E' vi vj q' => CmpOf.ints_gt (prog := X.prog) (w := X.w) (A := X.A.in1) (P := fun i v => ∃ t, v = .int (kf i) t) kf (fun i v h => h) i j ki kj s Q' E' vi vj q') fun j y H' hj hy e tt => qf j y H' ?_ hy e tt)
    rw [if_pos rfl, hj, en]
    exact most_is kf n
variable {c P : Addr} {k i : Nat} {p lpos kpos pos : Pos} {e body : Expr} {te tb : TE} {x : Str} {params : Arguments} {scope : Scope}
/-- max(e, key=lambda x: body); t: e is a tuple -/
theorem pe_maxlam (t : Bool) (hg : Gl X "max") (hm : X.mg "max" = none) (he : PE X e te) (hr : Room (k + 2) X.A) (hh : X.A.handled = none) (TB : TabB X.base X.mg c P) (hcode : X.env.code = .ref c) (hmT : (P, X.env.qual ++ "<lambda>") ∈ T)
    (hu : ∀ q ∈ T, q.1 = P → q.2 = X.env.qual ++ "<lambda>") (L : LamP X.env.scope scope x) (hN : X.N[i]? = some x) (nd : X.N.Nodup) (hdef : defaultsOf params X.env = ([], []))
    (hbind : ∀ (q : Str) (cl : List (Str × Addr)) (pm cv ctv v : Value), bindArgs (PySem.W.kla_fn "<lambda>" q params body scope cl pm cv ctv) ⟨[v], []⟩ = pure [(x, v)])
    (hbody : ∀ (A : Around) (outer : List Env) (s : Shared) (H : Hp) (f c' : Addr), Room k (A.deeper (lamEnv X scope s.heap.objs.size f c')) → PE (lamCx X A outer s H E0 scope f c').nox body tb)
    (hs : starEach [e] X.env = (false, eval e X.env) :: starEach [] X.env := by rfl) :
    PE X (.Call (.Name "max" p) [e] [⟨some "key", .Lambda params body scope lpos, kpos⟩] pos) (tBestLam X.K FirstMost t T i te tb) := by
  refine ⟨fun pins s σ H Q I h => ?_⟩
  refine wpAny_Call_Name_kw (ld_blt I hg hm (u := .builtin "max") (by decide +kernel) ?_)
  refine PyProof.Rows.callWith_kw ?_ (by rw [hs]; rfl) (by rw [hs]; rfl) (by rfl) (by rfl)
  rw [hs]
  show wpAny _ _ (spliced ((false, eval e X.env) :: backTo pos (starEach [] X.env))) _ _ s
  refine Calls.spliced_cons (thn (he.run pins s σ H _ I h) fun u s1 ⟨v, H1, I1, r1, a, xs, kf, ev, hl, hne, hT, q⟩ => Calls.spliced_nil ?_)
  subst ev
  obtain rfl : u = Value.ref a := r1
  show wpAny _ _ (evalAll ((do let v ← eval (.Lambda params body scope lpos) X.env; standAt pos; pure v) :: [])) _ _ s1
  refine wpAny_evalAll_cons (wpAny_bind (lam_make2 I1 TB hcode hmT hu hT hdef (L.has I1.ok) fun f c' pm ctv H2 s2 I2 eN T2 hf hfn hff hco => wpAny_bind (wpAny_standAt (wpAny_pure (wpAny_evalAll_nil ?_)))))
  obtain ⟨qk, qf⟩ := q H2 eN T2
  exact best_run (w := true) (kf := kf) I2 hr hh L hN nd (sqM_ext eN hl) hne T2 hf hfn hff hco hbind hbody qk fun j y H' h => qf j y H' h
/-- min(e, key=lambda x: body) -/
theorem pe_minlam (t : Bool) (hg : Gl X "min") (hm : X.mg "min" = none) (he : PE X e te) (hr : Room (k + 2) X.A) (hh : X.A.handled = none) (TB : TabB X.base X.mg c P) (hcode : X.env.code = .ref c) (hmT : (P, X.env.qual ++ "<lambda>") ∈ T)
    (hu : ∀ q ∈ T, q.1 = P → q.2 = X.env.qual ++ "<lambda>") (L : LamP X.env.scope scope x) (hN : X.N[i]? = some x) (nd : X.N.Nodup) (hdef : defaultsOf params X.env = ([], []))
    (hbind : ∀ (q : Str) (cl : List (Str × Addr)) (pm cv ctv v : Value), bindArgs (PySem.W.kla_fn "<lambda>" q params body scope cl pm cv ctv) ⟨[v], []⟩ = pure [(x, v)])
    (hbody : ∀ (A : Around) (outer : List Env) (s : Shared) (H : Hp) (f c' : Addr), Room k (A.deeper (lamEnv X scope s.heap.objs.size f c')) → PE (lamCx X A outer s H E0 scope f c').nox body tb)
    (hs : starEach [e] X.env = (false, eval e X.env) :: starEach [] X.env := by rfl) :
    PE X (.Call (.Name "min" p) [e] [⟨some "key", .Lambda params body scope lpos, kpos⟩] pos) (tBestLam X.K Cl.FirstLeast t T i te tb) := by
  refine ⟨fun pins s σ H Q I h => ?_⟩
  refine wpAny_Call_Name_kw (ld_blt I hg hm (u := .builtin "min") (by decide +kernel) ?_)
  refine PyProof.Rows.callWith_kw ?_ (by rw [hs]; rfl) (by rw [hs]; rfl) (by rfl) (by rfl)
  rw [hs]
  show wpAny _ _ (spliced ((false, eval e X.env) :: backTo pos (starEach [] X.env))) _ _ s
  refine Calls.spliced_cons (thn (he.run pins s σ H _ I h) fun u s1 ⟨v, H1, I1, r1, a, xs, kf, ev, hl, hne, hT, q⟩ => Calls.spliced_nil ?_)
  subst ev
  obtain rfl : u = Value.ref a := r1
  show wpAny _ _ (evalAll ((do let v ← eval (.Lambda params body scope lpos) X.env; standAt pos; pure v) :: [])) _ _ s1
  refine wpAny_evalAll_cons (wpAny_bind (lam_make2 I1 TB hcode hmT hu hT hdef (L.has I1.ok) fun f c' pm ctv H2 s2 I2 eN T2 hf hfn hff hco => wpAny_bind (wpAny_standAt (wpAny_pure (wpAny_evalAll_nil ?_)))))
  obtain ⟨qk, qf⟩ := q H2 eN T2
  exact best_run (w := false) (kf := kf) I2 hr hh L hN nd (sqM_ext eN hl) hne T2 hf hfn hff hco hbind hbody qk fun j y H' h => qf j y H' h
end
end Lm

set_option Elab.async false
set_option linter.all false
set_option maxRecDepth 100000
set_option maxHeartbeats 1000000
/-! own rules: == and != of two dicts whose values are ints, equal or not -/
namespace Dq
open PySem PySem.Spec PyProof.Rows L2
abbrev KVs : Type := List (Key × V)
def eqDB (ks ls : List (Key × V)) : Bool := decide (ks.length = ls.length) && ks.all fun p => decide (valV ls p.1 = some p.2)
def IntVs (ks : List (Key × V)) : Prop := ∀ p ∈ ks, ∃ i : Int, p.2 = .int i
theorem valV_mem {kvs : List (Key × V)} {k : Key} {v : V} (h : valV kvs k = some v) : (k, v) ∈ kvs := by
  unfold valV at h
  obtain ⟨p, hp, rfl⟩ := Option.map_eq_some_iff.mp h
  have e := List.find?_some hp
  rw [show k = p.1 from (of_decide_eq_true e).symm]
  exact List.mem_of_find?_eq_some hp
section
variable {A : Around} {s : Shared} {ls : List (Key × V)} {vb : List (Key × Value)}
theorem hits_ints (rb : KV ls vb) (hl : IntVs ls) : ∀ {ks : List (Key × V)} {va : List (Key × Value)}, KV ks va → IntVs ks → PySem.W.KeqHits A s vb va (ks.all fun p => decide (valV ls p.1 = some p.2)) := by
  intro ks va ra
  unfold KV at ra
  induction ra with
  | nil => exact fun _ => .nil
  | @cons p q ps qs h t ih =>
    intro hk
    obtain ⟨h1, h2⟩ := h
    have h1 : p.1 = q.1 := h1
    obtain ⟨i, ei⟩ := hk p List.mem_cons_self
    have tail := ih fun z hz => hk z (List.mem_cons_of_mem _ hz)
    have rr := rb.val p.1
    rw [List.all_cons]
    cases e : valV ls p.1 with
    | none =>
      rw [e] at rr
      have hn : valueAt vb q.1 = none := by
        rw [← h1]
        cases z : valueAt vb p.1 with
        | none => rfl
        | some y => rw [z] at rr; exact rr.elim
      rw [decide_eq_false (fun z => nomatch z), Bool.false_and]
      exact .miss (v := q.2) hn
    | some u =>
      obtain ⟨j, ej⟩ := hl _ (valV_mem e)
      have ej : u = .int j := ej
      subst ej
      rw [e] at rr
      obtain ⟨y, hy, ry⟩ := rr.some_of
      rw [h1] at hy
      obtain ⟨t1, rfl⟩ := ry
      rw [ei] at h2 ⊢
      obtain ⟨t2, e2⟩ := h2
      obtain ⟨k, v⟩ := q
      have e2 : v = .int i t2 := e2
      subst e2
      rw [show decide (some (V.int j) = some (V.int i)) = (i == j) from by
        rw [Bool.eq_iff_iff, decide_eq_true_eq, beq_iff_eq]
        exact ⟨fun z => by injection z with z; injection z with z; exact z.symm, fun z => by rw [z]⟩]
      exact .hit hy (SeqAt.EqAt.int_int _ _ _ _) tail
end
def rEqDI : R2 := fun x y H Q => ∃ (a b : Addr) (ks ls : List (Key × V)), x = .ref a ∧ y = .ref b ∧ H a = some (.dK ks) ∧ H b = some (.dK ls) ∧ IntVs ks ∧ IntVs ls ∧ Q (.bl (eqDB ks ls)) H
def rNeDI : R2 := fun x y H Q => ∃ (a b : Addr) (ks ls : List (Key × V)), x = .ref a ∧ y = .ref b ∧ H a = some (.dK ks) ∧ H b = some (.dK ls) ∧ IntVs ks ∧ IntVs ls ∧ Q (.bl (!eqDB ks ls)) H
section
variable {X : Cx}
theorem len_dec {α β : Type} (xs : List α) (ys : List β) : (xs.length == ys.length) = decide (xs.length = ys.length) := by
  rw [Bool.eq_iff_iff, beq_iff_eq, decide_eq_true_eq]
theorem op_eqDI (hu : X.A.units < cLine) : OpR X (compareOp .Eq) rEqDI := by
  rintro pins s σ H x y v u Q I rx ry ⟨a, b, ks, ls, rfl, rfl, ea, eb, ia, ib, q⟩
  cases rx
  cases ry
  obtain ⟨_, ya, va, ra, da⟩ := dk_of I.hok ea
  obtain ⟨_, yb, vb, rb, db⟩ := dk_of I.hok eb
  refine PySem.W.keq_eq (knd := mixKind X.prog X.w) ya yb da db hu (fun _ => hits_ints rb ib ra ia) (fin_bl I q ?_)
  unfold eqDB
  rw [len_dec, ra.length, rb.length]
theorem op_neDI (hu : X.A.units < cLine) : OpR X (compareOp .NotEq) rNeDI := by
  rintro pins s σ H x y v u Q I rx ry ⟨a, b, ks, ls, rfl, rfl, ea, eb, ia, ib, q⟩
  cases rx
  cases ry
  obtain ⟨_, ya, va, ra, da⟩ := dk_of I.hok ea
  obtain ⟨_, yb, vb, rb, db⟩ := dk_of I.hok eb
  refine PySem.W.keq_ne (knd := mixKind X.prog X.w) ya yb da db hu (fun _ => hits_ints rb ib ra ia) (fin_bl I q ?_)
  unfold eqDB
  rw [len_dec, ra.length, rb.length]
/-- the same, as a part of something -/
def DDI : Eqv := fun x y H => ∃ (a b : Addr) (ks ls : List (Key × V)), x = .ref a ∧ y = .ref b ∧ H a = some (.dK ks) ∧ H b = some (.dK ls) ∧ IntVs ks ∧ IntVs ls ∧ eqDB ks ls = true
theorem mon_dI : Mon DDI := fun x y H H' e ⟨a, b, ks, ls, h1, h2, h3, h4, r⟩ => ⟨a, b, ks, ls, h1, h2, e _ _ h3, e _ _ h4, r⟩
theorem rcG_dI : RcG X 1 DDI := by
  rintro A pins s σ H x y u v sb I rx ry ⟨a, b, ks, ls, rfl, rfl, ea, eb, ia, ib, q⟩
  cases rx
  cases ry
  obtain ⟨_, ya, va, ra, da⟩ := dk_of I.hok ea
  obtain ⟨_, yb, vb, rb, db⟩ := dk_of I.hok eb
  have key := PySem.W.keq_eq (prog := X.prog) (w := X.w) (A := A) (E := X.xe) (Q := fun r s' => r = .bool true ∧ ∃ H', Inv X pins σ H' s' ∧ Ext H H') (knd := mixKind X.prog X.w) ya yb da db sb.room.units0 (fun _ => hits_ints rb ib ra ia)
  refine key ⟨?_, H, I, Ext.rfl'⟩
  unfold eqDB at q
  rw [len_dec, ← ra.length, ← rb.length, q]
theorem eqG_dI : EqG X 1 DDI := rcG_dI.eqG fun _ _ _ d => let ⟨a, b, _, _, hx, hy, _⟩ := d; ⟨a, b, hx, hy⟩
theorem eqDB_same {ks : List (Key × V)} (nd : ∀ p ∈ ks, valV ks p.1 = some p.2) : eqDB ks ks = true := by
  unfold eqDB
  rw [decide_eq_true rfl, Bool.true_and]
  exact List.all_eq_true.mpr fun p hp => decide_eq_true (nd p hp)
end
end Dq

set_option Elab.async false
set_option linter.all false
set_option maxRecDepth 100000
set_option maxHeartbeats 1000000
/-! list(o.values()), a dict with int values -/
namespace L2
open PySem PySem.Spec PyProof.Rows
section
variable {X : Cx}
def tListVals (td : TE) : TE := fun σ H Q => td σ H fun x H1 => ∃ (a : Addr) (kvs : List (Key × V)), x = V.ref a ∧ H1 a = some (.dK kvs) ∧ ∀ p, H1 p = none → Q (.ref p) (upd H1 p (.lst (kvs.map (·.2))))
variable {o : Expr} {p pos apos mpos : Pos} {td : TE}
theorem pe_listVals (hc : X.calm = true) (hg : Gl X "list") (hm : X.mg "list" = none) (hd : PE X o td) (hbase : attributeBase o "values" X.env (eval o X.env) = eval o X.env := by rfl) (hline : (apos.endLine == mpos.line) = true := by rfl)
    (hse : starEach [Expr.Call (.Attribute o "values" apos) [] [] mpos] X.env = [(false, eval (Expr.Call (.Attribute o "values" apos) [] [] mpos) X.env)] := by rfl) :
    PE X (.Call (.Name "list" p) [.Call (.Attribute o "values" apos) [] [] mpos] [] pos) (tListVals td) := by
  refine ⟨fun pins s σ H Q I h => ?_⟩
  refine wpAny_Call_Name_kw (ld_blt I hg hm (u := .type "list") (by first | rfl | decide +kernel) ?_ (by first | decide +kernel | decide) (by first | decide +kernel | decide))
  rw [hse]
  refine PySem.callWith_type1 (wpAny_Call_method0_late hbase hline (thn (hd.run pins s σ H _ I h) fun v s1 ⟨x, H1, I1, r1, a, kvs, ex, ha, q⟩ => ?_))
  subst ex
  obtain rfl : v = Value.ref a := r1
  obtain ⟨z, hsys, vs, rel, dof⟩ := dk_of I1.hok ha
  obtain ⟨ep, dat⟩ := dof.dictAt
  have dat' := dat
  obtain ⟨ob, es, ho, ex, hdat, hko, hpr, hnd⟩ := dat'
  refine ⟨"dict", "dict.values", F.plainAttrs_dict, F.slot_dict_values, F.type_dict_values, ⟨ob, ho, ex.1⟩, fun b e => ?_, Calls.callWith_builtin rfl (PySem.evalArgs_none ?_)⟩
  · cases e
    exact ⟨ob, ho, ex.2.1⟩
  refine call_meetsIn F.slot_dict_values ⟨ob, ho, ex.1⟩ F.entry_dict_values (F.args_dict_values_1 _) (meets_dict_values (mixKind X.prog X.w) a hsys) ⟨⟨vs, dof⟩, ?_⟩
  have k1 : ∀ b u, s1.heap.get? b = some u → (s1.heap.push { cls := .type "dict_values", data := .fields #[.ref a] }).get? b = some u := fun b u e => Heap.get?_push_of_some _ e
  have I2 : Inv X pins σ H1 { s1 with heap := s1.heap.push { cls := .type "dict_values", data := .fields #[.ref a] } } := I1.kept (t' := s1.toks) k1
  have hl : kvs.length = vs.length := rel.length
  refine PySem.W.kdl_call (PySem.W.kdl_values (knd := mixKind X.prog X.w) (kvs := vs) (ep := ep)) (I1.ok.hd hc) ⟨⟨_, Heap.get?_push_size _ rfl, rfl, rfl⟩, dat.keep k1⟩ (by rw [← hl]; exact z) fun h' tk acc c' hk hD hacc => ?_
  have I3 := I2.laid (a := (s1.heap.push { cls := .type "dict_values", data := .fields #[.ref a] }).objs.size) (o := .lst (kvs.map (·.2))) (t' := tk) hk (Nat.le_refl _) ?_
  · exact ⟨.ref _, _, I3, rfl, q _ (I2.hok.fresh (Nat.le_refl _))⟩
  · refine ⟨by rw [List.length_map]; exact z, acc.toList, c', ?_, by rw [Array.toArray_toList]; exact hD⟩
    refine vals_of_at (by
      have e : acc.toList.length = acc.size := Array.length_toList
      rw [List.length_map, e, hacc.1, hl]) fun j x w h1 h2 => ?_
    obtain ⟨k, hi⟩ := hacc.2 j w (by rw [← Array.getElem?_toList]; exact h2)
    obtain ⟨y, h3, h4⟩ := KV.at' rel hi
    rw [List.getElem?_map, h3] at h1
    cases h1
    exact h4
end
end L2

set_option Elab.async false
set_option linter.all false
set_option maxRecDepth 100000
set_option maxHeartbeats 4000000
/-! xs[i] += e, xs a list, i from 0 on: the read -/
namespace Ga
open PySem PySem.Spec PyProof.Rows PySem.W L2
theorem get_list {X : Cx} : PGet X (fun x y H Q => ∃ p xs i v, x = .ref p ∧ y = .int i ∧ 0 ≤ i ∧ SqL X.K H p xs ∧ xs[i.toNat]? = some v ∧ Q v H) := by
  intro pins s σ H o i ov iv Q I ro ri h
  obtain ⟨p, xs, i, z, rfl, rfl, h0, hq, h2, q⟩ := h
  cases ro
  obtain ⟨t, rfl⟩ := ri
  obtain ⟨its, r, pl, hz⟩ := I.list hq
  obtain ⟨w, ew, rw'⟩ := r.get h2
  have hl := r.length
  have hn := line63
  have hlt : i.toNat < xs.length := by
    rcases Nat.lt_or_ge i.toNat xs.length with g | g
    · exact g
    · rw [List.getElem?_eq_none g] at h2; cases h2
  exact wpAny_getItem_list pl.isList h0 (by omega) (by simpa using ew) ⟨z, H, I, rw', q⟩
end Ga
namespace Ga
open PySem PySem.Spec PyProof.Rows PySem.W L2
/-- x *= e, ints, one of them small -/
theorem ip_mul {X : Cx} : PIp X .Mult (fun x y H Q => ∃ i j, x = .int i ∧ y = .int j ∧ CMul i j ∧ Q (.int (i * j)) H) := by
  intro pins s σ H x y v u Q I r1 r2 h
  obtain ⟨i, j, e1, e2, hc, q⟩ := h
  subst e1; subst e2
  obtain ⟨t, rfl⟩ := r1
  obtain ⟨t', rfl⟩ := r2
  exact imul_int ⟨.int _, H, I.tok _, ⟨_, rfl⟩, q⟩ hc.ok
end Ga

set_option Elab.async false
set_option linter.all false
set_option maxRecDepth 100000
set_option maxHeartbeats 2000000
/-! sorted(d), d a dict with whole numbers as keys -/
namespace Sd
open PySem PySem.Spec PyProof.Rows L2
section
variable {prog : Program} {w : World} {A : Around} {E : Value → Shared → Prop} {s : Shared} {T : String} {r d : Addr} {n : Nat} {P : Nat → Value → Prop} {OK : Heap → Prop}
/-- what a source of values gives, gathered -/
theorem gather_src {Q : List Value → Shared → Prop} (K : PySem.W.KdlSrc prog w T r d n P OK) (hh : A.handled = none) (hok : OK s.heap) (hn : n ≤ sizeLine)
    (h : ∀ h' tk (acc : Array Value) c, (∀ b o, s.heap.get? b = some o → h'.get? b = some o) → h'.get? s.heap.objs.size = some { cls := .type "list", dict := none, data := .seq acc c, slots := #[] } → PySem.ItemsOf P acc n → Q acc.toList { s with heap := h', toks := tk }) :
    wpAny (model prog w) A (collect (.ref r)) Q E s := by
  unfold collect
  refine wpAny_bind (wpAny_runValue (codeAny_builtin entry_proto_collect' ?_))
  show wpAny _ _ (do again (.builtin "list.__iadd__" ⟨[← newList [], .ref r], []⟩)) _ _ s
  refine wpAny_bind (wpAny_newList (wpAny_pure ⟨Code.quiet_builtin _ (by decide +kernel), codeAny_builtin entry_list_iadd' ?_⟩))
  show wpAny _ _ (Builtin.List.listExtendWith (.ref s.heap.objs.size) (.ref r) (.ref s.heap.objs.size)) _ _ { s with heap := s.heap.push (seqObj "list" #[] 0) }
  have hlt := K.there _ hok
  have hS : (s.heap.push (seqObj "list" #[] 0)).get? s.heap.objs.size = some { cls := .type "list", data := .seq #[] 0 } := Heap.get?_push_size _ rfl
  have hok2 : OK (s.heap.push (seqObj "list" #[] 0)) := K.keep _ _ hok fun b _ o e => Heap.get?_push_of_some _ e
  rw [Around.under_plainId (id := "list.__iadd__") (by decide +kernel) _]
  refine PySem.W.kdl_extend (R := fun r s' => match r with
    | .ok (.ret v) => wpAny (model prog w) A (match v with
        | .ref a => do
          let o ← load a
          match o.data with
          | .seq xs _ => pure xs.toList
          | _ => unsupported "internal:collect"
        | _ => unsupported "internal:collect") Q E s'
    | .ok _ => False
    | .error e => E e s') (s := { s with heap := s.heap.push (seqObj "list" #[] 0) }) K hh hok2 s.heap.objs.size (Nat.ne_of_gt hlt.1) (Nat.ne_of_gt hlt.2) (.ref s.heap.objs.size) 0 hS (fun h' tk acc c hk hS' hacc => ?_) hn
  refine wpAny_bind (wpAny_load hS' ?_)
  exact wpAny_pure (h h' tk acc c (fun b o e => hk b o (Nat.ne_of_lt (Heap.lt_size e)) (Heap.get?_push_of_some _ e)) hS' hacc)
end
def rSortedD : List V → Hp → VK → Prop := fun vs H Q => ∃ (a : Addr) (kvs : List (Key × V)) (ns : List Int), vs = [V.ref a] ∧ H a = some (.dK kvs) ∧ kvs.map (·.1) = ns.map Sum.inl ∧
  ∀ (ns' : List Int) (p : Addr), ns'.Perm ns → ns'.Pairwise (· ≤ ·) → H p = none → Q (.ref p) (upd H p (.lst (ns'.map V.int)))
theorem cr_sortedD {X : Cx} (hc : X.calm = true) : CallR X (.builtin "sorted") rSortedD := by
  intro pins s σ H vs us Q I r h
  obtain ⟨a, kvs, ns, rfl, ha, hks, q⟩ := h
  rw [Vals.ref1 r]
  obtain ⟨z, lo, vs, rk, hd⟩ := (show ObjOk X.prog X.w H s.heap a (.dK kvs) from I.hok a _ ha)
  obtain ⟨ep, hat⟩ := hd.dictAt
  have hl : kvs.length = vs.length := Paired.length rk
  have hkl : ns.length = kvs.length := by
    have := congrArg List.length hks
    rw [List.length_map, List.length_map] at this
    exact this.symm
  refine Calls.call_function_entry kind_sorted plain_sorted entry_sorted (args_sorted1 _) ?_
  unfold Builtin.«sorted»
  refine wpAny_bind (m := checkCount "sorted" 1 1 _) (wpAny_pure ?_)
  refine wpAny_bind (gather_src (PySem.W.kdl_dict (knd := mixKind X.prog X.w) (kvs := vs) (ep := ep) lo) (by exact I.ok.hd hc) hat (by rw [← hl]; exact z) fun h' tk acc c hk hS hacc => ?_)
  have el : acc.toList.length = acc.size := by simp
  have rv : Vals (ns.map V.int) acc.toList := by
    refine vals_of_at (by rw [List.length_map, el, hacc.1, ← hl, hkl]) fun j x w h1 h2 => ?_
    obtain ⟨k, y, hky, hi⟩ := hacc.2 j w (by rw [← Array.getElem?_toList]; exact h2)
    have e1 : (kvs.map (·.1))[j]? = some k := by
      rw [KV.keys rk, List.getElem?_map, hky] <;> rfl
    rw [hks, List.getElem?_map] at e1
    rw [List.getElem?_map] at h1
    cases e : ns[j]? with
    | none => rw [e] at h1; cases h1
    | some n =>
      rw [e] at h1 e1
      have e1 : Sum.inl n = k := Option.some.inj e1
      have h1 : V.int n = x := Option.some.inj h1
      rw [← h1]
      have := keyIs_rel hi
      rw [← e1] at this
      exact this
  have hi := rv.ints
  have hzi : acc.toList.length ≤ sizeLine := by rw [el, hacc.1, ← hl]; exact z
  have hlt : s.heap.objs.size < h'.objs.size := Heap.lt_size hS
  refine wpAny_bind (wpAny_newList ?_ hzi)
  have hoL : (h'.push (seqObj "list" acc.toList.toArray 0)).get? h'.objs.size = some (seqObj "list" acc.toList.toArray 0) := Heap.get?_push_size _ rfl
  refine wpAny_bind (wpAny_holding (wpAny_call_entry slot_list_sort ⟨_, hoL, rfl⟩ entry_list_sort (SrtO.list_sort_ord SrtO.swo_int hoL hzi (fun h2 => SrtO.ints_sortable hi h2) fun out h1 h2 => ⟨_, rfl, ?_⟩) (args_list_sort _)))
  refine wpAny_pure ⟨_, rfl, ?_⟩
  obtain ⟨k1, k2, k3⟩ := SrtO.ints_out hi h1 h2
  have hlen : ((out.map SrtO.iv).map V.int).length ≤ sizeLine := by
    rw [List.length_map, k2.length_eq, hkl]
    exact z
  obtain ⟨e0, he0⟩ := sortedHeap_at (out := out.toArray) hoL
  refine ⟨.ref _, upd H h'.objs.size (.lst ((out.map SrtO.iv).map V.int)), I.laid (t' := tk) (fun b o e => ?_) (Nat.le_of_lt hlt) ⟨hlen, out, e0, vals_of_ints k1, he0⟩, rfl, q _ _ k2 k3 (I.hok.fresh (Nat.le_of_lt hlt))⟩
  have hb := Heap.lt_size (hk b o e)
  refine (sortedHeap_old (Nat.ne_of_lt hb) (by rw [size_push']; exact Nat.lt_succ_of_lt hb)).trans ?_
  exact Heap.get?_push_of_some _ (hk b o e)
end Sd

set_option Elab.async false
set_option linter.all false
set_option maxRecDepth 100000
set_option maxHeartbeats 2000000
/-! own rule: a dict comprehension of two clauses. One lemma speaks of a clause's turn (turnK), whichever clause it is; into_blk: the block is entered, and left -/
namespace L2.D2
open PySem PySem.Spec PyProof.Rows L2
/-- a clause's turn; k: what comes behind its tests -/
def turnK (at_ : Pos) (tg : Expr) (cs : List Expr) (it : Value) (env : Env) (k : Bool → Sem Fin) : Sem Fin := do
  standAt at_
  match ← pyNext it with
  | none => pure (.done .next)
  | some v =>
    letOwnedTupleGo tg it v
    assign tg env v
    let go ← forIn cs true fun c r => if r = true then do let ok ← isTrue c env (eval c env); pure (ForInStep.yield ok) else pure (ForInStep.yield r)
    k go
section
variable {kx vx ta ia tb ib : Expr} {ca cb : List Expr} {sc : Scope} {pos : Pos}
theorem turn_a (it : Value) (D : Addr) (env : Env) : compTurn (.DictComp kx vx [⟨ta, ia, ca, 0⟩, ⟨tb, ib, cb, 0⟩] sc pos) 0 it (.ref D) env =
    turnK ia.pos ta ca it env fun go => if go = true then (do
        let src ← eval ib env
        standAt ib.pos
        let src ← foldedSetIterable ib env src
        let _ ← runOwn (.compStart (.DictComp kx vx [⟨ta, ia, ca, 0⟩, ⟨tb, ib, cb, 0⟩] sc pos) 1 (← holding [src] (pyIter src)) (.ref D) env) env
        again (.compLoop (.DictComp kx vx [⟨ta, ia, ca, 0⟩, ⟨tb, ib, cb, 0⟩] sc pos) 0 it (.ref D) env))
      else again (.compLoop (.DictComp kx vx [⟨ta, ia, ca, 0⟩, ⟨tb, ib, cb, 0⟩] sc pos) 0 it (.ref D) env) := by rfl
theorem turn_b (it : Value) (D : Addr) (env : Env) : compTurn (.DictComp kx vx [⟨ta, ia, ca, 0⟩, ⟨tb, ib, cb, 0⟩] sc pos) 1 it (.ref D) env =
    turnK ib.pos tb cb it env fun go => if go = true then (do
        (do
          let key ← eval kx env
          let val ← holding [key] (eval vx env)
          standAt { kx.pos with endLine := vx.pos.endLine, endCol := vx.pos.endCol }
          holding [key, val] (dictSet D key val))
        again (.compLoop (.DictComp kx vx [⟨ta, ia, ca, 0⟩, ⟨tb, ib, cb, 0⟩] sc pos) 1 it (.ref D) env))
      else again (.compLoop (.DictComp kx vx [⟨ta, ia, ca, 0⟩, ⟨tb, ib, cb, 0⟩] sc pos) 1 it (.ref D) env) := by rfl
end
section
variable {X : Cx}
/-- a walk stands at turn i, and its own objects are untracked -/
structure Walking (X : Cx) (pins : List (Addr × Obj)) (σ : St) (fp : List Addr) (tn : Nat → Heap → Prop) (i : Nat) (H : Hp) (s : Shared) : Prop where
  inv : Inv X pins σ H s
  st : tn i s.heap
  nil : ∀ b ∈ fp, H b = none
variable {pins : List (Addr × Obj)} {σ : St} {H : Hp} {s : Shared} {J : It} {fp : List Addr} {it : Addr} {tn : Nat → Heap → Prop} {tg : Expr} {cs : List Expr} {g : TG} {tt : TT} {i : Nat}
theorem Walking.weak {σ' : St} (w : Walking X pins σ fp tn i H s) (hl : σ'.length = σ.length) (hw : ∀ (j : Nat) v, σ'[j]? = some (some v) → σ[j]? = some (some v)) : Walking X pins σ' fp tn i H s := ⟨w.inv.weak hl hw, w.st, w.nil⟩
/-- behind a turn's own work, its objects pinned at h -/
theorem back (T : Turn X.prog X.w X.K tg J fp it tn) {h : Heap} (st : tn i h) (I : Inv X (pins ++ pinsAt fp h) σ H s) : Walking X pins σ fp tn i H s := by
  have pin : ∀ b ∈ fp, ∀ o, h.get? b = some o → s.heap.get? b = some o ∧ H b = none := fun b hb o e => by
    have q := I.pin (b, o) (List.mem_append_right _ (List.mem_append_right _ (mem_pinsAt hb e)))
    exact ⟨q.1, q.2.1⟩
  refine ⟨I.unpinned, T.keep _ _ _ st fun b hb o e => (pin b hb o e).1, fun b hb => ?_⟩
  obtain ⟨o, e, _⟩ := T.obj _ _ st b hb
  exact (pin b hb o e).2
/-- a turn that finds no more -/
theorem turn_stop (hc : X.calm = true) (T : Turn X.prog X.w X.K tg J fp it tn) (hf : ∀ H', (∀ b ∈ fp, H' b = none) → ∀ b ∈ fp, FpOk X pins H' b) (wk : Walking X pins σ fp tn i H s) (hs : J.stop i H) {p : Pos} {k : Bool → Sem Fin} {Q : Fin → Shared → Prop} {E : Value → Shared → Prop}
    (hq : ∀ s', Inv X pins σ H s' → Q (.done .next) s') : wpAny (model X.prog X.w) X.A (turnK p tg cs (.ref it) X.env k) Q E s := by
  unfold turnK
  refine wpAny_bind (wpAny_standAt (wpAny_bind (thnF (T.done X rfl rfl rfl hc i pins s σ H (fun _ _ => False) wk.inv (hf H wk.nil) wk.st hs) fun r s' z => ?_)))
  obtain ⟨e, I⟩ := z
  rw [e]
  exact wpAny_pure (hq s' I)
/-- a turn that goes on: what is wanted of k -/
theorem turn_go (hc : X.calm = true) (hx : X.xe = fun _ _ => False) (T : Turn X.prog X.w X.K tg J fp it tn) (pg : PG X tg g) (pt : PTs X cs tt) (hf : ∀ H', (∀ b ∈ fp, H' b = none) → ∀ b ∈ fp, FpOk X pins H' b) (wk : Walking X pins σ fp tn i H s) (go : J.go i H)
    {Pm : St → Prop} {B : St → Bool → Hp → Prop} (step : ∀ x H', J.yld i H x H' → g x σ H' fun σ2 H2 => Pm σ2 ∧ tt σ2 H2 (B σ2)) {p : Pos} {k : Bool → Sem Fin} {Q : Fin → Shared → Prop} {E : Value → Shared → Prop}
    (hk : ∀ (pl : List (Addr × Obj)), (∀ σ' H' s', Inv X (pins ++ pl) σ' H' s' → Walking X pins σ' fp tn (i + 1) H' s') → ∀ b σ2 H3 s3, Inv X (pins ++ pl) σ2 H3 s3 → Pm σ2 → B σ2 b H3 → wpAny (model X.prog X.w) X.A (k b) Q E s3) :
    wpAny (model X.prog X.w) X.A (turnK p tg cs (.ref it) X.env k) Q E s := by
  unfold turnK
  refine wpAny_bind (wpAny_standAt (wpAny_bind (thnF (T.item X rfl rfl rfl hc i pins s σ H (fun _ _ => False) wk.inv (hf H wk.nil) wk.st go) fun r s1 z => ?_)))
  obtain ⟨u, e, z⟩ := z
  rw [e]
  refine wpAny_bind (thnF z fun _ s2 z => ?_)
  obtain ⟨x, H2, I2, rx, y, st2, n2⟩ := z
  have a := pg.run _ s2 σ H2 x u _ (I2.pinned (hf H2 n2) (T.obj _ _ st2)) rx (step x H2 y)
  rw [hx] at a
  refine wpAny_bind (thnF a fun _ s3 z => ?_)
  obtain ⟨σ3, H3, I3, h3, q3⟩ := z
  have b := pt.run _ s3 σ3 H3 _ I3 q3
  rw [hx] at b
  refine wpAny_bind (thnF b fun more s4 z => ?_)
  obtain ⟨H4, I4, q4⟩ := z
  exact hk (pinsAt fp s2.heap) (fun σ' H' s' I' => back T st2 I') more σ3 H4 s4 I4 h3 q4
end
section
variable {X : Cx} {kx vx ta ia tb ib : Expr} {ca cb : List Expr} {sc : Scope} {pos : Pos} {pins : List (Addr × Obj)} {σ : St} {H : Hp} {s : Shared} {J : It} {fp : List Addr} {it D : Addr} {tn : Nat → Heap → Prop} {ga gb : TG} {qa qb : TT} {wb : TI} {tk tv : TE} {va vb : List Nat} {R : Result → Shared → Prop}
/-- what a turn of the second clause is to answer -/
def StepB (gb : TG) (qb : TT) (tk tv : TE) (vb : List Nat) (D : Addr) (J : It) (σ : St) (Nx : Hp → Prop) (W : Nat → Nat → Hp → Prop) : Prop := ∀ j k H, W j k H →
  (J.stop j H ∧ Nx H) ∨ (J.go j H ∧ ∃ Ny : Hp → Prop, (∀ H', Ny H' → ∃ k', k' < k ∧ W (j + 1) k' H') ∧ ∀ x H', J.yld j H x H' → gb x (wipe σ vb) H' fun σ2 H2 => wipe σ2 vb = wipe σ vb ∧ qb σ2 H2 fun b H3 =>
    if b = true then tk σ2 H3 fun y H4 => tv σ2 H4 fun z H5 => ∃ kvs key, y = kV key ∧ H5 D = some (.dK kvs) ∧ kvs.length < sizeLine ∧ Ny (upd H5 D (.dK (putK kvs key z))) else Ny H3)
/-- what a turn of the first clause is to answer -/
def StepA (ga : TG) (qa : TT) (wb : TI) (gb : TG) (qb : TT) (tk tv : TE) (va vb : List Nat) (D : Addr) (J : It) (σ : St) (Nx : Hp → Prop) (W : Nat → Nat → Hp → Prop) : Prop := ∀ i m H, W i m H →
  (J.stop i H ∧ Nx H) ∨ (J.go i H ∧ ∃ Ny : Hp → Prop, (∀ H', Ny H' → ∃ m', m' < m ∧ W (i + 1) m' H') ∧ ∀ x H', J.yld i H x H' → ga x (wipe σ va) H' fun σ2 H2 => wipe σ2 va = wipe σ va ∧ qa σ2 H2 fun b H3 =>
    if b = true then wb σ2 H3 fun Jb H4 => ∃ Wb : Nat → Nat → Hp → Prop, (∃ k, Wb 0 k H4) ∧ StepB gb qb tk tv vb D Jb σ2 Ny Wb else Ny H3)
theorem loop_b (hc : X.calm = true) (hx : X.xe = fun _ _ => False) (T : Turn X.prog X.w X.K tb J fp it tn) (pg : PG X tb gb) (pt : PTs X cb qb) (pk : PE X kx tk) (pv : PE X vx tv) (hf : ∀ H', (∀ b ∈ fp, H' b = none) → ∀ b ∈ fp, FpOk X pins H' b)
    {Nx : Hp → Prop} {W : Nat → Nat → Hp → Prop} (turn : StepB gb qb tk tv vb D J σ Nx W) {m : Nat} (wk : Walking X pins (wipe σ vb) fp tn 0 H s) (w : W 0 m H) (hR : ∀ H' s', Inv X pins (wipe σ vb) H' s' → Nx H' → R (.ok .next) s') :
    codeAny (model X.prog X.w) X.A (.compLoop (.DictComp kx vx [⟨ta, ia, ca, 0⟩, ⟨tb, ib, cb, 0⟩] sc pos) 1 (.ref it) (.ref D) X.env) R s := by
  refine codeAny_loop rfl (fun n s' => ∃ i H', Walking X pins (wipe σ vb) fp tn i H' s' ∧ W i n H') (fun n s' z => ?_) m ⟨0, H, wk, w⟩
  obtain ⟨i, H', wk', w'⟩ := z
  show wpAny _ X.A ((compTurn (.DictComp kx vx [⟨ta, ia, ca, 0⟩, ⟨tb, ib, cb, 0⟩] sc pos) 1 (.ref it) (.ref D) X.env).onRaise (fun x => do noteFrame x X.env; theTreesLotGoes x)) _ _ s'
  refine wpAny_noted ?_
  rw [turn_b]
  rcases turn i n H' w' with ⟨stop, nx⟩ | ⟨go, Ny, hNy, step⟩
  · exact turn_stop hc T hf wk' stop fun s2 I2 => hR H' s2 I2 nx
  · refine turn_go hc hx T pg pt hf wk' go step fun pl bk b σ2 H3 s3 I3 hP q => ?_
    have fin : ∀ H4 s4, Inv X (pins ++ pl) σ2 H4 s4 → Ny H4 → ∃ m', m' < n ∧ ∃ i H, Walking X pins (wipe σ vb) fp tn i H s4 ∧ W i m' H := fun H4 s4 I4 n1 => by
      obtain ⟨m', hm, w2⟩ := hNy H4 n1
      exact ⟨m', hm, i + 1, H4, (bk σ2 H4 s4 I4).weak (by rw [← hP, wipe_length]) (fun j v e => by rw [← hP] at e; exact (wipe_some e).1), w2⟩
    cases b with
    | false => exact wpAny_pure ⟨rfl, fin H3 s3 I3 q⟩
    | true =>
      have a := pk.run _ s3 σ2 H3 _ I3 q
      rw [hx] at a
      refine wpAny_bind (wpAny_bind (thnF a fun key s4 z => ?_))
      obtain ⟨yk, H4, I4, rk, q4⟩ := z
      have a := pv.run _ s4 σ2 H4 _ I4 q4
      rw [hx] at a
      refine wpAny_bind (wpAny_holding (thnF a fun val s5 z => ?_))
      obtain ⟨yv, H5, I5, rv, kvs, k, ek, hD5, hz, n1⟩ := z
      subst ek
      exact wpAny_bind (wpAny_standAt (wpAny_holding (d_dictSet (X := X) I5 hD5 hz rk rv fun s6 I6 => wpAny_pure ⟨rfl, fin _ s6 I6 n1⟩)))
/-- the second clause begins -/
theorem start_b {A : Around} {itv acc : Value} {env : Env} (h0 : codeAny (model X.prog X.w) A (.compLoop (.DictComp kx vx [⟨ta, ia, ca, 0⟩, ⟨tb, ib, cb, 0⟩] sc pos) 1 itv acc env) R s)
    (h1 : ∀ (Q : Value → Shared → Prop) (E : Value → Shared → Prop), Q itv s → wpAny (model X.prog X.w) A (pyIter itv) Q E s) :
    codeAny (model X.prog X.w) A (.compStart (.DictComp kx vx [⟨ta, ia, ca, 0⟩, ⟨tb, ib, cb, 0⟩] sc pos) 1 itv acc env) R s := by
  refine codeAny_of_tree ?_
  show wpAny _ _ ((compStart (.DictComp kx vx [⟨ta, ia, ca, 0⟩, ⟨tb, ib, cb, 0⟩] sc pos) 1 itv acc env).onRaise (fun x => do noteFrame x env; standAt theWindowsPlace)) _ _ s
  refine wpAny_notedAt ?_
  unfold compStart
  show wpAny _ _ (ask >>= _) _ _ s
  refine wpAny_bind (wpAny_askSetting (wpAny_ite ?_))
  split
  · exact wpAny_bind (wpAny_pure (wpAny_pure (And.intro rfl h0)))
  · exact wpAny_bind (wpAny_rule (wpAny_bind (wpAny_standAt (wpAny_bind (h1 _ _ (wpAny_pure (And.intro rfl h0)))))))
theorem loop_a (hc : X.calm = true) (hx : X.xe = fun _ _ => False) (T : Turn X.prog X.w X.K ta J fp it tn) (pg : PG X ta ga) (pt : PTs X ca qa) (pi : PI X tb ib wb) (pg2 : PG X tb gb) (pt2 : PTs X cb qb) (pk : PE X kx tk) (pv : PE X vx tv)
    (hf : ∀ H', (∀ b ∈ fp, H' b = none) → ∀ b ∈ fp, FpOk X pins H' b) (hs : ∀ x, foldedSetIterable ib X.env x = pure x) (hv : ∀ i ∈ vb, i ∈ va)
    {Nx : Hp → Prop} {W : Nat → Nat → Hp → Prop} (turn : StepA ga qa wb gb qb tk tv va vb D J σ Nx W) {m : Nat} (wk : Walking X pins (wipe σ va) fp tn 0 H s) (w : W 0 m H) (hR : ∀ H' s', Inv X pins (wipe σ va) H' s' → Nx H' → R (.ok .next) s') :
    codeAny (model X.prog X.w) X.A (.compLoop (.DictComp kx vx [⟨ta, ia, ca, 0⟩, ⟨tb, ib, cb, 0⟩] sc pos) 0 (.ref it) (.ref D) X.env) R s := by
  refine codeAny_loop rfl (fun n s' => ∃ i H', Walking X pins (wipe σ va) fp tn i H' s' ∧ W i n H') (fun n s' z => ?_) m ⟨0, H, wk, w⟩
  obtain ⟨i, H', wk', w'⟩ := z
  show wpAny _ X.A ((compTurn (.DictComp kx vx [⟨ta, ia, ca, 0⟩, ⟨tb, ib, cb, 0⟩] sc pos) 0 (.ref it) (.ref D) X.env).onRaise (fun x => do noteFrame x X.env; theTreesLotGoes x)) _ _ s'
  refine wpAny_noted ?_
  rw [turn_a]
  rcases turn i n H' w' with ⟨stop, nx⟩ | ⟨go, Ny, hNy, step⟩
  · exact turn_stop hc T hf wk' stop fun s2 I2 => hR H' s2 I2 nx
  · refine turn_go hc hx T pg pt hf wk' go step fun pl bk b σ2 H3 s3 I3 hP q => ?_
    have hlen : (wipe σ va).length = σ2.length := by rw [← hP, wipe_length]
    have fin : ∀ σ' H4 s4, Inv X (pins ++ pl) σ' H4 s4 → σ'.length = σ2.length → (∀ (j : Nat) v, (wipe σ va)[j]? = some (some v) → σ'[j]? = some (some v)) → Ny H4 → ∃ m', m' < n ∧ ∃ i H, Walking X pins (wipe σ va) fp tn i H s4 ∧ W i m' H := fun σ' H4 s4 I4 hl hw n1 => by
      obtain ⟨m', hm, w2⟩ := hNy H4 n1
      exact ⟨m', hm, i + 1, H4, (bk σ' H4 s4 I4).weak (hlen.trans hl.symm) hw, w2⟩
    cases b with
    | false => exact wpAny_pure ⟨rfl, fin σ2 H3 s3 I3 rfl (fun j v e => by rw [← hP] at e; exact (wipe_some e).1) q⟩
    | true =>
      have a := pi.run _ s3 σ2 H3 _ I3 q
      rw [hx] at a
      refine wpAny_bind (thnF a fun src s4 a => ?_)
      refine wpAny_bind (wpAny_standAt (wpAny_bind (wpAny_of_eq (hs src) (wpAny_bind (wpAny_holding (thnF a fun itv s5 z => ?_))))))
      obtain ⟨ib2, fq, tm, Jb, H5, e, I5, Tb, st5, f5, Wb, ⟨mb, wb0⟩, turnb⟩ := z
      subst e
      refine wpAny_bind (wpAny_runOwn ?_)
      rw [Around.mark_none]
      refine start_b (loop_b (σ := σ2) hc hx Tb pg2 pt2 pk pv (fun H6 hn b hb => ⟨hn b hb, (f5 b hb).2⟩) turnb ⟨I5.weak (wipe_length _ _) (fun j v e => (wipe_some e).1), st5, fun b hb => (f5 b hb).1⟩ wb0 fun H6 s6 I6 n6 => ?_) (fun Q E hq => Tb.self X.A 0 s5 Q E st5 hq)
      exact wpAny_pure ⟨rfl, fin _ H6 s6 I6 (wipe_length _ _) (fun j v e => by
        rw [← hP] at e
        obtain ⟨e1, e2⟩ := wipe_some e
        rw [wipe_out fun z => e2 (hv j z)]
        exact e1) n6⟩
/-- {k: v for a in A if .. for b in B if ..} -/
def tDc2 (wa : TI) (ga : TG) (qa : TT) (wb : TI) (gb : TG) (qb : TT) (tk tv : TE) (va vb : List Nat) : TE := fun σ H Q => wa σ H fun J H1 => ∀ D, H1 D = none → ∃ W : Nat → Nat → Hp → Prop, (∃ m, W 0 m (upd H1 D (.dK []))) ∧ StepA ga qa wb gb qb tk tv va vb D J σ (Q (.ref D)) W
/-- a comprehension's block is entered with a new dict, and left -/
theorem into_blk {scope : Scope} {own : List (Str × Nat)} {tg : Expr} (hN : X.N.Nodup) (ok : BlkOk X.N X.env.scope scope own) (I : Inv X pins σ H s) (T : Turn X.prog X.w X.K tg J fp it tn) (st : tn 0 s.heap) (hf : ∀ b ∈ fp, FpOk X pins H b) {Q : Value → Env → Shared → Prop} {E : Value → Shared → Prop}
    (h : ∀ (D C : Addr) (cl : List (Str × Addr)) (s3 s4 : Shared), H D = none → Walking (X.blk s3 (upd H D (.dK [])) scope (compEnvC scope cl C X.env) fp) [] (wipe σ (own.map (·.2))) fp tn 0 (upd H D (.dK [])) s4 →
      (∀ H', (∀ b ∈ fp, H' b = none) → ∀ b ∈ fp, FpOk (X.blk s3 (upd H D (.dK [])) scope (compEnvC scope cl C X.env) fp) [] H' b) →
      (∀ σ' H' s', Inv (X.blk s3 (upd H D (.dK [])) scope (compEnvC scope cl C X.env) fp) [] σ' H' s' → Inv X pins σ H' s' ∧ (∃ m, s'.heap.Ns C m) ∧ FpOk X pins H' C) → Q (.ref D) (compEnvC scope cl C X.env) s4) :
    wpAny (model X.prog X.w) X.A newDict (fun acc s3 => wpAny (model X.prog X.w) X.A (newFunctionEnv scope X.env.globals (cloFrom X.env.cells scope.names []) [] X.env.qual none .none (some X.env)) (fun cenv s4 => Q acc { cenv with scope := relabel scope X.env } s4) E s3) E s := by
  refine wpAny_newObj_type (newEnv_comp ?_)
  have hDn : H s.heap.objs.size = none := I.hok.fresh (Nat.le_refl _)
  have up : ∀ b u, s.heap.get? b = some u → (s.heap.push { cls := .type "dict", data := .dict #[] }).get? b = some u := fun b u e => Heap.get?_push_of_some _ e
  have I3 := I.laid (t' := s.toks) up (Nat.le_refl _) (dk_empty s.heap I.big)
  generalize hs3 : ({ s with heap := s.heap.push { cls := .type "dict", data := .dict #[] }, toks := s.toks } : Shared) = s3 at I3
  have hh : s3.heap = s.heap.push { cls := .type "dict", data := .dict #[] } := by rw [← hs3]
  have f3 : ∀ b ∈ fp, FpOk X pins (upd H s.heap.objs.size (.dK [])) b ∧ b < s3.heap.objs.size := fun b hb => by
    obtain ⟨u, e, _⟩ := T.obj _ _ st b hb
    have lt := Heap.lt_size e
    refine ⟨⟨?_, (hf b hb).2⟩, ?_⟩
    · rw [upd_ne (Nat.ne_of_lt lt)]
      exact (hf b hb).1
    · rw [hh, Heap.size_push]
      exact Nat.lt_succ_of_lt lt
  have I4 := block_start I3 ok hN f3
  have key := h s.heap.objs.size s3.heap.objs.size (cellsFrom (s3.heap.objs.size + 1) scope.names (cloFrom X.env.cells scope.names [])) s3 _ hDn
    ⟨I4, T.keep _ _ _ st fun b _ u e => pushCells_keeps _ _ _ _ (Heap.get?_push_of_some _ (by rw [hh]; exact up b u e)), fun b hb => (f3 b hb).1.1⟩
    (fun H' hn b hb => ⟨hn b hb, (I4.ok.exf b hb).1, I4.ok.exfs b hb, .inl hb, fun x c e => (I4.ok.exf b hb).2 x c e, fun p hp => nomatch hp⟩)
    (fun σ' H' s' I6 => ⟨I3.call' (ch := fp) I6.os I6.base I6.hok I6.bare fun b hb => ⟨(f3 b hb).1.2.2.2.1, (f3 b hb).1.2.1, (f3 b hb).1.2.2.2.2.1, (f3 b hb).1.2.2.2.2.2⟩, let ⟨m, hn, _⟩ := I6.loc; ⟨m, hn⟩, I3.fpOk (Nat.le_refl _) I6.free⟩)
  exact key
theorem pe_dc2 {scope : Scope} {own : List (Str × Nat)} {wa : TI} (hc : X.calm = true) (hN : X.N.Nodup) (hi : PI X ta ia wa) (ok : BlkOk X.N X.env.scope scope own) (hv : ∀ i ∈ vb, i ∈ own.map (·.2))
    (h1 : ∀ (s : Shared) (H : Hp) (C : Addr) (cl : List (Str × Addr)) (fp : List Addr), PG (X.blk s H scope (compEnvC scope cl C X.env) fp) ta ga) (h2 : ∀ (s : Shared) (H : Hp) (C : Addr) (cl : List (Str × Addr)) (fp : List Addr), PTs (X.blk s H scope (compEnvC scope cl C X.env) fp) ca qa)
    (h3 : ∀ (s : Shared) (H : Hp) (C : Addr) (cl : List (Str × Addr)) (fp : List Addr), PI (X.blk s H scope (compEnvC scope cl C X.env) fp) tb ib wb)
    (h4 : ∀ (s : Shared) (H : Hp) (C : Addr) (cl : List (Str × Addr)) (fp : List Addr), PG (X.blk s H scope (compEnvC scope cl C X.env) fp) tb gb) (h5 : ∀ (s : Shared) (H : Hp) (C : Addr) (cl : List (Str × Addr)) (fp : List Addr), PTs (X.blk s H scope (compEnvC scope cl C X.env) fp) cb qb)
    (h6 : ∀ (s : Shared) (H : Hp) (C : Addr) (cl : List (Str × Addr)) (fp : List Addr), PE (X.blk s H scope (compEnvC scope cl C X.env) fp) kx tk) (h7 : ∀ (s : Shared) (H : Hp) (C : Addr) (cl : List (Str × Addr)) (fp : List Addr), PE (X.blk s H scope (compEnvC scope cl C X.env) fp) vx tv)
    (hs : ∀ x, foldedSetIterable ia X.env x = pure x := by intro _; rfl) (hs1 : ∀ env x, foldedSetIterable ib env x = pure x := by intro _ _; rfl) :
    PE X (.DictComp kx vx [⟨ta, ia, ca, 0⟩, ⟨tb, ib, cb, 0⟩] scope pos) (tDc2 wa ga qa wb gb qb tk tv (own.map (·.2)) vb) := by
  refine ⟨fun ps s0 σ0 H0 Q I h => ?_⟩
  rw [arm_eval_DictComp]
  have hfr : ∀ y ∈ scope.names, y.2 = .free → ∃ c, X.env.cells.lookup y.1 = some c := fun y hy e => (ok.free y hy e).elim (fun k => I.ok.has _ (.inl k)) fun k => I.ok.has _ (.inr k)
  refine wpAny_comprehension_free rfl hs (closure_ok hfr) ok.kind (fun y hy e => by rw [ok.uniq y hy, e]) (thn (hi.run ps s0 σ0 H0 _ I h) fun xv s1 z => thn z fun iv s2 z2 => ?_)
  obtain ⟨a, fa, ta', Ja, H2, e, I2, T, st2, f2, q⟩ := z2
  subst e
  refine into_blk (Q := fun acc ce s4 => codeAny (model X.prog X.w) X.A (.compStart (.DictComp kx vx [⟨ta, ia, ca, 0⟩, ⟨tb, ib, cb, 0⟩] scope pos) 0 (.ref a) acc ce) (compPost (model X.prog X.w) X.A X.xe none (EP X ps σ0 Q) acc ce.locals) s4) hN ok I2 T st2 f2 fun D C cl s3 s4 hD wk stat leave => ?_
  obtain ⟨W, ⟨m0, w0⟩, turn⟩ := q D hD
  have loop : codeAny (model X.prog X.w) X.A (.compLoop (.DictComp kx vx [⟨ta, ia, ca, 0⟩, ⟨tb, ib, cb, 0⟩] scope pos) 0 (.ref a) (.ref D) (compEnvC scope cl C X.env)) (compPost (model X.prog X.w) X.A X.xe none (EP X ps σ0 Q) (.ref D) C) s4 :=
    loop_a (X := X.blk s3 (upd H2 D (.dK [])) scope (compEnvC scope cl C X.env) fa) hc rfl T (h1 _ _ _ _ _) (h2 _ _ _ _ _) (h3 _ _ _ _ _) (h4 _ _ _ _ _) (h5 _ _ _ _ _) (h6 _ _ _ _ _) (h7 _ _ _ _ _) stat (hs1 _) hv turn wk w0 fun H' s' I' qd => by
      obtain ⟨I7, ⟨m, hn⟩, f0, f1, f3, f4, f5, f6⟩ := leave _ H' s' I'
      exact ⟨m, hn, fun h' sb => ⟨.ref D, H', I7.turned (t' := s'.toks) (fun b u hb e => (sb.2 b hb).trans e) f0 f1 f4 f5 f6, rfl, qd⟩⟩
  exact codeAny_compStart_dict loop (T.self X.A 0 _ _ _ wk.st loop)
end
section
variable {J : It} {n : Nat} {G : Hp → Prop} {Y : Nat → Hp → V → Hp → Prop} {ga gb : TG} {qa qb : TT} {wb : TI} {tk tv : TE} {va vb : List Nat} {D : Addr} {σ : St}
/-- the first clause's walk, by its turns -/
theorem stepA_it (w : Walk J n G Y) {H0 : Hp} {Nd : Hp → Prop} (Pv : Nat → Hp → Prop) (h0 : Pv 0 H0) (hG : ∀ i H, i ≤ n → Pv i H → G H)
    (hs : ∀ i x H H', i < n → Pv i H → Y i H x H' → ga x (wipe σ va) H' fun σ2 H2 => wipe σ2 va = wipe σ va ∧ qa σ2 H2 fun b H3 =>
      if b = true then wb σ2 H3 fun Jb H4 => ∃ Wb : Nat → Nat → Hp → Prop, (∃ k, Wb 0 k H4) ∧ StepB gb qb tk tv vb D Jb σ2 (Pv (i + 1)) Wb else Pv (i + 1) H3) (hd : ∀ H, Pv n H → Nd H) :
    ∃ W : Nat → Nat → Hp → Prop, (∃ m, W 0 m H0) ∧ StepA ga qa wb gb qb tk tv va vb D J σ Nd W := by
  refine ⟨fun i m H => m = n - i ∧ i ≤ n ∧ Pv i H, ⟨n, rfl, Nat.zero_le _, h0⟩, fun i m H z => ?_⟩
  obtain ⟨rfl, hi, p⟩ := z
  rcases Nat.lt_or_ge i n with hlt | hge
  · exact .inr ⟨w.goes i H hlt (hG i H hi p), Pv (i + 1), fun H' p' => ⟨n - (i + 1), by omega, rfl, hlt, p'⟩, fun x H' y => hs i x H H' hlt p (w.yields i H x H' hlt (hG i H hi p) y)⟩
  · obtain rfl : i = n := Nat.le_antisymm hi hge
    exact .inl ⟨w.stops H (hG i H hi p), hd H p⟩
/-- the second clause's -/
theorem stepB_it (w : Walk J n G Y) {H0 : Hp} {Nx : Hp → Prop} (Pv : Nat → Hp → Prop) (h0 : Pv 0 H0) (hG : ∀ i H, i ≤ n → Pv i H → G H)
    (hs : ∀ i x H H', i < n → Pv i H → Y i H x H' → gb x (wipe σ vb) H' fun σ2 H2 => wipe σ2 vb = wipe σ vb ∧ qb σ2 H2 fun b H3 =>
      if b = true then tk σ2 H3 fun y H4 => tv σ2 H4 fun z H5 => ∃ kvs key, y = kV key ∧ H5 D = some (.dK kvs) ∧ kvs.length < sizeLine ∧ Pv (i + 1) (upd H5 D (.dK (putK kvs key z))) else Pv (i + 1) H3) (hd : ∀ H, Pv n H → Nx H) :
    ∃ W : Nat → Nat → Hp → Prop, (∃ m, W 0 m H0) ∧ StepB gb qb tk tv vb D J σ Nx W := by
  refine ⟨fun i m H => m = n - i ∧ i ≤ n ∧ Pv i H, ⟨n, rfl, Nat.zero_le _, h0⟩, fun i m H z => ?_⟩
  obtain ⟨rfl, hi, p⟩ := z
  rcases Nat.lt_or_ge i n with hlt | hge
  · exact .inr ⟨w.goes i H hlt (hG i H hi p), Pv (i + 1), fun H' p' => ⟨n - (i + 1), by omega, rfl, hlt, p'⟩, fun x H' y => hs i x H H' hlt p (w.yields i H x H' hlt (hG i H hi p) y)⟩
  · obtain rfl : i = n := Nat.le_antisymm hi hge
    exact .inl ⟨w.stops H (hG i H hi p), hd H p⟩
end
end L2.D2

set_option Elab.async false
set_option linter.all false
set_option maxRecDepth 100000
set_option maxHeartbeats 4000000
/-! max of a tuple of ints -/
namespace L2
open PySem PySem.Spec PyProof.Rows PySem.W
section
variable {X : Cx}
theorem fmax_ge : ∀ (l : List Int) (a : Int), a ≤ l.foldl max a ∧ ∀ z ∈ l, z ≤ l.foldl max a
  | [], a => ⟨Int.le_refl _, fun z hz => nomatch hz⟩
  | b :: l, a => by
    obtain ⟨h1, h2⟩ := fmax_ge l (max a b)
    rw [List.foldl_cons]
    refine ⟨by omega, fun z hz => ?_⟩
    rcases List.mem_cons.mp hz with rfl | hz
    · omega
    · exact h2 z hz
def rMaxTu (K : PySem.W.Frag) : List V → Hp → VK → Prop := fun vs H Q => ∃ (a : Addr) (ns : List Int), vs = [V.ref a] ∧ SqT K H a (ns.map V.int) ∧ ns ≠ [] ∧ ∀ m : Int, m ∈ ns → (∀ z ∈ ns, z ≤ m) → Q (.int m) H
theorem cr_maxTu (hh : X.A.handled = none) (hu : X.A.units + 65 < cLine) : CallR X (.builtin "max") (rMaxTu X.K) := by
  intro pins s σ H vs us Q I r h
  obtain ⟨a, ns, rfl, hs, hne, q⟩ := h
  obtain ⟨its, rv, tc, hz⟩ := I.tuple hs
  rw [Vals.ref1 r]
  obtain ⟨n, l, rfl⟩ := List.exists_cons_of_ne_nil hne
  obtain ⟨as, ra⟩ := readsAll_ints (h := s.heap) rv
  have al : ∀ x ∈ PyData.int n :: l.map PyData.int, ∃ b, x = .int b := fun x hx => by
    rw [← List.map_cons] at hx
    obtain ⟨b, _, e⟩ := List.mem_map.mp hx
    exact ⟨b, e.symm⟩
  refine max_tuple_data (x := .int n) (xs := l.map PyData.int) hh tc (by simpa using ra) ⟨fun x hx y hy => ?_, fun x hx z => ?_⟩ ?_ fun i v h' tk cs hv hr kp => ?_
  · obtain ⟨b1, rfl⟩ := al x hx
    obtain ⟨b2, rfl⟩ := al y hy
    simp [alike]
  · obtain ⟨b1, rfl⟩ := al x hx
    cases z
  · have := depth_ints0 (n :: l)
    rw [List.map_cons] at this
    omega
  · have hv2 : its[i]? = some v := by simpa using hv
    have hi : i < (n :: l).length := by
      have hl := rv.length
      rw [List.length_map] at hl
      rw [hl]
      exact (List.getElem?_eq_some_iff.mp hv2).1
    obtain ⟨z, ez, rz⟩ := rv.get (i := i) (x := V.int (n :: l)[i]) (by rw [List.getElem?_map, List.getElem?_eq_getElem hi]; rfl)
    obtain rfl : v = z := Option.some.inj (hv2.symm.trans ez)
    obtain ⟨t, rfl⟩ := rz
    rw [maxD_ints] at hr
    obtain ⟨h1, h2⟩ := fmax_ge l n
    have e : (n :: l)[i] = l.foldl max n := reads_int1 hr
    exact ⟨.int _, H, I.kept kp, ⟨t, rfl⟩, q _ (List.getElem_mem hi) fun z hz => by
      rw [e]
      rcases List.mem_cons.mp hz with rfl | hz
      · exact h1
      · exact h2 z hz⟩
end
end L2

set_option Elab.async false
set_option linter.all false
set_option maxRecDepth 100000
set_option maxHeartbeats 2000000
/-! rules whose reading names K (not X.K), for use in a comprehension's own block; blkOk_in: a comprehension in a comprehension -/
namespace L2
open PySem PySem.Spec PyProof.Rows Tw
section
variable {X : Cx} {K : PySem.W.Frag} {tg : Expr}
theorem pi_listK {l : Expr} {tl : TE} (hK : X.K = K) (hl : PE X l tl) : PI X tg l (iList K tl) := by
  subst hK
  exact pi_list hl
theorem pi_tupK {l : Expr} {tl : TE} (hK : X.K = K) (hl : PE X l tl) : PI X tg l (iTup K tl) := by
  subst hK
  exact pi_tup hl
theorem pi_enSK {e : Expr} {ta : TA} {p pos tpos : Pos} {elts : List Expr} {kk : Nat} (hK : X.K = K) (hg : Gl X "enumerate") (hm : X.mg "enumerate" = Option.none) (ha : PA X [e] ta) (hs : starEach [e] X.env = [(false, eval e X.env)] := by rfl) :
    PI X (.Tuple elts kk tpos) (.Call (.Name "enumerate" p) [e] [] pos) (iEnS K ta) := by
  subst hK
  exact pi_enS hg hm ha hs
theorem pi_zipAK {e e2 : Expr} {ta : TA} {p pos tpos : Pos} {elts : List Expr} {kk : Nat} (hK : X.K = K) (hg : Gl X "zip") (hm : X.mg "zip" = none) (ha : PA X [e, e2] ta)
    (hs : starEach [e, e2] X.env = (false, eval e X.env) :: starEach [e2] X.env := by rfl) (hpl : (backTo pos (starEach [e2] X.env)).any (·.1) = false := by rfl) :
    PI X (.Tuple elts kk tpos) (.Call (.Name "zip" p) [e, e2] [] pos) (RZ.iZipA K ta) := by
  subst hK
  exact RZ.pi_zipA hg hm ha hs hpl
theorem pe_fldK {e : Expr} {f : Str} {pos : Pos} {ta : TE} (hK : X.K = K) (he : PE X e ta) (hb : attributeBase e f X.env (eval e X.env) = eval e X.env) : PE X (.Attribute e f pos) (tFld K ta f) := by
  subst hK
  exact pe_fld he hb
theorem pe_orK {a b : Expr} {rest : List Expr} {pos : Pos} {ta tb : TE} (hK : X.K = K) (ha : PE X a ta) (hb : PE X (.BoolOp .Or (b :: rest) pos) tb) : PE X (.BoolOp .Or (a :: b :: rest) pos) (tOrT K ta tb) := by
  subst hK
  exact pe_orT ha hb
theorem pe_andK {a b : Expr} {rest : List Expr} {pos : Pos} {ta tb : TE} (hK : X.K = K) (ha : PE X a ta) (hb : PE X (.BoolOp .And (b :: rest) pos) tb) : PE X (.BoolOp .And (a :: b :: rest) pos) (tAndT K ta tb) := by
  subst hK
  exact pe_andT ha hb
theorem pe_notK {a : Expr} {pos : Pos} {ta : TE} (hK : X.K = K) (ha : PE X a ta) : PE X (.UnaryOp .Not a pos) (tNotT K ta) := by
  subst hK
  exact pe_notT ha
def rDictP (K : PySem.W.Frag) : List V → Hp → VK → Prop := fun xs H Q => ∃ (a : Addr) (ps : List Addr) (kvs : List (Key × V)), xs = [.ref a] ∧ SqL K H a (ps.map V.ref) ∧ Paired (fun p kv => SqT K H p [kV kv.1, kv.2]) ps kvs ∧ ∀ p, H p = none → Q (.ref p) (upd H p (.dK (mergeK [] kvs)))
theorem call_dictPK (hc : X.calm = true) : CallR X (.type "dict") (rDictP X.K) := call_dictP hc
theorem blkOk_in {N : List Str} {s : Shared} {H : Hp} {C : Addr} {cl : List (Str × Addr)} {fp : List Addr} {sc0 sc1 scope : Scope} {own : List (Str × Nat)} (hN : X.N = N) (h0 : X.env.scope = sc0) (h : blkC N (relS sc1 sc0) scope own = true) :
    BlkOk (X.blk s H sc1 (compEnvC sc1 cl C X.env) fp).N (X.blk s H sc1 (compEnvC sc1 cl C X.env) fp).env.scope scope own := by
  subst hN
  subst h0
  exact blkOk_by h
end
end L2

set_option Elab.async false
set_option linter.all false
set_option maxRecDepth 100000
set_option maxHeartbeats 2000000
/-! == and != of an own class where the other operand is an instance of another own class -/
namespace Tw
open PySem PySem.Spec PyProof.Rows L2
open PySem.W (InstAt looks_findIn looks_subIn ifBound_K cmp_K)
theorem nf_kit {K : PySem.W.Frag} {C : Addr} {t : Value} (h : PySem.W.kitOne K t (.ref C) = some false) : PySem.W.notFirst K C t = true := by
  unfold PySem.W.kitOne at h
  split at h
  · cases h
  · unfold PySem.W.kitCls at h
    simp only at h
    split at h
    · unfold PySem.W.notFirst
      rw [h]
      simp
    · cases h
section
variable {X : Cx} {CX : CXT} {K : PySem.W.Frag} {k : Nat} {f C : Addr} {fd : FuncData} {ps : List Str} {sp : Sp} {E : XK}
def rEqX (K : PySem.W.Frag) (C : Addr) (sp : Sp) (E : XK) (neg : Bool) : R2 := fun x y H Q =>
  ∃ a dx fs b D dy gs, x = .ref a ∧ H a = some (.ins C dx fs) ∧ y = .ref b ∧ H b = some (.ins D dy gs) ∧ PySem.W.kitOne K (.ref D) (.ref C) = some false ∧ sp [.ref a, y] H (fun v H' => ∃ r, v = .bl r ∧ Q (.bl (if neg then !r else r)) H') E
theorem op_eq_ownX (hK : X.K = K) (c : EqC X.K C f) (F : FnOk X.prog X.w X.K X.mg X.base CX k f fd ps sp) (hr : Room k X.A) (hb : Binds X.K fd ps []) (hx : Passes CX X E) : OpR X (compareOp .Eq) (rEqX K C sp E false) := by
  subst hK
  intro pins s σ H x y v u Q I rx ry ⟨a, dx, fs, b, D, dy, gs, ex, ha, ey, hb', kt, q⟩
  subst ex
  subst ey
  obtain rfl : v = Value.ref a := rx
  obtain rfl : u = Value.ref b := ry
  obtain ⟨mA, O, rr, _, _, _⟩ := ins_get I.hok ha
  obtain ⟨od, J, hl⟩ := O.look
  obtain ⟨mB, O2, rr2, _, _, _⟩ := ins_get I.hok hb'
  obtain ⟨od2, J2, hl2⟩ := O2.look
  obtain ⟨m0, hF⟩ := I.fr
  show wpAny _ _ (richCompare .Eq (.ref a) (.ref b)) _ _ _
  refine cmp_K hr.units0 hF I.ok.mod.kin J J2.type (nf_kit kt) c.eq c.fn (thn (run_sub F ⟨hr, rfl⟩ hb hx I (.cons (relR a) (.cons (relR b) .nil)) q) fun r s' ⟨z, H', I', rz, b, ez, q'⟩ => ?_)
  subst ez
  obtain rfl : r = Value.bool b := rz
  exact ⟨_, H', I', relB b, q'⟩
theorem op_ne_ownX (hK : X.K = K) (c : EqC X.K C f) (F : FnOk X.prog X.w X.K X.mg X.base CX k f fd ps sp) (hr : Room (k + 1) X.A) (hb : Binds X.K fd ps []) (hx : Passes CX X E) : OpR X (compareOp .NotEq) (rEqX K C sp E true) := by
  subst hK
  intro pins s σ H x y v u Q I rx ry ⟨a, dx, fs, b, D, dy, gs, ex, ha, ey, hb', kt, q⟩
  subst ex
  subst ey
  obtain rfl : v = Value.ref a := rx
  obtain rfl : u = Value.ref b := ry
  obtain ⟨mA, O, rr, _, _, _⟩ := ins_get I.hok ha
  obtain ⟨od, J, hl⟩ := O.look
  obtain ⟨mB, O2, rr2, _, _, _⟩ := ins_get I.hok hb'
  obtain ⟨od2, J2, hl2⟩ := O2.look
  obtain ⟨m0, hF⟩ := I.fr
  show wpAny _ _ (richCompare .NotEq (.ref a) (.ref b)) _ _ _
  refine ne_K (Room.units0 hr.in1) hr.units0 hF I.ok.mod.kin J J2.type (nf_kit kt) c (thn (run_sub F (Sub.in1 ⟨hr, rfl⟩) hb hx I (.cons (relR a) (.cons (relR b) .nil)) q) fun r s' ⟨z, H', I', rz, b, ez, q'⟩ => ?_)
  subst ez
  exact ⟨b, rz, _, H', I', relB (!b), q'⟩
end
end Tw

set_option Elab.async false
set_option linter.all false
set_option maxRecDepth 100000
set_option maxHeartbeats 2000000
/-! own: the end's facts by addresses that are functions of the heap's part; one Bool for all of them -/
namespace Sh
open PySem PySem.Spec PyProof.Rows L2
section
variable {Kf : PySem.W.Frag}
/-- where things stand -/
def gA (Kf : PySem.W.Frag) (n : Str) : Addr := (match PySem.W.nsIn Kf mainGlobals n with | some (some (.ref z)) => z | _ => 0)
def mA (Kf : PySem.W.Frag) (cl : Addr) (n : Str) : Addr := (match PySem.W.findIn Kf (.ref cl) n with | some (some (.ref z)) => z | _ => 0)
def recA (Kf : PySem.W.Frag) (p : Addr) (n : String) : Addr := (match PySem.W.recIn Kf p n with | some (.ref z :: _) => z | _ => 0)
def recT (Kf : PySem.W.Frag) (p : Addr) (n : String) : List Value := (match PySem.W.recIn Kf p n with | some (_ :: r) => r | _ => [])
def clsA (Kf : PySem.W.Frag) (cl : Addr) (n : Str) : Addr := (match PySem.W.findCls Kf (.ref cl) (.type "type") n with | some (.get _ (.ref z) _ _) => z | _ => 0)
def tokI (Kf : PySem.W.Frag) (o : Addr) (n : Str) : Tok := (match PySem.W.nsIn Kf o n with | some (some (.int _ t)) => t | _ => default)
def tokS (Kf : PySem.W.Frag) (o : Addr) (n : Str) : Tok := (match PySem.W.nsIn Kf o n with | some (some (.str _ t)) => t | _ => default)
def fdA (Kf : PySem.W.Frag) (p : Addr) : Option FuncData := (match Kf.lookup p with | some z => (match z.data with | .func y => some y | _ => none) | none => none)
def kwA (Kf : PySem.W.Frag) (p : Addr) : Addr := (match fdA Kf p with | some y => (match y.kwdefaults with | .ref z => z | _ => 0) | none => 0)
def cdA (Kf : PySem.W.Frag) (p : Addr) : Addr := (match fdA Kf p with | some y => (match y.code with | .ref z => z | _ => 0) | none => 0)
def refB : Value → Bool
  | .ref _ => true
  | _ => false
def noB : Value → Bool
  | .none => true
  | _ => false
end
/-- one function: where it stands, what it is -/
structure FnA where
  pl : PySem.W.Frag → Addr
  nm : Str
  qn : Str
  pr : Arguments
  bd : List Stmt
  sc : Scope
abbrev FV : Type := Option (Str × Str × Arguments × FuncBody × Scope × Addr × List (Str × Addr) × Addr)
def fnV (Kf : PySem.W.Frag) (p : Addr) : FV := (match fdA Kf p with
  | some y => some (y.name, y.qualname, y.params, y.body, y.scope, y.globals, y.closure, y.builtins)
  | none => none)
def FnA.val (d : FnA) : FV := some (d.nm, d.qn, d.pr, FuncBody.stmts d.bd, d.sc, mainGlobals, [], builtinsNs)
/-- kw: its own table of keyword defaults; cd: its code object is named -/
def fnB (Kf : PySem.W.Frag) (p : Addr) (q : Str) (kw : Bool) : Bool := PySem.W.keepIn Kf (.ref p) && (match fdA Kf p with
  | some y => PySem.W.codeIn Kf y.code q && (noB y.defaults && (!kw || refB y.kwdefaults))
  | none => false)
theorem fdA_some {Kf : PySem.W.Frag} {p : Addr} {y : FuncData} (h : fdA Kf p = some y) : ∃ oc od sl, Kf.lookup p = some ⟨oc, od, .func y, sl⟩ := by
  unfold fdA at h
  cases e : Kf.lookup p with
  | none => rw [e] at h; cases h
  | some z =>
    obtain ⟨oc, od, dt, sl⟩ := z
    rw [e] at h
    cases dt with
    | func u =>
      have k : u = y := Option.some.inj h
      exact ⟨oc, od, sl, by rw [k]⟩
    | _ => cases h
theorem fn_any {Kf : PySem.W.Frag} {d : FnA} {p : Addr} {kw : Bool} (e : fnV Kf p = d.val) (c : fnB Kf p d.qn kw = true) :
    PySem.W.keepIn Kf (.ref p) = true ∧ ∃ (y : FuncData) (kV dc pm : Value) (an : Option Addr) (cd ct : Value), fdA Kf p = some y ∧ y = PySem.W.fnOf d.nm d.qn d.pr d.bd d.sc .none kV dc pm an cd ct ∧ PySem.W.codeIn Kf cd d.qn = true ∧ (kw = true → refB kV = true) := by
  obtain ⟨c1, c2⟩ := Bool.and_eq_true_iff.mp c
  refine ⟨c1, ?_⟩
  unfold fnV FnA.val at e
  cases q : fdA Kf p with
  | none => rw [q] at e; cases e
  | some y =>
    rw [q] at e c2
    obtain ⟨x1, x2, x3, x4, x5, x6, x7, x8, x9, x10, x11, x12, x13, x14, x15⟩ := y
    obtain ⟨c3, c4⟩ := Bool.and_eq_true_iff.mp c2
    obtain ⟨c5, c6⟩ := Bool.and_eq_true_iff.mp c4
    have e2 := Option.some.inj e
    simp only [Prod.mk.injEq] at e2
    obtain ⟨r1, r2, r3, r4, r5, r6, r7, r8⟩ := e2
    subst r1 r2 r3 r4 r5 r6 r7 r8
    have n8 : x8 = Value.none := by
      have c5 : noB x8 = true := c5
      cases x8 <;> first | rfl | cases c5
    subst n8
    refine ⟨_, x9, x10, x11, x12, x13, x14, rfl, rfl, c3, fun hk => ?_⟩
    rw [hk] at c6
    exact c6
theorem ref_of {v : Value} (h : refB v = true) : ∃ z, v = .ref z := by
  cases v with
  | ref z => exact ⟨z, rfl⟩
  | _ => cases h
theorem cd_ref {Kf : PySem.W.Frag} {v : Value} {q : Str} (h : PySem.W.codeIn Kf v q = true) : ∃ z, v = .ref z := He.codeIn_ref h
/-- what a function's two rows give: nothing named; its table named; its code object named -/
theorem fn_g {Kf : PySem.W.Frag} {d : FnA} {p : Addr} (e : fnV Kf p = d.val) (c : fnB Kf p d.qn false = true) :
    ∃ (oc : Value) (od : Option Addr) (sl : Array (Option Value)) (kV dc pm : Value) (an : Option Addr) (cd ct : Value), Kf.lookup p = some ⟨oc, od, .func (PySem.W.fnOf d.nm d.qn d.pr d.bd d.sc .none kV dc pm an cd ct), sl⟩ ∧ PySem.W.codeIn Kf cd d.qn = true ∧ PySem.W.keepIn Kf (.ref p) = true := by
  obtain ⟨kp, y, kV, dc, pm, an, cd, ct, hy, rfl, hc, _⟩ := fn_any e c
  obtain ⟨oc, od, sl, hl⟩ := fdA_some hy
  exact ⟨oc, od, sl, kV, dc, pm, an, cd, ct, hl, hc, kp⟩
theorem fn_k {Kf : PySem.W.Frag} {d : FnA} {p : Addr} (e : fnV Kf p = d.val) (c : fnB Kf p d.qn true = true) :
    ∃ (oc : Value) (od : Option Addr) (sl : Array (Option Value)) (dc pm : Value) (an : Option Addr) (cd ct : Value), Kf.lookup p = some ⟨oc, od, .func (PySem.W.fnOf d.nm d.qn d.pr d.bd d.sc .none (.ref (kwA Kf p)) dc pm an cd ct), sl⟩ ∧ PySem.W.codeIn Kf cd d.qn = true ∧ PySem.W.keepIn Kf (.ref p) = true := by
  obtain ⟨kp, y, kV, dc, pm, an, cd, ct, hy, rfl, hc, hk⟩ := fn_any e c
  obtain ⟨z, rfl⟩ := ref_of (hk rfl)
  obtain ⟨oc, od, sl, hl⟩ := fdA_some hy
  have ez : kwA Kf p = z := by unfold kwA; rw [hy]
  rw [ez]
  exact ⟨oc, od, sl, dc, pm, an, cd, ct, hl, hc, kp⟩
theorem fn_c {Kf : PySem.W.Frag} {d : FnA} {p : Addr} (e : fnV Kf p = d.val) (c : fnB Kf p d.qn false = true) :
    ∃ (oc : Value) (od : Option Addr) (sl : Array (Option Value)) (kV dc pm : Value) (an : Option Addr) (ct : Value), Kf.lookup p = some ⟨oc, od, .func (PySem.W.fnOf d.nm d.qn d.pr d.bd d.sc .none kV dc pm an (.ref (cdA Kf p)) ct), sl⟩ ∧ PySem.W.codeIn Kf (.ref (cdA Kf p)) d.qn = true ∧ PySem.W.keepIn Kf (.ref p) = true := by
  obtain ⟨kp, y, kV, dc, pm, an, cd, ct, hy, rfl, hc, _⟩ := fn_any e c
  obtain ⟨z, rfl⟩ := cd_ref hc
  obtain ⟨oc, od, sl, hl⟩ := fdA_some hy
  have ez : cdA Kf p = z := by unfold cdA; rw [hy]
  rw [ez]
  exact ⟨oc, od, sl, kV, dc, pm, an, ct, hl, hc, kp⟩
theorem fn_kc {Kf : PySem.W.Frag} {d : FnA} {p : Addr} (e : fnV Kf p = d.val) (c : fnB Kf p d.qn true = true) :
    ∃ (oc : Value) (od : Option Addr) (sl : Array (Option Value)) (dc pm : Value) (an : Option Addr) (ct : Value), Kf.lookup p = some ⟨oc, od, .func (PySem.W.fnOf d.nm d.qn d.pr d.bd d.sc .none (.ref (kwA Kf p)) dc pm an (.ref (cdA Kf p)) ct), sl⟩ ∧ PySem.W.codeIn Kf (.ref (cdA Kf p)) d.qn = true ∧ PySem.W.keepIn Kf (.ref p) = true := by
  obtain ⟨kp, y, kV, dc, pm, an, cd, ct, hy, rfl, hc, hk⟩ := fn_any e c
  obtain ⟨z, rfl⟩ := ref_of (hk rfl)
  obtain ⟨u, rfl⟩ := cd_ref hc
  obtain ⟨oc, od, sl, hl⟩ := fdA_some hy
  have ez : kwA Kf p = z := by unfold kwA; rw [hy]
  have eu : cdA Kf p = u := by unfold cdA; rw [hy]
  rw [ez, eu]
  exact ⟨oc, od, sl, dc, pm, an, ct, hl, hc, kp⟩
/-- a class's own maker -/
def ofB (Kf : PySem.W.Frag) (cl p : Addr) (n : Str) : Bool := (match PySem.W.findCls Kf (.ref cl) (.type "type") n with | some (.get (.builtin x) (.ref y) .none (.ref z)) => decide (x = "classmethod.__get__") && (decide (y = p) && decide (z = cl)) | _ => false)
theorem ofB_ok {Kf : PySem.W.Frag} {cl p : Addr} {n : Str} (h : ofB Kf cl p n = true) : PySem.W.findCls Kf (.ref cl) (.type "type") n = some (.get (.builtin "classmethod.__get__") (.ref p) .none (.ref cl)) := by
  unfold ofB at h
  split at h
  · rename_i x y z e
    obtain ⟨h1, h2⟩ := Bool.and_eq_true_iff.mp h
    obtain ⟨h3, h4⟩ := Bool.and_eq_true_iff.mp h2
    rw [e, of_decide_eq_true h1, of_decide_eq_true h3, of_decide_eq_true h4]
  · cases h
/-! ### the hook -/
def tabB (g : Addr → Option Obj) (Kf : PySem.W.Frag) (p : Addr × Addr) : Bool := PySem.W.codeHdIn Kf p.1 p.2 && (match g p.2 with | some z => He.emptyTab z | none => false)
abbrev AlA : Type := List FV × Bool
section
variable (as : List Addr) (fs : List FnA) (ex : PySem.W.Frag → Bool) (tf : PySem.W.Frag → List (Addr × Addr))
def obA (Kf : PySem.W.Frag) (g : Addr → Option Obj) : AlA := (fs.map fun d => fnV Kf (d.pl Kf), ex Kf && (tf Kf).all (tabB g Kf))
def obG (g : Addr → Option Obj) : AlA := obA fs ex tf (He.frT g as) g
structure Tells (h : Heap) (Kf : PySem.W.Frag) : Prop where
  fn : ∀ d ∈ fs, fnV Kf (d.pl Kf) = d.val
  ex : ex Kf = true
  hd : ∀ p ∈ tf Kf, PySem.W.codeHdIn Kf p.1 p.2 = true
  out : ∀ p ∈ tf Kf, Kf.lookup p.2 = none
  em : ∀ p ∈ tf Kf, h.get? p.2 = some (PySem.W.tabObj #[])
variable {as fs ex tf}
theorem map_all {α β : Type} {f g : α → β} : ∀ {l : List α}, l.map f = l.map g → ∀ x ∈ l, f x = g x
  | [], _, _, hx => absurd hx List.not_mem_nil
  | a :: r, h, x, hx => by
    rw [List.map_cons, List.map_cons] at h
    injection h with h1 h2
    rcases List.mem_cons.mp hx with rfl | hx
    · exact h1
    · exact map_all h2 x hx
theorem tells_of {h : Heap} (e : obG as fs ex tf h.get? = (fs.map FnA.val, true)) : Tells fs ex tf h (He.frT h.get? as) := by
  have e1 := congrArg Prod.fst e
  have e2 := congrArg Prod.snd e
  obtain ⟨b1, b2⟩ := Bool.and_eq_true_iff.mp (show (ex (He.frT h.get? as) && (tf (He.frT h.get? as)).all (tabB h.get? (He.frT h.get? as))) = true from e2)
  have key : ∀ p ∈ tf (He.frT h.get? as), PySem.W.codeHdIn (He.frT h.get? as) p.1 p.2 = true ∧ ∃ z, h.get? p.2 = some z ∧ He.emptyTab z = true := fun p hp => by
    obtain ⟨b3, b4⟩ := Bool.and_eq_true_iff.mp (List.all_eq_true.mp b2 p hp)
    refine ⟨b3, ?_⟩
    cases q : h.get? p.2 with
    | none => rw [q] at b4; cases b4
    | some z => rw [q] at b4; exact ⟨z, rfl, b4⟩
  refine ⟨map_all e1, b1, fun p hp => (key p hp).1, fun p hp => ?_, fun p hp => ?_⟩
  · obtain ⟨_, z, hz, k⟩ := key p hp
    exact He.frT_none hz k
  · obtain ⟨_, z, hz, k⟩ := key p hp
    rw [hz, He.emptyTab_eq k]
variable (as fs ex tf)
def hook : PySem.W.Hook where
  α := AlA
  obs := fun s => obG as fs ex tf s.heap.get?
  val := fun _ => (fs.map FnA.val, true)
  says := fun _ h => ∃ Kf : PySem.W.Frag, Kf.In h ∧ Tells fs ex tf h Kf
  of := fun _ _ e => ⟨_, He.frT_in, tells_of e⟩
  keeps := fun _ _ _ ⟨Kf, i, t⟩ k => ⟨Kf, PySem.W.Frag.In.keeps i k, ⟨t.fn, t.ex, t.hd, t.out, fun p hp => k _ _ (t.em p hp)⟩⟩
def obT (s : PySem.W.SharedT) : AlA := obG as fs ex tf (HandSHeadRun.getT s)
theorem obT_eq (s : PySem.W.SharedT) : obT as fs ex tf s = (hook as fs ex tf).obs s.abs := by
  have e : HandSHeadRun.getT s = s.abs.heap.get? := funext (HandSHeadRun.getT_eq s)
  show obG as fs ex tf (HandSHeadRun.getT s) = obG as fs ex tf s.abs.heap.get?
  rw [e]
end
theorem at_ {α : Type} {l : List α} {d : α} (i : Nat) (h : l[i]? = some d) : d ∈ l := List.mem_of_getElem? h
theorem band {a b : Bool} (h : (a && b) = true) : a = true ∧ b = true := Bool.and_eq_true_iff.mp h
end Sh

set_option Elab.async false
set_option linter.all false
set_option maxRecDepth 100000
set_option maxHeartbeats 2000000
namespace Tw
open PySem PySem.Spec PyProof.Rows L2
def topS (i : Nat) : Stmt := PySem.Challenge.pw_heaprows_k63_evidence_of_runs.main.body.getD i (.Pass ⟨0, 0, 0, 0⟩)
abbrev s_is_integer : Stmt := topS 10
theorem sc_is_integer : FnScope ["thing"] ["thing"] (defScope s_is_integer) := ⟨rfl, rfl, rfl, by decide +kernel, rfl, by decide +kernel, by decide +kernel⟩
abbrev s_is_integer_from : Stmt := topS 11
theorem sc_is_integer_from : FnScope ["thing", "least", "greatest"] ["thing", "least", "greatest"] (defScope s_is_integer_from) := ⟨rfl, rfl, rfl, by decide +kernel, rfl, by decide +kernel, by decide +kernel⟩
abbrev s_is_key : Stmt := topS 12
theorem sc_is_key : FnScope ["thing"] ["thing"] (defScope s_is_key) := ⟨rfl, rfl, rfl, by decide +kernel, rfl, by decide +kernel, by decide +kernel⟩
abbrev s_check_room : Stmt := topS 13
theorem sc_check_room : FnScope ["room"] ["room"] (defScope s_check_room) := ⟨rfl, rfl, rfl, by decide +kernel, rfl, by decide +kernel, by decide +kernel⟩
abbrev s_row_of : Stmt := topS 14
theorem sc_row_of : FnScope ["row", "index", "key"] ["row"] (defScope s_row_of) := ⟨rfl, rfl, rfl, by decide +kernel, rfl, by decide +kernel, by decide +kernel⟩
abbrev s_check_different : Stmt := topS 15
theorem sc_check_different : FnScope ["keys", "place", "key"] ["keys"] (defScope s_check_different) := ⟨rfl, rfl, rfl, by decide +kernel, rfl, by decide +kernel, by decide +kernel⟩
abbrev s_c___init__ : Stmt := inClass (topS 17) 0
theorem sc_c___init__ : FnScope ["self", "written"] ["self", "written"] (defScope s_c___init__) := ⟨rfl, rfl, rfl, by decide +kernel, rfl, by decide +kernel, by decide +kernel⟩
abbrev s_c___eq__ : Stmt := inClass (topS 17) 1
theorem sc_c___eq__ : FnScope ["self", "other"] ["self", "other"] (defScope s_c___eq__) := ⟨rfl, rfl, rfl, by decide +kernel, rfl, by decide +kernel, by decide +kernel⟩
abbrev s_c_shows : Stmt := inClass (topS 17) 2
theorem sc_c_shows : FnScope ["self", "room", "row", "number", "given"] ["self", "room", "row", "number"] (defScope s_c_shows) := ⟨rfl, rfl, rfl, by decide +kernel, rfl, by decide +kernel, by decide +kernel⟩
abbrev s_e___init__ : Stmt := inClass (topS 18) 0
theorem sc_e___init__ : FnScope ["self", "levels"] ["self", "levels"] (defScope s_e___init__) := ⟨rfl, rfl, rfl, by decide +kernel, rfl, by decide +kernel, by decide +kernel⟩
abbrev s_e___eq__ : Stmt := inClass (topS 18) 1
theorem sc_e___eq__ : FnScope ["self", "other"] ["self", "other"] (defScope s_e___eq__) := ⟨rfl, rfl, rfl, by decide +kernel, rfl, by decide +kernel, by decide +kernel⟩
abbrev s_e_shows : Stmt := inClass (topS 18) 2
theorem sc_e_shows : FnScope ["self", "room", "row", "number", "given", "key", "level"] ["self", "room", "row", "number"] (defScope s_e_shows) := ⟨rfl, rfl, rfl, by decide +kernel, rfl, by decide +kernel, by decide +kernel⟩
abbrev s_judge_runs : Stmt := topS 19
theorem sc_judge_runs : FnScope ["room", "row", "number", "given", "written", "runs", "at", "run", "key"] ["room", "row", "number"] (defScope s_judge_runs) := ⟨rfl, rfl, rfl, by decide +kernel, rfl, by decide +kernel, by decide +kernel⟩
abbrev s_input_of : Stmt := topS 20
theorem sc_input_of : FnScope ["row", "given"] ["row"] (defScope s_input_of) := ⟨rfl, rfl, rfl, by decide +kernel, rfl, by decide +kernel, by decide +kernel⟩
abbrev s_check_number : Stmt := topS 21
theorem sc_check_number : FnScope ["number"] ["number"] (defScope s_check_number) := ⟨rfl, rfl, rfl, by decide +kernel, rfl, by decide +kernel, by decide +kernel⟩
abbrev s_given_of : Stmt := topS 22
theorem sc_given_of : FnScope ["room", "row", "number", "given"] ["room", "row", "number"] (defScope s_given_of) := ⟨rfl, rfl, rfl, by decide +kernel, rfl, by decide +kernel, by decide +kernel⟩
abbrev s_written_by_replacement : Stmt := topS 23
theorem sc_written_by_replacement : FnScope ["room", "given", "held", "written", "at", "fitting", "key"] ["room", "given"] (defScope s_written_by_replacement) := ⟨rfl, rfl, rfl, by decide +kernel, rfl, by decide +kernel, by decide +kernel⟩
abbrev s_is_way : Stmt := topS 24
theorem sc_is_way : FnScope ["thing", "room", "given", "held", "at", "key"] ["thing", "room", "given"] (defScope s_is_way) := ⟨rfl, rfl, rfl, by decide +kernel, rfl, by decide +kernel, by decide +kernel⟩
abbrev s_runs_in : Stmt := topS 25
theorem sc_runs_in : FnScope ["written", "runs", "key"] ["written"] (defScope s_runs_in) := ⟨rfl, rfl, rfl, by decide +kernel, rfl, by decide +kernel, by decide +kernel⟩
abbrev s_held_back : Stmt := topS 26
theorem sc_held_back : FnScope ["key", "levels", "given", "least", "other"] ["key", "levels", "given"] (defScope s_held_back) := ⟨rfl, rfl, rfl, by decide +kernel, rfl, by decide +kernel, by decide +kernel⟩
abbrev s__law_number : Stmt := topS 28
theorem sc__law_number : FnScope ["script", "index", "cells", "cell", "low", "high", "total", "blend"] ["script", "index"] (defScope s__law_number) := ⟨rfl, rfl, rfl, by decide +kernel, rfl, by decide +kernel, by decide +kernel⟩
abbrev s__law_input : Stmt := topS 29
theorem sc__law_input : FnScope ["script", "at", "many", "found", "turn", "key"] ["script", "at", "many"] (defScope s__law_input) := ⟨rfl, rfl, rfl, by decide +kernel, rfl, by decide +kernel, by decide +kernel⟩
abbrev s__law_cut : Stmt := topS 30
theorem sc__law_cut : FnScope ["written", "found", "key"] ["written"] (defScope s__law_cut) := ⟨rfl, rfl, rfl, by decide +kernel, rfl, by decide +kernel, by decide +kernel⟩
abbrev s__law_is_way : Stmt := topS 31
theorem sc__law_is_way : FnScope ["room", "given", "written", "at"] ["room", "given", "written"] (defScope s__law_is_way) := ⟨rfl, rfl, rfl, by decide +kernel, rfl, by decide +kernel, by decide +kernel⟩
abbrev s__law_are_levels : Stmt := topS 32
theorem sc__law_are_levels : FnScope ["room", "given", "number", "levels", "key", "at", "level", "some", "one"] ["room", "given", "number", "levels"] (defScope s__law_are_levels) := ⟨rfl, rfl, rfl, by decide +kernel, rfl, by decide +kernel, by decide +kernel⟩
abbrev s__law_runs : Stmt := topS 33
theorem sc__law_runs : FnScope ["room", "given", "held", "rest", "last", "number", "found", "able", "key"] ["room", "given"] (defScope s__law_runs) := ⟨rfl, rfl, rfl, by decide +kernel, rfl, by decide +kernel, by decide +kernel⟩
abbrev s__law_levels : Stmt := topS 34
theorem sc__law_levels : FnScope ["script", "room", "given", "base", "found", "key", "at", "change", "other", "less", "late", "more", "level"] ["script", "room", "given"] (defScope s__law_levels) := ⟨rfl, rfl, rfl, by decide +kernel, rfl, by decide +kernel, by decide +kernel⟩
abbrev s__law_written : Stmt := topS 35
theorem sc__law_written : FnScope ["script", "given", "told", "found", "one", "other", "late", "same"] ["script", "given", "told"] (defScope s__law_written) := ⟨rfl, rfl, rfl, by decide +kernel, rfl, by decide +kernel, by decide +kernel⟩
abbrev s_law : Stmt := topS 36
theorem sc_law : FnScope ["script", "seed", "room", "given", "fewest", "enough", "number", "levels", "written", "due", "row", "base", "late", "made", "cuts"] ["script"] (defScope s_law) := ⟨rfl, rfl, rfl, by decide +kernel, rfl, by decide +kernel, by decide +kernel⟩
/-- where the text's defs stand -/
structure Ad where
  f_is_integer : Addr
  d_is_integer : FuncData
  f_is_integer_from : Addr
  d_is_integer_from : FuncData
  f_is_key : Addr
  d_is_key : FuncData
  f_check_room : Addr
  d_check_room : FuncData
  f_row_of : Addr
  d_row_of : FuncData
  f_check_different : Addr
  d_check_different : FuncData
  f_c___init__ : Addr
  d_c___init__ : FuncData
  f_c___eq__ : Addr
  d_c___eq__ : FuncData
  f_c_shows : Addr
  d_c_shows : FuncData
  f_e___init__ : Addr
  d_e___init__ : FuncData
  f_e___eq__ : Addr
  d_e___eq__ : FuncData
  f_e_shows : Addr
  d_e_shows : FuncData
  f_judge_runs : Addr
  d_judge_runs : FuncData
  f_input_of : Addr
  d_input_of : FuncData
  f_check_number : Addr
  d_check_number : FuncData
  f_given_of : Addr
  d_given_of : FuncData
  f_written_by_replacement : Addr
  d_written_by_replacement : FuncData
  f_is_way : Addr
  d_is_way : FuncData
  f_runs_in : Addr
  d_runs_in : FuncData
  f_held_back : Addr
  d_held_back : FuncData
  f__law_number : Addr
  d__law_number : FuncData
  f__law_input : Addr
  d__law_input : FuncData
  f__law_cut : Addr
  d__law_cut : FuncData
  f__law_is_way : Addr
  d__law_is_way : FuncData
  f__law_are_levels : Addr
  d__law_are_levels : FuncData
  f__law_runs : Addr
  d__law_runs : FuncData
  f__law_levels : Addr
  d__law_levels : FuncData
  f__law_written : Addr
  d__law_written : FuncData
  f_law : Addr
  d_law : FuncData
  CC : Addr
  CE : Addr
/-- what the top has written -/
structure Tx (K : PySem.W.Frag) (mg : Str → Option Value) (A : Ad) : Prop where
  F_is_integer : Fun K "is_integer" "is_integer" s_is_integer A.f_is_integer A.d_is_integer
  m_is_integer : mg "is_integer" = some (.ref A.f_is_integer)
  F_is_integer_from : Fun K "is_integer_from" "is_integer_from" s_is_integer_from A.f_is_integer_from A.d_is_integer_from
  m_is_integer_from : mg "is_integer_from" = some (.ref A.f_is_integer_from)
  F_is_key : Fun K "is_key" "is_key" s_is_key A.f_is_key A.d_is_key
  m_is_key : mg "is_key" = some (.ref A.f_is_key)
  F_check_room : Fun K "check_room" "check_room" s_check_room A.f_check_room A.d_check_room
  m_check_room : mg "check_room" = some (.ref A.f_check_room)
  F_row_of : Fun K "row_of" "row_of" s_row_of A.f_row_of A.d_row_of
  m_row_of : mg "row_of" = some (.ref A.f_row_of)
  F_check_different : Fun K "check_different" "check_different" s_check_different A.f_check_different A.d_check_different
  m_check_different : mg "check_different" = some (.ref A.f_check_different)
  F_c___init__ : Fun K "__init__" "Cuts.__init__" s_c___init__ A.f_c___init__ A.d_c___init__
  F_c___eq__ : Fun K "__eq__" "Cuts.__eq__" s_c___eq__ A.f_c___eq__ A.d_c___eq__
  F_c_shows : Fun K "shows" "Cuts.shows" s_c_shows A.f_c_shows A.d_c_shows
  M_c_shows : Meth K A.CC "shows" A.f_c_shows
  F_e___init__ : Fun K "__init__" "Needs.__init__" s_e___init__ A.f_e___init__ A.d_e___init__
  F_e___eq__ : Fun K "__eq__" "Needs.__eq__" s_e___eq__ A.f_e___eq__ A.d_e___eq__
  F_e_shows : Fun K "shows" "Needs.shows" s_e_shows A.f_e_shows A.d_e_shows
  M_e_shows : Meth K A.CE "shows" A.f_e_shows
  F_judge_runs : Fun K "judge_runs" "judge_runs" s_judge_runs A.f_judge_runs A.d_judge_runs
  m_judge_runs : mg "judge_runs" = some (.ref A.f_judge_runs)
  F_input_of : Fun K "input_of" "input_of" s_input_of A.f_input_of A.d_input_of
  m_input_of : mg "input_of" = some (.ref A.f_input_of)
  F_check_number : Fun K "check_number" "check_number" s_check_number A.f_check_number A.d_check_number
  m_check_number : mg "check_number" = some (.ref A.f_check_number)
  F_given_of : Fun K "given_of" "given_of" s_given_of A.f_given_of A.d_given_of
  m_given_of : mg "given_of" = some (.ref A.f_given_of)
  F_written_by_replacement : Fun K "written_by_replacement" "written_by_replacement" s_written_by_replacement A.f_written_by_replacement A.d_written_by_replacement
  m_written_by_replacement : mg "written_by_replacement" = some (.ref A.f_written_by_replacement)
  F_is_way : Fun K "is_way" "is_way" s_is_way A.f_is_way A.d_is_way
  m_is_way : mg "is_way" = some (.ref A.f_is_way)
  F_runs_in : Fun K "runs_in" "runs_in" s_runs_in A.f_runs_in A.d_runs_in
  m_runs_in : mg "runs_in" = some (.ref A.f_runs_in)
  F_held_back : Fun K "held_back" "held_back" s_held_back A.f_held_back A.d_held_back
  m_held_back : mg "held_back" = some (.ref A.f_held_back)
  F__law_number : Fun K "_law_number" "_law_number" s__law_number A.f__law_number A.d__law_number
  m__law_number : mg "_law_number" = some (.ref A.f__law_number)
  F__law_input : Fun K "_law_input" "_law_input" s__law_input A.f__law_input A.d__law_input
  m__law_input : mg "_law_input" = some (.ref A.f__law_input)
  F__law_cut : Fun K "_law_cut" "_law_cut" s__law_cut A.f__law_cut A.d__law_cut
  m__law_cut : mg "_law_cut" = some (.ref A.f__law_cut)
  F__law_is_way : Fun K "_law_is_way" "_law_is_way" s__law_is_way A.f__law_is_way A.d__law_is_way
  m__law_is_way : mg "_law_is_way" = some (.ref A.f__law_is_way)
  F__law_are_levels : Fun K "_law_are_levels" "_law_are_levels" s__law_are_levels A.f__law_are_levels A.d__law_are_levels
  m__law_are_levels : mg "_law_are_levels" = some (.ref A.f__law_are_levels)
  F__law_runs : Fun K "_law_runs" "_law_runs" s__law_runs A.f__law_runs A.d__law_runs
  m__law_runs : mg "_law_runs" = some (.ref A.f__law_runs)
  F__law_levels : Fun K "_law_levels" "_law_levels" s__law_levels A.f__law_levels A.d__law_levels
  m__law_levels : mg "_law_levels" = some (.ref A.f__law_levels)
  F__law_written : Fun K "_law_written" "_law_written" s__law_written A.f__law_written A.d__law_written
  m__law_written : mg "_law_written" = some (.ref A.f__law_written)
  F_law : Fun K "law" "law" s_law A.f_law A.d_law
  m_law : mg "law" = some (.ref A.f_law)
  c_GREATEST_KEY : mg "GREATEST_KEY" = some (.int 1000000000 0) ∨ ∃ t, mg "GREATEST_KEY" = some (.int 1000000000 t)
  c_MOST_PLACES : mg "MOST_PLACES" = some (.int 12 0) ∨ ∃ t, mg "MOST_PLACES" = some (.int 12 t)
  c_MOST_ROOM : mg "MOST_ROOM" = some (.int 12 0) ∨ ∃ t, mg "MOST_ROOM" = some (.int 12 t)
  g_all : mg "all" = none
  g_any : mg "any" = none
  g_bool : mg "bool" = none
  g_dict : mg "dict" = none
  g_enumerate : mg "enumerate" = none
  g_int : mg "int" = none
  g_isinstance : mg "isinstance" = none
  g_len : mg "len" = none
  g_list : mg "list" = none
  g_max : mg "max" = none
  g_min : mg "min" = none
  g_range : mg "range" = none
  g_sorted : mg "sorted" = none
  g_sum : mg "sum" = none
  g_tuple : mg "tuple" = none
  cTC : Cls K A.CC
  cWritten : NoAttr K A.CC "written"
  mCC : mg "Cuts" = some (.ref A.CC)
  mkCC : Mk K A.CC A.f_c___init__
  eqcC : EqC K A.CC A.f_c___eq__
  kaC : PySem.W.findIn K (.ref A.CC) "__class__" = some (some (.builtin "object.__class__"))
  knC : PySem.W.specialIn K (.builtin "object.__class__") "__get__" = some (some (.builtin "getset_descriptor.__get__"))
  ktkC : PySem.W.takesIn K (.builtin "object.__class__") = some true
  kmC : PySem.W.mroIn K A.CC (.type "object") = some true
  kiC_int : PySem.W.kitOne K (.type "int") (.ref A.CC) = some false
  kiC_tuple : PySem.W.kitOne K (.type "tuple") (.ref A.CC) = some false
  nfC_CE : PySem.W.notFirst K A.CC (.ref A.CE) = true
  kiC_CE : PySem.W.kitOne K (.ref A.CE) (.ref A.CC) = some false
  cTE : Cls K A.CE
  eLevels : NoAttr K A.CE "levels"
  mCE : mg "Needs" = some (.ref A.CE)
  mkCE : Mk K A.CE A.f_e___init__
  eqcE : EqC K A.CE A.f_e___eq__
  kaE : PySem.W.findIn K (.ref A.CE) "__class__" = some (some (.builtin "object.__class__"))
  knE : PySem.W.specialIn K (.builtin "object.__class__") "__get__" = some (some (.builtin "getset_descriptor.__get__"))
  ktkE : PySem.W.takesIn K (.builtin "object.__class__") = some true
  kmE : PySem.W.mroIn K A.CE (.type "object") = some true
  kiE_int : PySem.W.kitOne K (.type "int") (.ref A.CE) = some false
  kiE_tuple : PySem.W.kitOne K (.type "tuple") (.ref A.CE) = some false
  nfE_CC : PySem.W.notFirst K A.CE (.ref A.CC) = true
  kiE_CC : PySem.W.kitOne K (.ref A.CC) (.ref A.CE) = some false

end Tw

set_option Elab.async false
set_option linter.all false
set_option maxRecDepth 100000
set_option maxHeartbeats 2000000
namespace Tw
open PySem PySem.Spec PyProof.Rows L2
section
variable {P : Program} {w : World} {K : PySem.W.Frag} {mg : Str → Option Value} {base : Heap} {A : Ad}
open LamX (ExtN Tabs TabS)
def e0 : Str := ⟨#[]⟩
theorem extN_of {H H' : Hp} (s : Same H H') : ExtN H H' := fun b o e _ => s b o e
theorem ints_all : ∀ ks ms : List Int, PyData.eqvAll (ks.map PyData.int) (ms.map PyData.int) = decide (ks = ms)
  | [], [] => by simp [PyData.eqvAll]
  | [], m :: ms => by simp [PyData.eqvAll]
  | k :: ks, [] => by simp [PyData.eqvAll]
  | k :: ks, m :: ms => by
    simp only [List.map_cons, PyData.eqvAll, ints_all ks ms, PyData.eqv]
    by_cases h1 : k = m
    · by_cases h2 : ks = ms <;> simp [h1, h2]
    · simp [h1]
theorem ints_eqv (ks ms : List Int) : PyData.eqv (.tuple (ks.map PyData.int)) (.tuple (ms.map PyData.int)) = decide (ks = ms) := by
  rw [← ints_all]
  simp [PyData.eqv]
theorem shaped_ints (ns : List Int) : SeqAt.shaped (.list (ns.map PyData.int)) = true := by
  have h1 : ∀ ms : List Int, PyData.canLayAll0 (ms.map PyData.int) = true := fun ms => by
    induction ms with
    | nil => rfl
    | cons m ms ih => rw [List.map_cons, PyData.canLayAll0, ih]; rfl
  have h2 : ∀ ms : List Int, PyData.depthAll (ms.map PyData.int) ≤ 1 := fun ms => by
    induction ms with
    | nil => simp [PyData.depthAll]
    | cons m ms ih =>
      simp only [List.map_cons, PyData.depthAll, PyData.depth]
      omega
  have h3 : PyData.depth (.list (ns.map PyData.int)) ≤ 64 := by
    have := h2 ns
    simp only [PyData.depth]
    omega
  unfold SeqAt.shaped
  rw [decide_eq_true h3, Bool.and_true]
  simp only [PyData.canLay0]
  exact h1 ns
theorem ints_shT (ks : List Int) : SeqAt.shaped (.tuple (ks.map PyData.int)) = true := by
  have h := shaped_ints ks
  unfold SeqAt.shaped at h ⊢
  simp only [PyData.canLay0, PyData.depth] at h ⊢
  exact h
theorem ints_dp (K : PySem.W.Frag) (H : Hp) : ∀ ns : List Int, DpAll K H (ns.map V.int) (ns.map PyData.int)
  | [] => .nil
  | n :: ns => .cons (.int n) (ints_dp K H ns)
theorem ints_tup (K : PySem.W.Frag) {H : Hp} {a : Addr} {ks : List Int} (h : H a = some (.tup (ks.map V.int))) : Dp K H (.ref a) (.tuple (ks.map PyData.int)) := .tup (SqT.of h) (ints_dp K H ks)
end
end Tw

set_option Elab.async false
set_option linter.all false
set_option maxRecDepth 100000
set_option maxHeartbeats 2000000
namespace Tw
open PySem PySem.Spec PyProof.Rows L2
section
variable {P : Program} {w : World} {K : PySem.W.Frag} {mg : Str → Option Value} {base : Heap} {A : Ad}
open LamX (ExtN Tabs TabS)
theorem int_deq (a b : Int) : decide (V.int a = V.int b) = decide (a = b) := by
  by_cases h : a = b
  · rw [decide_eq_true h, decide_eq_true (by rw [h])]
  · rw [decide_eq_false h, decide_eq_false fun z => h (by injection z)]
/-! Cuts -/
def fdC (v0 : V) : List (Str × V) := putF "written" v0 (([] : List (Str × V)))
theorem fdC_written (v0 : V) : (fdC v0).lookup ("written" : Str) = some v0 := by
  unfold fdC
  rw [lookup_putF, if_pos rfl]
def AtC (C : Addr) (H : Hp) (p : Addr) (x0 : List Int) : Prop := ∃ (dx t0 : Addr), H p = some (.ins C dx (fdC (.ref t0))) ∧ H t0 = some (.tup (x0.map V.int))
theorem AtC.ext {C : Addr} {H H' : Hp} {p : Addr} {x0 : List Int} (h : AtC C H p x0) (e : LamX.ExtN H H') : AtC C H' p x0 := let ⟨dx, t0, h, e0⟩ := h; ⟨dx, t0, e _ _ h (fun _ z => nomatch z), e _ _ e0 (fun _ z => nomatch z)⟩
theorem AtC.same {C : Addr} {H H' : Hp} {p : Addr} {x0 : List Int} (h : AtC C H p x0) (s : Same H H') : AtC C H' p x0 := h.ext (extN_of s)
theorem AtC.ins {C : Addr} {H : Hp} {p : Addr} {x0 : List Int} (h : AtC C H p x0) : ∃ dx fs, H p = some (.ins C dx fs) := let ⟨dx, t0, h, e0⟩ := h; ⟨dx, _, h⟩
def spIC (C : Addr) : Sp := fun vs H Q _ => ∃ (p dx a0 : Nat) (x0 : List Int), vs = [.ref p, .ref a0] ∧ H p = some (.ins C dx []) ∧ (H a0 = some (.lst (x0.map V.int)) ∨ H a0 = some (.tup (x0.map V.int))) ∧ ∀ (H' : Hp), (∀ b o, H b = some o → b ≠ p → H' b = some o) → AtC C H' p x0 → Q .non H'
theorem ok_iC (T : Tx K mg A) : FnOk P w K mg base CX0 1 A.f_c___init__ A.d_c___init__ ["self", "written"] (spIC A.CC) := by
  refine T.F_c___init__.ok sc_c___init__ (fun vs H Q E h => ?_) (fun cdv B outer s H vs Q E hr h => ?_)
  · obtain ⟨p, dx, a0, x0, rfl, _⟩ := h
    rfl
  · obtain ⟨p, dx, a0, x0, rfl, hp, ha0, q⟩ := h
    refine ⟨_, (pss_one (ps_fld (pv 0) (pe_callTy (r := rTupU) call_tupU (by rfl) T.g_tuple (by decide +kernel) (pa_cons (pv 1) pa_nil)) rfl)), ?_⟩
    have fr : ∀ b o, H b = some o → b ≠ p → H b = some o := fun b o e _ => e
    refine ⟨_, rfl, a0, _, rfl, ha0, fun t0 G0 s0 e0 => ?_⟩
    have hp := s0 _ _ hp
    have fr : ∀ b o, H b = some o → b ≠ p → G0 b = some o := fun b o e n => s0 _ _ (fr b o e n)
    refine ⟨_, rfl, p, A.CC, dx, _, rfl, hp, T.cTC, T.cWritten, (by show 0 < 1000; decide), ?_⟩
    have fr : ∀ b o, H b = some o → b ≠ p → (upd G0 p (.ins A.CC dx (putF "written" (.ref t0) ([])))) b = some o := fun b o e n => by rw [upd_ne n]; exact fr b o e n
    have e0 : (upd G0 p (.ins A.CC dx (putF "written" (.ref t0) ([])))) t0 = _ := (upd_ne (ne_of e0 hp (by intro z; cases z))).trans e0
    have hp : (upd G0 p (.ins A.CC dx (putF "written" (.ref t0) ([])))) p = _ := upd_same
    exact q _ fr ⟨dx, t0, hp, e0⟩
theorem b_iC (T : Tx K mg A) : L2.Binds K A.d_c___init__ ["self", "written"] [] := T.F_c___init__.binds fun _ _ _ _ _ _ us hl => match us, hl with | [_, _], _ => rfl
def spEC (K : PySem.W.Frag) (C : Addr) : Sp := fun vs H Q _ => ∃ (o : Addr) (y : V) (x0 : List Int), vs = [.ref o, y] ∧ AtC C H o x0 ∧ ((∃ (b : Addr) (y0 : List Int), y = .ref b ∧ AtC C H b y0 ∧ Q (.bl (decide (x0 = y0))) H) ∨
  (∃ u, TyX K H y u ∧ PySem.W.kitOne K u (.ref C) = some false ∧ Q (.bl false) H))
theorem ok_eC (T : Tx K mg A) : FnOk P w K mg base CX0 1 A.f_c___eq__ A.d_c___eq__ ["self", "other"] (spEC K A.CC) := by
  refine T.F_c___eq__.ok sc_c___eq__ (fun vs H Q E h => ?_) (fun cdv B outer s H vs Q E hr h => ?_)
  · obtain ⟨o, y, x0, rfl, _⟩ := h
    rfl
  · obtain ⟨o, y, x0, rfl, ⟨dx, t0, g, e0⟩, h⟩ := h
    have hu := hr.units
    refine ⟨_, (pss_one (ps_ret (pe_and (pe_callB (r := rIsi K) call_isi (by rfl) T.g_isinstance (by decide +kernel) (pa_cons (pv 1) (pa_cons (pe_glob (v := .ref A.CC) (by rfl) T.mCC (relR _)) pa_nil))) (pe_one (pe_cmpR (op_eqD hu) (pe_fld (pv 0) rfl) (pe_fld (pv 1) rfl) (nomark _)))))), ?_⟩
    rcases h with ⟨b, y0, rfl, ⟨dy, u0, k, f0⟩, q⟩ | ⟨u, ty, kt, q⟩
    · refine ⟨_, rfl, _, _, .ref A.CC, _, true, rfl, .own A.CC, .base (.ins k T.cTC T.kaC T.knC T.ktkC T.kmC), (by unfold PySem.W.kitOne; rw [if_pos (by simp)]), true, rfl, iteT ?_⟩
      refine ⟨_, rfl, o, A.CC, dx, _, _, rfl, g, T.cTC, T.cWritten, fdC_written _, _, rfl, b, A.CC, dy, _, _, rfl, k, T.cTC, T.cWritten, fdC_written _, _, _, ints_tup K e0, ints_tup K f0, ints_shT _, ints_shT _, ?_⟩
      rw [ints_eqv]
      exact q
    · exact ⟨_, rfl, _, _, u, _, false, rfl, .own A.CC, ty, kt, false, rfl, iteF q⟩
theorem b_eC (T : Tx K mg A) : L2.Binds K A.d_c___eq__ ["self", "other"] [] := T.F_c___eq__.binds fun _ _ _ _ _ _ us hl => match us, hl with | [_, _], _ => rfl
/-! Needs -/
def fdE (v0 : V) : List (Str × V) := putF "levels" v0 (([] : List (Str × V)))
theorem fdE_levels (v0 : V) : (fdE v0).lookup ("levels" : Str) = some v0 := by
  unfold fdE
  rw [lookup_putF, if_pos rfl]
def AtE (C : Addr) (H : Hp) (p : Addr) (x0 : Dq.KVs) : Prop := ∃ (dx t0 : Addr), H p = some (.ins C dx (fdE (.ref t0))) ∧ H t0 = some (.dK x0)
theorem AtE.ext {C : Addr} {H H' : Hp} {p : Addr} {x0 : Dq.KVs} (h : AtE C H p x0) (e : LamX.ExtN H H') : AtE C H' p x0 := let ⟨dx, t0, h, e0⟩ := h; ⟨dx, t0, e _ _ h (fun _ z => nomatch z), e _ _ e0 (fun _ z => nomatch z)⟩
theorem AtE.same {C : Addr} {H H' : Hp} {p : Addr} {x0 : Dq.KVs} (h : AtE C H p x0) (s : Same H H') : AtE C H' p x0 := h.ext (extN_of s)
theorem AtE.ins {C : Addr} {H : Hp} {p : Addr} {x0 : Dq.KVs} (h : AtE C H p x0) : ∃ dx fs, H p = some (.ins C dx fs) := let ⟨dx, t0, h, e0⟩ := h; ⟨dx, _, h⟩
def spIE (C : Addr) : Sp := fun vs H Q _ => ∃ (p dx a0 : Nat) (x0 : Dq.KVs), vs = [.ref p, .ref a0] ∧ H p = some (.ins C dx []) ∧ H a0 = some (.dK x0) ∧ ∀ (H' : Hp), (∀ b o, H b = some o → b ≠ p → H' b = some o) → AtE C H' p x0 → Q .non H'
theorem ok_iE (T : Tx K mg A) : FnOk P w K mg base CX0 1 A.f_e___init__ A.d_e___init__ ["self", "levels"] (spIE A.CE) := by
  refine T.F_e___init__.ok sc_e___init__ (fun vs H Q E h => ?_) (fun cdv B outer s H vs Q E hr h => ?_)
  · obtain ⟨p, dx, a0, x0, rfl, _⟩ := h
    rfl
  · obtain ⟨p, dx, a0, x0, rfl, hp, ha0, q⟩ := h
    refine ⟨_, (pss_one (ps_fld (pv 0) (pe_callTy call_dictD (by rfl) T.g_dict (by decide +kernel) (pa_cons (pv 1) pa_nil)) rfl)), ?_⟩
    have fr : ∀ b o, H b = some o → b ≠ p → H b = some o := fun b o e _ => e
    refine ⟨_, rfl, a0, x0, rfl, .inl ha0, fun t0 nt0 => ?_⟩
    have s0 := Same.up (o := .dK x0) nt0
    have e0 : upd H t0 (.dK x0) t0 = some (.dK x0) := upd_same
    generalize upd H t0 (.dK x0) = G0 at s0 e0
    have hp := s0 _ _ hp
    have fr : ∀ b o, H b = some o → b ≠ p → G0 b = some o := fun b o e n => s0 _ _ (fr b o e n)
    refine ⟨_, rfl, p, A.CE, dx, _, rfl, hp, T.cTE, T.eLevels, (by show 0 < 1000; decide), ?_⟩
    have fr : ∀ b o, H b = some o → b ≠ p → (upd G0 p (.ins A.CE dx (putF "levels" (.ref t0) ([])))) b = some o := fun b o e n => by rw [upd_ne n]; exact fr b o e n
    have e0 : (upd G0 p (.ins A.CE dx (putF "levels" (.ref t0) ([])))) t0 = _ := (upd_ne (ne_of e0 hp (by intro z; cases z))).trans e0
    have hp : (upd G0 p (.ins A.CE dx (putF "levels" (.ref t0) ([])))) p = _ := upd_same
    exact q _ fr ⟨dx, t0, hp, e0⟩
theorem b_iE (T : Tx K mg A) : L2.Binds K A.d_e___init__ ["self", "levels"] [] := T.F_e___init__.binds fun _ _ _ _ _ _ us hl => match us, hl with | [_, _], _ => rfl
def spEE (K : PySem.W.Frag) (C : Addr) : Sp := fun vs H Q _ => ∃ (o : Addr) (y : V) (x0 : Dq.KVs), vs = [.ref o, y] ∧ AtE C H o x0 ∧ Dq.IntVs x0 ∧ ((∃ (b : Addr) (y0 : Dq.KVs), y = .ref b ∧ AtE C H b y0 ∧ Dq.IntVs y0 ∧ Q (.bl (decide (Dq.eqDB x0 y0 = true))) H) ∨
  (∃ u, TyX K H y u ∧ PySem.W.kitOne K u (.ref C) = some false ∧ Q (.bl false) H))
theorem ok_eE (T : Tx K mg A) : FnOk P w K mg base CX0 1 A.f_e___eq__ A.d_e___eq__ ["self", "other"] (spEE K A.CE) := by
  refine T.F_e___eq__.ok sc_e___eq__ (fun vs H Q E h => ?_) (fun cdv B outer s H vs Q E hr h => ?_)
  · obtain ⟨o, y, x0, rfl, _⟩ := h
    rfl
  · obtain ⟨o, y, x0, rfl, ⟨dx, t0, g, e0⟩, ix0, h⟩ := h
    have hu := hr.units
    refine ⟨_, (pss_one (ps_ret (pe_and (pe_callB (r := rIsi K) call_isi (by rfl) T.g_isinstance (by decide +kernel) (pa_cons (pv 1) (pa_cons (pe_glob (v := .ref A.CE) (by rfl) T.mCE (relR _)) pa_nil))) (pe_one (pe_cmpR (Dq.op_eqDI (Nat.lt_of_le_of_lt (Nat.le_add_right _ 64) hu)) (pe_fld (pv 0) rfl) (pe_fld (pv 1) rfl) (nomark _)))))), ?_⟩
    rcases h with ⟨b, y0, rfl, ⟨dy, u0, k, f0⟩, iy0, q⟩ | ⟨u, ty, kt, q⟩
    · refine ⟨_, rfl, _, _, .ref A.CE, _, true, rfl, .own A.CE, .base (.ins k T.cTE T.kaE T.knE T.ktkE T.kmE), (by unfold PySem.W.kitOne; rw [if_pos (by simp)]), true, rfl, iteT ?_⟩
      refine ⟨_, rfl, o, A.CE, dx, _, _, rfl, g, T.cTE, T.eLevels, fdE_levels _, _, rfl, b, A.CE, dy, _, _, rfl, k, T.cTE, T.eLevels, fdE_levels _, _, _, _, _, rfl, rfl, e0, f0, ix0, iy0, ?_⟩
      rw [show decide (Dq.eqDB x0 y0 = true) = Dq.eqDB x0 y0 by simp] at q
      exact q
    · exact ⟨_, rfl, _, _, u, _, false, rfl, .own A.CE, ty, kt, false, rfl, iteF q⟩
theorem b_eE (T : Tx K mg A) : L2.Binds K A.d_e___eq__ ["self", "other"] [] := T.F_e___eq__.binds fun _ _ _ _ _ _ us hl => match us, hl with | [_, _], _ => rfl

end
end Tw

set_option Elab.async false
set_option linter.all false
set_option maxRecDepth 100000
set_option maxHeartbeats 2000000
namespace Tw
open PySem PySem.Spec PyProof.Rows L2
section
variable {P : Program} {w : World} {K : PySem.W.Frag} {mg : Str → Option Value} {base : Heap} {A : Ad}
open LamX (ExtN Tabs TabS)
inductive IsW : List Int → List Int → List Int → Prop
  | nil {h : List Int} : IsW h [] []
  | cons {h rest w : List Int} {k : Int} (hk : k ∈ h) (ih : IsW (h.filter (fun x => decide (x ≠ k)) ++ rest.take 1) (rest.drop 1) w) : IsW h rest (k :: w)
def KeysIn (ns : List Int) : Prop := ns.length ≤ 12 ∧ (∀ n ∈ ns, -1000000000 ≤ n ∧ n ≤ 1000000000) ∧ ns.Nodup
/-- (l, k) stands before q -/
def behB (l : Nat) (k : Int) (q : Nat × Int) : Bool := decide (l < q.1) || (decide (l = q.1) && decide (k < q.2))
theorem beh_iff {l : Nat} {k : Int} {q : Nat × Int} : behB l k q = true ↔ l < q.1 ∨ (l = q.1 ∧ k < q.2) := by
  unfold behB
  rw [Bool.or_eq_true, Bool.and_eq_true, decide_eq_true_eq, decide_eq_true_eq, decide_eq_true_eq]
def cntF (f : Int → Nat) (P : List Int) (l : Nat) (k : Int) : Nat := P.countP fun y => behB l k (f y, y)
def waysL : Nat → List Int → List Int → List (List Int)
  | 0, _, _ => [[]]
  | n + 1, h, rest => h.flatMap fun k => (waysL n (h.filter (fun x => decide (x ≠ k)) ++ rest.take 1) (rest.drop 1)).map fun w => k :: w
/-- all ways -/
def everyL (r : Nat) (ns : List Int) : List (List Int) := waysL ns.length (ns.take r) (ns.drop r)
theorem mem_ways : ∀ {n : Nat} {h rest w : List Int}, w ∈ waysL n h rest → w.length = n ∧ (rest.length ≤ n → IsW h rest w)
  | 0, h, rest, w, e => by
    obtain rfl := List.mem_singleton.mp e
    refine ⟨rfl, fun z => ?_⟩
    rw [List.length_eq_zero_iff.mp (Nat.le_zero.mp z)]
    exact .nil
  | n + 1, h, rest, w, e => by
    obtain ⟨k, hk, e⟩ := List.mem_flatMap.mp e
    obtain ⟨v, hv, rfl⟩ := List.mem_map.mp e
    obtain ⟨h1, h2⟩ := mem_ways hv
    refine ⟨by rw [List.length_cons, h1], fun z => .cons hk (h2 ?_)⟩
    rw [List.length_drop]
    omega
theorem ways_mem : ∀ {h rest w : List Int}, IsW h rest w → w ∈ waysL w.length h rest
  | _, _, _, .nil => List.mem_singleton_self _
  | _, _, _, .cons hk ih => List.mem_flatMap.mpr ⟨_, hk, List.mem_map.mpr ⟨_, ways_mem ih, rfl⟩⟩
theorem every_iff {r : Nat} {ns w : List Int} : w ∈ everyL r ns ↔ w.length = ns.length ∧ IsW (ns.take r) (ns.drop r) w := by
  refine ⟨fun h => ?_, fun ⟨h1, h2⟩ => ?_⟩
  · obtain ⟨h1, h2⟩ := mem_ways h
    exact ⟨h1, h2 (by rw [List.length_drop]; omega)⟩
  · have := ways_mem h2
    rw [h1] at this
    exact this
theorem filter_erase {k : Int} : ∀ {h : List Int}, h.Nodup → h.filter (fun x => decide (x ≠ k)) = h.erase k
  | [], _ => rfl
  | a :: h, hd => by
    obtain ⟨h1, h2⟩ := List.nodup_cons.mp hd
    by_cases e : a = k
    · subst e
      rw [List.erase_cons_head, List.filter_cons_of_neg (by simp)]
      rw [List.filter_eq_self]
      intro x hx
      rw [decide_eq_true_eq]
      exact fun z => h1 (by rw [← z]; exact hx)
    · rw [List.erase_cons_tail (by simpa using e), List.filter_cons_of_pos (by simpa using e), filter_erase h2]
theorem isW_perm : ∀ {h rest w : List Int}, IsW h rest w → (h ++ rest).Nodup → w.length = (h ++ rest).length → w.Perm (h ++ rest)
  | _, _, _, .nil, _, hl => by
    rw [List.length_eq_zero_iff.mp hl.symm]
  | h, rest, _, .cons (k := k) (w := w) hk ih, hd, hl => by
    have h0 := List.nodup_append.mp hd
    have ht : rest.take 1 ++ rest.drop 1 = rest := List.take_append_drop 1 rest
    rw [filter_erase h0.1] at ih
    have pe := List.perm_cons_erase hk
    have p1 : (k :: ((h.erase k ++ rest.take 1) ++ rest.drop 1)).Perm (h ++ rest) := by
      rw [List.append_assoc, ht]
      exact (pe.append_right rest).symm
    have hd1 := p1.nodup_iff.mpr hd
    have hl1 := p1.length_eq
    rw [List.length_cons] at hl1 hl
    have := isW_perm ih (List.nodup_cons.mp hd1).2 (by omega)
    exact (this.cons k).trans p1
theorem every_perm {r : Nat} {ns w : List Int} (hd : ns.Nodup) (h : w ∈ everyL r ns) : w.Perm ns := by
  obtain ⟨h1, h2⟩ := every_iff.mp h
  have ht : ns.take r ++ ns.drop r = ns := List.take_append_drop r ns
  have := isW_perm h2 (by rw [ht]; exact hd) (by rw [ht]; exact h1)
  rw [ht] at this
  exact this
def lastI (w : List Int) : Int := w.getLastD 0
def fitL (h w : List Int) : List Int := h.filter fun k => decide (w = []) || decide (lastI w < k)
def minI : List Int → Int
  | [] => 0
  | [a] => a
  | a :: b :: l => if a ≤ minI (b :: l) then a else minI (b :: l)
def pickL (h w : List Int) : Int := minI (if fitL h w = [] then h else fitL h w)
def stW (r : Nat) (ns : List Int) : Nat → List Int × List Int
  | 0 => (ns.take r, [])
  | i + 1 => ((stW r ns i).1.erase (pickL (stW r ns i).1 (stW r ns i).2) ++ (ns.drop (r + i)).take 1, (stW r ns i).2 ++ [pickL (stW r ns i).1 (stW r ns i).2])
theorem stW_len (r : Nat) (ns : List Int) : ∀ i, (stW r ns i).2.length = i
  | 0 => rfl
  | i + 1 => by
    show ((stW r ns i).2 ++ [_]).length = _
    rw [List.length_append, stW_len r ns i]
    rfl
theorem minI_ok : ∀ l : List Int, l ≠ [] → minI l ∈ l ∧ ∀ y ∈ l, minI l ≤ y
  | [], h => absurd rfl h
  | [a], _ => ⟨List.mem_singleton_self a, fun y hy => by rw [List.mem_singleton.mp hy]; exact Int.le_refl _⟩
  | a :: b :: l, _ => by
    obtain ⟨h1, h2⟩ := minI_ok (b :: l) (by simp)
    unfold minI
    by_cases h : a ≤ minI (b :: l)
    · rw [if_pos h]
      refine ⟨List.mem_cons_self, fun y hy => ?_⟩
      rcases List.mem_cons.mp hy with e | e
      · omega
      · have := h2 y e
        omega
    · rw [if_neg h]
      refine ⟨List.mem_cons_of_mem _ h1, fun y hy => ?_⟩
      rcases List.mem_cons.mp hy with e | e
      · omega
      · exact h2 y e
theorem pick_in {h : List Int} (w : List Int) (hn : h ≠ []) : pickL h w ∈ h := by
  unfold pickL
  by_cases e : fitL h w = []
  · rw [if_pos e]
    exact (minI_ok h hn).1
  · rw [if_neg e]
    exact (List.mem_filter.mp (minI_ok _ e).1).1
theorem stW_perm {r : Nat} {ns : List Int} (hr : 1 ≤ r) : ∀ i, i ≤ ns.length → ((stW r ns i).2 ++ (stW r ns i).1).Perm (ns.take (r + i))
  | 0, _ => List.Perm.refl _
  | i + 1, hi => by
    have ih := stW_perm hr i (by omega) (r := r) (ns := ns)
    have hl := ih.length_eq
    rw [List.length_append, stW_len, List.length_take] at hl
    have hne : (stW r ns i).1 ≠ [] := fun z => by
      rw [z, List.length_nil] at hl
      omega
    have hk := List.perm_cons_erase (pick_in (stW r ns i).2 hne)
    show (((stW r ns i).2 ++ [pickL (stW r ns i).1 (stW r ns i).2]) ++ ((stW r ns i).1.erase (pickL (stW r ns i).1 (stW r ns i).2) ++ (ns.drop (r + i)).take 1)).Perm (ns.take (r + i + 1))
    rw [List.take_add, ← List.append_assoc, List.append_assoc (stW r ns i).2]
    exact (((hk.symm.append_left (stW r ns i).2)).trans ih).append_right _
theorem held_len {r : Nat} {ns : List Int} (hr : 1 ≤ r) {i : Nat} (hi : i ≤ ns.length) : (stW r ns i).1.length = min (r + i) ns.length - i := by
  have hl := (stW_perm hr i hi).length_eq
  rw [List.length_append, stW_len, List.length_take] at hl
  omega
theorem held_ne {r : Nat} {ns : List Int} (hr : 1 ≤ r) {i : Nat} (hi : i < ns.length) : (stW r ns i).1 ≠ [] := fun z => by
  have := held_len hr (Nat.le_of_lt hi) (ns := ns)
  rw [z, List.length_nil] at this
  omega
theorem held_sub {r : Nat} {ns : List Int} (hr : 1 ≤ r) {i : Nat} (hi : i ≤ ns.length) {x : Int} (h : x ∈ (stW r ns i).1 ∨ x ∈ (stW r ns i).2) : x ∈ ns := by
  have := (stW_perm hr i hi).mem_iff (a := x)
  refine List.mem_of_mem_take (this.mp ?_)
  rcases h with h | h
  · exact List.mem_append_right _ h
  · exact List.mem_append_left _ h
def lastL (rs : List (List Int)) : List Int := rs.getLastD []
theorem last_snoc (w : List Int) (k : Int) : lastI (w ++ [k]) = k := by
  unfold lastI
  rw [List.getLastD_eq_getLast?, List.getLast?_append]
  rfl
theorem mem_at {ns : List Int} {k : Int} (h : k ∈ ns) : ∃ m : Nat, ns[m]? = some k := by
  obtain ⟨m, hm, e⟩ := List.getElem_of_mem h
  exact ⟨m, by rw [List.getElem?_eq_getElem hm, e]⟩
theorem minI_eq {l : List Int} {m : Int} (h1 : m ∈ l) (h2 : ∀ y ∈ l, m ≤ y) : m = minI l := by
  obtain ⟨a, b⟩ := minI_ok l (List.ne_nil_of_mem h1)
  exact Int.le_antisymm (h2 _ a) (b _ h1)
def stepR (rs : List (List Int)) (k : Int) : List (List Int) := if rs ≠ [] ∧ lastI (lastL rs) < k then rs.dropLast ++ [lastL rs ++ [k]] else rs ++ [[k]]
def runsL (w : List Int) : List (List Int) := w.foldl stepR []
def rhoP (w : List Int) (i : Nat) : Nat := (runsL (w.take (i + 1))).length
theorem runs_snoc (w : List Int) (k : Int) : runsL (w ++ [k]) = stepR (runsL w) k := by
  unfold runsL
  rw [List.foldl_append]
  rfl
theorem snoc_of {α : Type} {w : List α} {n : Nat} (h : w.length = n + 1) : ∃ v k, w = v ++ [k] ∧ v.length = n := by
  have hn : w ≠ [] := fun z => by rw [z] at h; cases h
  refine ⟨w.dropLast, w.getLast hn, (List.dropLast_concat_getLast hn).symm, ?_⟩
  rw [List.length_dropLast, h]
  rfl
theorem lastL_snoc (rs : List (List Int)) (x : List Int) : lastL (rs ++ [x]) = x := by
  unfold lastL
  rw [List.getLastD_eq_getLast?, List.getLast?_append]
  rfl
theorem step_last (rs : List (List Int)) (k : Int) : stepR rs k ≠ [] ∧ lastI (lastL (stepR rs k)) = k := by
  unfold stepR
  by_cases h : rs ≠ [] ∧ lastI (lastL rs) < k
  · rw [if_pos h, lastL_snoc, last_snoc]
    exact ⟨by simp, rfl⟩
  · rw [if_neg h, lastL_snoc]
    exact ⟨by simp, rfl⟩
theorem runs_last : ∀ (n : Nat) (w : List Int), w.length = n → w ≠ [] → runsL w ≠ [] ∧ lastI (lastL (runsL w)) = lastI w
  | 0, w, h, hn => absurd (List.length_eq_zero_iff.mp h) hn
  | n + 1, w, h, _ => by
    obtain ⟨v, k, rfl, _⟩ := snoc_of h
    rw [runs_snoc, last_snoc]
    exact step_last _ _
theorem rho_step {w : List Int} {i : Nat} {x y : Int} (hx : w[i]? = some x) (hy : w[i + 1]? = some y) (hn : x ≠ y) : rhoP w i < rhoP w (i + 1) ∨ (rhoP w i = rhoP w (i + 1) ∧ x < y) := by
  obtain ⟨h1, e1⟩ := List.getElem?_eq_some_iff.mp hx
  obtain ⟨h2, e2⟩ := List.getElem?_eq_some_iff.mp hy
  have hne : w.take (i + 1) ≠ [] := fun z => by
    have := congrArg List.length z
    rw [List.length_take, List.length_nil] at this
    omega
  have hlast : lastI (w.take (i + 1)) = x := by
    rw [List.take_succ_eq_append_getElem h1, last_snoc]
    exact e1
  obtain ⟨r1, r2⟩ := runs_last _ _ rfl hne
  unfold rhoP
  rw [List.take_succ_eq_append_getElem h2, runs_snoc, e2]
  unfold stepR
  rw [r2, hlast]
  by_cases c : x < y
  · rw [if_pos ⟨r1, c⟩, List.length_append, List.length_dropLast, List.length_singleton]
    have := List.length_pos_iff.mpr r1
    exact .inr ⟨by omega, c⟩
  · rw [if_neg (fun z => c z.2), List.length_append, List.length_singleton]
    exact .inl (by omega)
theorem rho_lt {w : List Int} (hd : w.Nodup) : ∀ {d i : Nat} {x y : Int}, w[i]? = some x → w[i + d + 1]? = some y → rhoP w i < rhoP w (i + d + 1) ∨ (rhoP w i = rhoP w (i + d + 1) ∧ x < y)
  | 0, i, x, y, hx, hy => rho_step hx hy fun z => by
    obtain ⟨h1, e1⟩ := List.getElem?_eq_some_iff.mp hx
    obtain ⟨h2, e2⟩ := List.getElem?_eq_some_iff.mp hy
    have := (List.getElem_inj hd).mp (e1.trans (z.trans e2.symm))
    omega
  | d + 1, i, x, y, hx, hy => by
    obtain ⟨h2, _⟩ := List.getElem?_eq_some_iff.mp hy
    have hz : w[i + 1]? = some w[i + 1] := List.getElem?_eq_getElem (by omega)
    have a := rho_lt hd (d := 0) hx hz
    have b := rho_lt hd (d := d) (i := i + 1) hz (y := y) (by rw [show i + 1 + d + 1 = i + (d + 1) + 1 by omega]; exact hy)
    rw [show i + 1 + d + 1 = i + (d + 1) + 1 by omega] at b
    have a : rhoP w i < rhoP w (i + 1) ∨ (rhoP w i = rhoP w (i + 1) ∧ x < w[i + 1]) := a
    omega
theorem runs_nil {w : List Int} (h : w ≠ []) : runsL w ≠ [] := (runs_last _ w rfl h).1
theorem rho_top {w : List Int} {i : Nat} (hd : w.Nodup) (hi : i < w.length) : rhoP w i ≤ (runsL w).length ∧ 1 ≤ rhoP w i := by
  refine ⟨?_, List.length_pos_iff.mpr (runs_nil fun z => by
    have := congrArg List.length z
    rw [List.length_take, List.length_nil] at this
    omega)⟩
  have e : rhoP w (w.length - 1) = (runsL w).length := by
    unfold rhoP
    rw [List.take_of_length_le (by omega)]
  by_cases c : i = w.length - 1
  · rw [c, e]
    exact Nat.le_refl _
  · have := rho_lt hd (d := w.length - 1 - i - 1) (i := i) (List.getElem?_eq_getElem hi) (y := w[w.length - 1]) (by rw [show i + (w.length - 1 - i - 1) + 1 = w.length - 1 by omega]; exact List.getElem?_eq_getElem (by omega))
    rw [show i + (w.length - 1 - i - 1) + 1 = w.length - 1 by omega, e] at this
    omega
theorem stW_take (r : Nat) (ns : List Int) : ∀ m i, i ≤ m → (stW r ns m).2.take i = (stW r ns i).2
  | 0, i, h => by
    have : i = 0 := by omega
    subst this
    rfl
  | m + 1, i, h => by
    by_cases e : i = m + 1
    · subst e
      rw [List.take_of_length_le (by rw [stW_len]; exact Nat.le_refl _)]
    · show ((stW r ns m).2 ++ [_]).take i = _
      rw [List.take_append_of_le_length (by rw [stW_len]; omega), stW_take r ns m i (by omega)]
theorem st_nodup {r : Nat} {ns : List Int} (hr : 1 ≤ r) (hd : ns.Nodup) {i : Nat} (hi : i ≤ ns.length) : ((stW r ns i).2 ++ (stW r ns i).1).Nodup :=
  (stW_perm hr i hi).nodup_iff.mpr (hd.sublist (List.take_sublist _ _))
def wd (r d : Nat) : Nat := if d < r then 1 else 0
def writeL (r : Nat) (ns : List Int) : List Int := (stW r ns ns.length).2
theorem write_at {r : Nat} {ns : List Int} {i : Nat} (hi : i < ns.length) : (writeL r ns)[i]? = some (pickL (stW r ns i).1 (stW r ns i).2) := by
  have h := stW_take r ns ns.length (i + 1) hi
  have h2 : ((stW r ns ns.length).2.take (i + 1))[i]? = some (pickL (stW r ns i).1 (stW r ns i).2) := by
    rw [h]
    show ((stW r ns i).2 ++ [_])[i]? = _
    rw [List.getElem?_append_right (by rw [stW_len]; exact Nat.le_refl _), stW_len, Nat.sub_self]
    rfl
  rw [List.getElem?_take_of_lt (by omega)] at h2
  exact h2
theorem write_len {r : Nat} {ns : List Int} : (writeL r ns).length = ns.length := stW_len r ns ns.length
theorem write_perm {r : Nat} {ns : List Int} (hr : 1 ≤ r) : (writeL r ns).Perm ns := by
  have h := stW_perm hr ns.length (Nat.le_refl _) (r := r)
  have hl := held_len hr (Nat.le_refl ns.length) (ns := ns)
  rw [List.length_eq_zero_iff.mp (show (stW r ns ns.length).1.length = 0 by rw [hl]; omega), List.append_nil, List.take_of_length_le (by omega)] at h
  exact h
end
end Tw

set_option Elab.async false
set_option linter.all false
set_option maxRecDepth 100000
set_option maxHeartbeats 2000000
namespace Tw
open PySem PySem.Spec PyProof.Rows L2
section
variable {P : Program} {w : World} {K : PySem.W.Frag} {mg : Str → Option Value} {base : Heap} {A : Ad}
open LamX (ExtN Tabs TabS)
/-! ways and levels, told in other words: IsW everyL every_iff every_perm isW_perm filter_erase rhoP rho_lt rho_top runsL writeL stW pickL fitL minI minI_ok minI_eq pick_in held_len held_ne held_sub st_nodup stW_len stW_take write_at write_len write_perm runs_last runs_nil runs_snoc stepR lastI last_snoc lastL behB beh_iff cntF KeysIn mem_at -/
theorem isW_in : ∀ {h rest w : List Int}, IsW h rest w → ∀ (i : Nat) (k : Int), w[i]? = some k → k ∈ h ++ rest.take i
  | _, _, _, .nil, i, k, e => by cases e
  | h, rest, _, .cons (k := k0) hk ih, 0, k, e => by
    obtain rfl : k0 = k := Option.some.inj e
    exact List.mem_append_left _ hk
  | h, rest, _, .cons (k := k0) (w := w) hk ih, i + 1, k, e => by
    have e : w[i]? = some k := e
    have z := isW_in ih i k e
    rcases List.mem_append.mp z with z | z
    · rcases List.mem_append.mp z with z | z
      · exact List.mem_append_left _ (List.mem_filter.mp z).1
      · refine List.mem_append_right _ ?_
        rw [Nat.add_comm, List.take_add]
        exact List.mem_append_left _ z
    · refine List.mem_append_right _ ?_
      rw [Nat.add_comm, List.take_add]
      exact List.mem_append_right _ z
theorem isW_of {r : Nat} {ns ws : List Int} (hd : ns.Nodup) (hp : ws.Perm ns) (hin : ∀ (i : Nat) (k : Int), ws[i]? = some k → k ∈ ns.take (i + r)) :
    ∀ (d i : Nat) (h : List Int), i + d = ws.length → (∀ x, x ∈ h ↔ x ∈ ns.take (r + i) ∧ x ∉ ws.take i) → IsW h (ns.drop (r + i)) (ws.drop i)
  | 0, i, h, e, _ => by
    rw [List.drop_of_length_le (l := ws) (by omega), List.drop_of_length_le (by rw [← hp.length_eq]; omega)]
    exact .nil
  | d + 1, i, h, e, hh => by
    have hi : i < ws.length := by omega
    have wd : ws.Nodup := hp.nodup_iff.mpr hd
    rw [List.drop_eq_getElem_cons hi]
    have hk := hin i ws[i] (List.getElem?_eq_getElem hi)
    have hni : ws[i] ∉ ws.take i := fun z => by
      obtain ⟨j, hj, ej⟩ := List.getElem_of_mem z
      rw [List.length_take] at hj
      rw [List.getElem_take] at ej
      have := (List.getElem_inj wd).mp ej
      omega
    refine .cons ((hh _).mpr ⟨by rw [Nat.add_comm]; exact hk, hni⟩) ?_
    rw [List.drop_drop]
    refine isW_of hd hp hin d (i + 1) _ (by omega) fun x => ?_
    rw [List.mem_append, List.mem_filter, decide_eq_true_eq, hh, show r + (i + 1) = (r + i) + 1 by omega, List.take_add (i := r + i) (j := 1), List.mem_append, List.take_succ_eq_append_getElem hi, List.mem_append, List.mem_singleton]
    refine ⟨fun z => ?_, fun ⟨z1, z2⟩ => ?_⟩
    · rcases z with ⟨⟨z1, z2⟩, z3⟩ | z
      · exact ⟨.inl z1, fun y => y.elim z2 z3⟩
      · refine ⟨.inr z, fun y => ?_⟩
        have hlt : r + i < ns.length := by
          refine Nat.lt_of_not_le fun q => ?_
          rw [List.drop_of_length_le q] at z
          cases z
        rw [List.drop_eq_getElem_cons hlt] at z
        obtain rfl := List.mem_singleton.mp z
        have hj : ∃ j, j ≤ i ∧ ws[j]? = some ns[r + i] := by
          rcases y with y | y
          · obtain ⟨j, hj, ej⟩ := List.getElem_of_mem y
            rw [List.length_take] at hj
            rw [List.getElem_take] at ej
            exact ⟨j, by omega, by rw [← ej]; exact List.getElem?_eq_getElem (by omega)⟩
          · exact ⟨i, Nat.le_refl _, by rw [y]; exact List.getElem?_eq_getElem hi⟩
        obtain ⟨j, hj, ej⟩ := hj
        obtain ⟨a, ha, ea⟩ := List.getElem_of_mem (hin j _ ej)
        rw [List.length_take] at ha
        rw [List.getElem_take] at ea
        have := (List.getElem_inj hd).mp ea
        omega
    · rcases z1 with z1 | z1
      · exact .inl ⟨⟨z1, fun y => z2 (.inl y)⟩, fun y => z2 (.inr y)⟩
      · exact .inr z1
theorem every_law {r : Nat} {ns ws : List Int} (hd : ns.Nodup) : ws ∈ everyL r ns ↔ ws.Perm ns ∧ ∀ (i : Nat) (k : Int), ws[i]? = some k → k ∈ ns.take (i + r) := by
  refine ⟨fun h => ⟨every_perm hd h, fun i k e => ?_⟩, fun ⟨hp, hin⟩ => every_iff.mpr ⟨hp.length_eq, ?_⟩⟩
  · have z := isW_in (every_iff.mp h).2 i k e
    rw [Nat.add_comm, List.take_add]
    exact z
  · have z := isW_of hd hp hin ws.length 0 (ns.take r) (by omega) fun x => by simp
    exact z
/-! levels that a dict tells -/
def lev (l : List (Int × Int)) (k : Int) : Int := ((l.find? fun p => decide (p.1 = k)).map (·.2)).getD 0
def someL (l : List (Int × Int)) (ns : List Int) (m : Nat) (k : Int) : List Int := (ns.take m).filter fun y => decide (lev l k ≤ lev l y) || (decide (lev l y = lev l k - 1) && decide (k < y))
def lvOkB (r : Nat) (ns : List Int) (l : List (Int × Int)) (m : Nat) : Bool := decide (lev l (ns.getD m 0) = 1) || decide (r ≤ (someL l ns m (ns.getD m 0)).length)
def lvB (r : Nat) (ns : List Int) (n : Nat) (l : List (Int × Int)) : Bool := decide ((l.map (·.1)).Perm ns) && (l.any (fun p => decide ((n : Int) < p.2)) && (l.all (fun p => decide (1 ≤ p.2)) && (List.range ns.length).all (lvOkB r ns l)))
theorem lev_mem : ∀ {l : List (Int × Int)} {p : Int × Int}, (l.map (·.1)).Nodup → p ∈ l → lev l p.1 = p.2
  | [], _, _, h => nomatch h
  | a :: l, p, hd, h => by
    have hd : (a.1 :: l.map (·.1)).Nodup := hd
    obtain ⟨h1, h2⟩ := List.nodup_cons.mp hd
    unfold lev
    by_cases e : a.1 = p.1
    · rw [List.find?_cons_of_pos (by rw [decide_eq_true e])]
      rcases List.mem_cons.mp h with z | z
      · rw [z]
        rfl
      · exact absurd (by rw [e]; exact List.mem_map.mpr ⟨p, z, rfl⟩) h1
    · rw [List.find?_cons_of_neg (by rw [decide_eq_true_eq]; exact e)]
      rcases List.mem_cons.mp h with z | z
      · exact absurd (by rw [z]) e
      · exact lev_mem h2 z
theorem lev_ex {l : List (Int × Int)} {k : Int} (hd : (l.map (·.1)).Nodup) (h : k ∈ l.map (·.1)) : (k, lev l k) ∈ l := by
  obtain ⟨p, hp, rfl⟩ := List.mem_map.mp h
  rw [lev_mem hd hp]
  exact hp
def dI (l : List (Int × Int)) : List (Key × V) := l.map fun p => (Sum.inl p.1, V.int p.2)
theorem dI_len (l : List (Int × Int)) : (dI l).length = l.length := by unfold dI; rw [List.length_map]
theorem dI_keys (l : List (Int × Int)) : (dI l).map (·.1) = (l.map (·.1)).map Sum.inl := by
  unfold dI
  rw [List.map_map, List.map_map]
  rfl
theorem dI_get {l : List (Int × Int)} {i : Nat} (h : i < l.length) : (dI l)[i]? = some (.inl l[i].1, .int l[i].2) := by
  unfold dI
  rw [List.getElem?_map, List.getElem?_eq_getElem h]
  rfl
theorem dI_at {l : List (Int × Int)} {i : Nat} {k : Key} {v : V} (h : (dI l)[i]? = some (k, v)) : ∃ hi : i < l.length, k = .inl l[i].1 ∧ v = .int l[i].2 := by
  have hi : i < l.length := Nat.lt_of_not_le fun z => by
    rw [List.getElem?_eq_none (by rw [dI_len]; exact z)] at h
    cases h
  rw [dI_get hi] at h
  obtain ⟨h1, h2⟩ := Prod.mk.inj (Option.some.inj h)
  exact ⟨hi, h1.symm, h2.symm⟩
theorem dI_ints (l : List (Int × Int)) : Dq.IntVs (dI l) := fun p hp => by
  unfold dI at hp
  obtain ⟨q, _, rfl⟩ := List.mem_map.mp hp
  exact ⟨q.2, rfl⟩
theorem dI_none : ∀ {l : List (Int × Int)} {k : Int}, k ∉ l.map (·.1) → valV (dI l) (.inl k) = none
  | [], _, _ => rfl
  | a :: l, k, h => by
    show valV ((Sum.inl a.1, V.int a.2) :: dI l) (.inl k) = none
    rw [valV_neg (fun z => h (by rw [← Sum.inl.inj z]; exact List.mem_cons_self))]
    exact dI_none fun z => h (List.mem_cons_of_mem _ z)
theorem dI_val : ∀ {l : List (Int × Int)} {k : Int}, k ∈ l.map (·.1) → valV (dI l) (.inl k) = some (.int (lev l k))
  | [], _, h => nomatch h
  | a :: l, k, h => by
    show valV ((Sum.inl a.1, V.int a.2) :: dI l) (.inl k) = _
    unfold lev
    by_cases e : a.1 = k
    · rw [valV_pos (by rw [e]), List.find?_cons_of_pos (by rw [decide_eq_true e])]
      rfl
    · rw [valV_neg (fun z => e (Sum.inl.inj z)), List.find?_cons_of_neg (by rw [decide_eq_true_eq]; exact e)]
      rcases List.mem_cons.mp h with z | z
      · exact absurd z.symm e
      · exact dI_val z
theorem dI_new {l : List (Int × Int)} {k v : Int} (h : k ∉ l.map (·.1)) : putK (dI l) (.inl k) (.int v) = dI (l ++ [(k, v)]) := by
  rw [putK_new _ (dI_none h)]
  unfold dI
  rw [List.map_append]
  rfl

end
end Tw

set_option Elab.async false
set_option linter.all false
set_option maxRecDepth 100000
set_option maxHeartbeats 2000000
namespace Tw
open PySem PySem.Spec PyProof.Rows L2
section
variable {P : Program} {w : World} {K : PySem.W.Frag} {mg : Str → Option Value} {base : Heap} {A : Ad}
open LamX (ExtN Tabs TabS)
abbrev Pr := Int × Str
def keys (ps : List Pr) : List Int := ps.map (·.1)
/-- a tuple of keys at an address -/
def RowAt (H : Hp) (v : V) (l : List Int) : Prop := ∃ t, v = .ref t ∧ H t = some (.tup (l.map V.int))
abbrev RowsAt (H : Hp) : List V → List (List Int) → Prop := Paired (RowAt H)
/-- a list or a tuple -/
def Sq (H : Hp) (a : Addr) (xs : List V) : Prop := H a = some (.lst xs) ∨ H a = some (.tup xs)
theorem b_gof (T : Tx K mg A) : L2.Binds K A.d_given_of ["room", "row", "number"] [] := T.F_given_of.binds fun _ _ _ _ _ _ us hl => match us, hl with | [_, _, _], _ => rfl
theorem b_iwB (T : Tx K mg A) : L2.Binds K A.d_is_way ["thing", "room", "given"] [] := T.F_is_way.binds fun _ _ _ _ _ _ us hl => match us, hl with | [_, _, _], _ => rfl
theorem b_ri (T : Tx K mg A) : L2.Binds K A.d_runs_in ["written"] [] := T.F_runs_in.binds fun _ _ _ _ _ _ us hl => match us, hl with | [_], _ => rfl
theorem b_cr (T : Tx K mg A) : L2.Binds K A.d_check_room ["room"] [] := T.F_check_room.binds fun _ _ _ _ _ _ us hl => match us, hl with | [_], _ => rfl
theorem b_io (T : Tx K mg A) : L2.Binds K A.d_input_of ["row"] [] := T.F_input_of.binds fun _ _ _ _ _ _ us hl => match us, hl with | [_], _ => rfl
theorem cst {x : Str} {n : Int} (h : mg x = some (.int n 0) ∨ ∃ t, mg x = some (.int n t)) : ∃ t, mg x = some (.int n t) := h.elim (fun e => ⟨0, e⟩) id
theorem b_is (T : Tx K mg A) : L2.Binds K A.d_is_integer ["thing"] [] := T.F_is_integer.binds fun _ _ _ _ _ _ us hl => match us, hl with | [_], _ => rfl
/-- True just for ints -/
def spIs (K : PySem.W.Frag) : Sp := fun vs H Q _ => ∃ x : V, vs = [x] ∧
  ((∃ i, x = .int i ∧ Q (.bl true) H) ∨ (∃ n b1 b2, TyX K H x (.type n) ∧ kitB n "int" = some b1 ∧ kitB n "bool" = some b2 ∧ (b1 && !b2) = false ∧ Q (.bl false) H))
theorem ok_is (T : Tx K mg A) : FnOk P w K mg base CX0 1 A.f_is_integer A.d_is_integer ["thing"] (spIs K) := by
  refine T.F_is_integer.ok sc_is_integer (fun vs H Q E h => ?_) (fun cdv B outer s H vs Q E hr h => ?_)
  · obtain ⟨x, rfl, _⟩ := h
    rfl
  · obtain ⟨x, rfl, h⟩ := h
    refine ⟨_, pss_one (ps_ret (pe_and (pe_callB call_isi (by rfl) T.g_isinstance (by decide +kernel) (pa_cons (pv 0) (pa_cons (pe_bltn (v := .ty "int") (by rfl) T.g_int (by decide +kernel) rfl) pa_nil)))
      (pe_one (pe_not (pe_callB call_isi (by rfl) T.g_isinstance (by decide +kernel) (pa_cons (pv 0) (pa_cons (pe_bltn (v := .ty "bool") (by rfl) T.g_bool (by decide +kernel) rfl) pa_nil))))))), ?_⟩
    rcases h with ⟨i, rfl, q⟩ | ⟨n, b1, b2, ty, k1, k2, hb, q⟩
    · refine ⟨_, rfl, _, _, .type "int", .type "int", true, rfl, .ty "int", .base (.int i), kit_ty (by decide +kernel), true, rfl, iteT ?_⟩
      exact ⟨_, rfl, _, _, .type "int", .type "bool", false, rfl, .ty "bool", .base (.int i), kit_ty (by decide +kernel), false, rfl, q⟩
    · refine ⟨_, rfl, _, _, .type n, .type "int", b1, rfl, .ty "int", ty, kit_ty k1, b1, rfl, ?_⟩
      cases b1 with
      | false => exact iteF q
      | true =>
        cases b2 with
        | false => cases hb
        | true => exact iteT ⟨_, rfl, _, _, .type n, .type "bool", true, rfl, .ty "bool", ty, kit_ty k2, true, rfl, q⟩
/-- True just for ints within; other things by their class -/
def spII (K : PySem.W.Frag) : Sp := fun vs H Q _ => ∃ (x : V) (a b : Int), vs = [x, .int a, .int b] ∧
  ((∃ i, x = .int i ∧ Q (.bl (decide (a ≤ i ∧ i ≤ b))) H) ∨ (∃ n b1 b2, TyX K H x (.type n) ∧ kitB n "int" = some b1 ∧ kitB n "bool" = some b2 ∧ (b1 && !b2) = false ∧ Q (.bl false) H))
theorem ok_ii (T : Tx K mg A) : FnOk P w K mg base CX0 2 A.f_is_integer_from A.d_is_integer_from ["thing", "least", "greatest"] (spII K) := by
  refine T.F_is_integer_from.ok sc_is_integer_from (fun vs H Q E h => ?_) (fun cdv B outer s H vs Q E hr h => ?_)
  · obtain ⟨x, a, b, rfl, _⟩ := h
    rfl
  · obtain ⟨x, a, b, rfl, h⟩ := h
    refine ⟨_, pss_one (ps_ret (pe_and (pe_call (ok_is T) hr (by rfl) T.m_is_integer T.F_is_integer.kp (b_is T) .nil pass0 (pa_cons (pv 0) pa_nil))
        (pe_one (pe_chain op_le op_le (pv 1) (pv 0) (pv 2))))), ?_⟩
    rcases h with ⟨i, rfl, q⟩ | h
    · refine ⟨_, rfl, _, rfl, .inl ⟨i, rfl, true, rfl, iteT ?_⟩⟩
      refine ⟨_, rfl, _, rfl, _, _, rfl, rfl, _, rfl, ?_⟩
      by_cases h1 : a ≤ i
      · rw [decide_eq_true h1]
        refine iteT ⟨_, rfl, _, _, rfl, rfl, ?_⟩
        have e : decide (a ≤ i ∧ i ≤ b) = decide (i ≤ b) := by simp [h1]
        rw [e] at q
        exact q
      · rw [decide_eq_false h1]
        have e : decide (a ≤ i ∧ i ≤ b) = false := by simp [h1]
        rw [e] at q
        exact iteF q
    · obtain ⟨n, b1, b2, ty, k1, k2, hb, q⟩ := h
      exact ⟨_, rfl, _, rfl, .inr ⟨n, b1, b2, ty, k1, k2, hb, false, rfl, iteF q⟩⟩
theorem b_ii (T : Tx K mg A) : L2.Binds K A.d_is_integer_from ["thing", "least", "greatest"] [] := T.F_is_integer_from.binds fun _ _ _ _ _ _ us hl => match us, hl with | [_, _, _], _ => rfl
def spCr : Sp := fun vs H Q _ => ∃ r : Nat, vs = [.int r] ∧ (1 ≤ r ∧ r ≤ 12) ∧ Q .non H
theorem ok_cr (T : Tx K mg A) : FnOk P w K mg base CX0 3 A.f_check_room A.d_check_room ["room"] spCr := by
  refine T.F_check_room.ok sc_check_room (fun vs H Q E h => ?_) (fun cdv B outer s H vs Q E hr h => ?_)
  · obtain ⟨r, rfl, _⟩ := h
    rfl
  · obtain ⟨r, rfl, hi, q⟩ := h
    obtain ⟨t, hg⟩ := cst T.c_MOST_ROOM
    refine ⟨_, (pss_one (ps_if (pt_not (pt_val (pe_call (ok_ii T) (hr.mono (by decide)) (by rfl) T.m_is_integer_from T.F_is_integer_from.kp (b_ii T) .nil pass0 (pa_cons (pv 0) (pa_cons pe_int (pa_cons (pe_glob (by rfl) hg (relI _ _)) pa_nil)))))) (pss_one ps_never) pss_nil)), ?_⟩
    refine ⟨_, rfl, _, _, _, rfl, .inl ⟨r, rfl, _, rfl, ?_⟩⟩
    rw [decide_eq_true (show (1 : Int) ≤ (r : Nat) ∧ ((r : Nat) : Int) ≤ 12 by omega)]
    exact iteF q
theorem b_key (T : Tx K mg A) : L2.Binds K A.d_is_key ["thing"] [] := T.F_is_key.binds fun _ _ _ _ _ _ us hl => match us, hl with | [_], _ => rfl
/-- is_key of an int -/
def spKey : Sp := fun vs H Q _ => ∃ i : Int, vs = [.int i] ∧ Q (.bl (decide (-1000000000 ≤ i ∧ i ≤ 1000000000))) H
theorem ok_key (T : Tx K mg A) : FnOk P w K mg base CX0 3 A.f_is_key A.d_is_key ["thing"] spKey := by
  refine T.F_is_key.ok sc_is_key (fun vs H Q E h => ?_) (fun cdv B outer s H vs Q E hr h => ?_)
  · obtain ⟨i, rfl, _⟩ := h
    rfl
  · obtain ⟨i, rfl, q⟩ := h
    obtain ⟨t, hg⟩ := cst T.c_GREATEST_KEY
    refine ⟨_, pss_one (ps_ret (pe_call (ok_ii T) hr (by rfl) T.m_is_integer_from T.F_is_integer_from.kp (b_ii T) .nil pass0
      (pa_cons (pv 0) (pa_cons (pe_un un_neg (pe_glob (by rfl) hg (relI _ _))) (pa_cons (pe_glob (by rfl) hg (relI _ _)) pa_nil))))), ?_⟩
    exact ⟨_, rfl, _, rfl, _, _, _, rfl, .inl ⟨i, rfl, q⟩⟩
theorem Sq.same {H H' : Hp} {a : Addr} {xs : List V} (h : Sq H a xs) (s : Same H H') : Sq H' a xs := h.elim (fun e => .inl (s _ _ e)) fun e => .inr (s _ _ e)
theorem Sq.len {K : PySem.W.Frag} {H : Hp} {a : Addr} {xs : List V} (h : Sq H a xs) : SqL K H a xs ∨ SqT K H a xs := h.elim (fun e => .inl (SqL.of e)) fun e => .inr (SqT.of e)
/-- keys go in, a tuple of them comes out -/
def spRow (K : PySem.W.Frag) : Sp := fun vs H Q _ => ∃ (a : Addr) (ns : List Int), vs = [.ref a] ∧ Sq H a (ns.map V.int) ∧ ns.length ≤ 12 ∧ (∀ n ∈ ns, -1000000000 ≤ n ∧ n ≤ 1000000000) ∧
  ∀ H' p, Same H H' → H' p = some (.tup (ns.map V.int)) → Q (.ref p) H'
theorem ok_row (T : Tx K mg A) : FnOk P w K mg base CX0 4 A.f_row_of A.d_row_of ["row"] (spRow K) := by
  refine T.F_row_of.ok sc_row_of (fun vs H Q E h => ?_) (fun cdv B outer s H vs Q E hr h => ?_)
  · obtain ⟨a, ns, rfl, _⟩ := h
    rfl
  · obtain ⟨a, ns, rfl, ha, hl, hk, q⟩ := h
    obtain ⟨t, hg⟩ := cst T.c_MOST_PLACES
    refine ⟨_, pss_cons (ps_if (PW.pt (pw_or (pt_not (pt_val (pe_callB call_isiT (by rfl) T.g_isinstance (by decide +kernel) (pa_cons (pv 0) (pa_cons (pe_tup (pa_cons (pe_bltn (v := .ty "list") (by rfl) T.g_list (by decide +kernel) rfl) (pa_cons (pe_bltn (v := .ty "tuple") (by rfl) T.g_tuple (by decide +kernel) rfl) pa_nil))) pa_nil)))))
        (pw_or1 (pt_cmpR op_gt (pe_callB call_len_seq (by rfl) T.g_len PySem.boot_len (pa_cons (pv 0) pa_nil)) (pe_glob (by rfl) hg (relI _ _)) (nomark _))))) (pss_one ps_never) pss_nil)
      (C8.pss_cut (ps_for PassesOwn.never rfl (pi_enS (by rfl) T.g_enumerate (pa_cons (pv 0) pa_nil)) (pg_tup rfl (pgs_cons (pg_name (i := 1) sc_row_of.nd rfl (Or.inl rfl)) (pgs_cons (pg_name (i := 2) sc_row_of.nd rfl (Or.inl rfl)) pgs_nil)))
        (pss_one (ps_if (pt_not (pt_val (pe_call (ok_key T) hr (by rfl) T.m_is_key T.F_is_key.kp (b_key T) .nil pass0 (pa_cons (pv 2) pa_nil)))) (pss_one ps_never) pss_nil)))
      (pss_one (ps_ret (pe_callTy call_tuple_of (by rfl) T.g_tuple (by decide +kernel) (pa_cons (pv 0) pa_nil))))), ?_⟩
    refine ⟨_, rfl, by show 2 ≤ sizeLine; decide, fun tp htp => ?_⟩
    have ha1 : Sq (upd H tp (.tup [.ty "list", .ty "tuple"])) a (ns.map V.int) := ha.same (Same.up htp)
    have isi : ∃ c b1, TyX K (upd H tp (.tup [.ty "list", .ty "tuple"])) (.ref a) (.type c) ∧ PySem.W.kitOne K (.type c) (.type "list") = some b1 ∧ (b1 = false → PySem.W.kitOne K (.type c) (.type "tuple") = some true) := by
      rcases ha1 with h | h
      · exact ⟨"list", true, .base (.lst h), kit_ty (by decide +kernel), fun z => by cases z⟩
      · exact ⟨"tuple", false, .base (.tup h), kit_ty (by decide +kernel), fun _ => kit_ty (by decide +kernel)⟩
    obtain ⟨c, b1, ty, k1, k2⟩ := isi
    refine ⟨_, tp, _, .type c, [.type "list", .type "tuple"], true, rfl, upd_same, .cons (.ty _) (.cons (.ty _) .nil), ty, kitAny_cons k1 (fun z => kitAny_cons (k2 z) (fun z => by cases z) (fun _ => rfl)) (fun _ => rfl), true, rfl, ?_⟩
    refine iteF ⟨_, rfl, a, _, rfl, ha1.len, _, _, rfl, rfl, _, rfl, ite2 (fun z => ?_) (fun _ => ?_)⟩
    · exfalso
      rw [List.length_map] at z
      have := of_decide_eq_true z
      omega
    refine ⟨fun σ H' => ∃ z y, σ = [some (.ref a), z, y] ∧ Same H H', ?_, ?_⟩
    · rcases ha with ha | ha
      · refine ⟨_, rfl, a, _, rfl, .inl ⟨SqL.of ((Same.up htp) _ _ ha), for_it (walk_enum (xs := ns.map V.int)) (fun i σ H' => ∃ z y, σ = [some (.ref a), z, y] ∧ Same H H') ⟨none, none, rfl, Same.up htp⟩ (fun i σ H' _ ⟨_, _, _, s⟩ => SqL.of (s _ _ ha)) ?_ ?_⟩⟩
        · rintro i v σ H2 H3 hi ⟨z, y, rfl, s⟩ ⟨T', x, x2, rfl, hT, rfl, e1, e2⟩
          obtain ⟨hi', rfl⟩ := ints_at e2
          cases e1
          refine ⟨_, _, rfl, SqT.of upd_same, rfl, _, _, rfl, _, _, rfl, rfl, ?_⟩
          refine ⟨_, rfl, _, rfl, _, rfl, ?_⟩
          rw [decide_eq_true (hk _ (List.getElem_mem hi'))]
          exact iteF ⟨_, _, rfl, s.trans (Same.up hT)⟩
        · rintro σ H2 ⟨z, y, rfl, s⟩
          exact ⟨_, _, rfl, s⟩
      · refine ⟨_, rfl, a, _, rfl, .inr ⟨SqT.of ((Same.up htp) _ _ ha), for_it (walk_enumT (xs := ns.map V.int)) (fun i σ H' => ∃ z y, σ = [some (.ref a), z, y] ∧ Same H H') ⟨none, none, rfl, Same.up htp⟩ (fun i σ H' _ ⟨_, _, _, s⟩ => SqT.of (s _ _ ha)) ?_ ?_⟩⟩
        · rintro i v σ H2 H3 hi ⟨z, y, rfl, s⟩ ⟨T', x, x2, rfl, hT, rfl, e1, e2⟩
          obtain ⟨hi', rfl⟩ := ints_at e2
          cases e1
          refine ⟨_, _, rfl, SqT.of upd_same, rfl, _, _, rfl, _, _, rfl, rfl, ?_⟩
          refine ⟨_, rfl, _, rfl, _, rfl, ?_⟩
          rw [decide_eq_true (hk _ (List.getElem_mem hi'))]
          exact iteF ⟨_, _, rfl, s.trans (Same.up hT)⟩
        · rintro σ H2 ⟨z, y, rfl, s⟩
          exact ⟨_, _, rfl, s⟩
    · rintro σ H2 ⟨z, y, rfl, s⟩
      rcases ha with ha | ha
      · exact ⟨_, rfl, a, _, rfl, .inl ⟨SqL.of (s _ _ ha), fun p hp => q _ _ (s.trans (Same.up hp)) upd_same⟩⟩
      · exact ⟨_, rfl, a, _, rfl, .inr ⟨SqT.of (s _ _ ha), q _ _ s (s _ _ ha)⟩⟩
theorem b_row (T : Tx K mg A) : L2.Binds K A.d_row_of ["row"] [] := T.F_row_of.binds fun _ _ _ _ _ _ us hl => match us, hl with | [_], _ => rfl
theorem icut (p : List Int) (i : Nat) : cutV (p.map V.int) none (some (i : Int)) = (p.take i).map V.int := by
  unfold cutV
  rw [HT.sIx_none, HT.sIx_nat, List.drop_zero, Nat.sub_zero, List.length_map, List.map_take]
  by_cases h : i ≤ p.length
  · rw [Nat.min_eq_left h]
  · rw [List.take_of_length_le (show (p.map V.int).length ≤ min i p.length by rw [List.length_map]; omega), List.take_of_length_le (show (p.map V.int).length ≤ i by rw [List.length_map]; omega)]
theorem inV_ints (m : Int) : ∀ p : List Int, inV (V.int m) (p.map V.int) = decide (m ∈ p)
  | [] => by simp [inV]
  | a :: p => by
    have ih := inV_ints m p
    unfold inV at ih ⊢
    show (eqV (V.int a) (V.int m) || (p.map V.int).any fun y => eqV y (V.int m)) = _
    rw [ih]
    by_cases h : m = a
    · subst h
      rw [show eqV (V.int m) (V.int m) = true from decide_eq_true rfl, Bool.true_or, decide_eq_true List.mem_cons_self]
    · rw [show eqV (V.int a) (V.int m) = false from decide_eq_false (fun z => h z.symm), Bool.false_or]
      exact decide_eq_decide.mpr ⟨fun z => List.mem_cons_of_mem _ z, fun z => (List.mem_cons.mp z).resolve_left h⟩
theorem ints_flat : ∀ p : List Int, (p.map V.int).all flatV = true
  | [] => rfl
  | a :: p => by
    show (flatV (V.int a) && (p.map V.int).all flatV) = true
    rw [ints_flat p]
    rfl
def spCd : Sp := fun vs H Q _ => ∃ (a : Addr) (ns : List Int), vs = [.ref a] ∧ H a = some (.tup (ns.map V.int)) ∧ ns.Nodup ∧ ∀ H', Same H H' → Q .non H'
theorem ok_cd (T : Tx K mg A) : FnOk P w K mg base CX0 1 A.f_check_different A.d_check_different ["keys"] spCd := by
  refine T.F_check_different.ok sc_check_different (fun vs H Q E h => ?_) (fun cdv B outer s H vs Q E hr h => ?_)
  · obtain ⟨a, ns, rfl, _⟩ := h
    rfl
  · obtain ⟨a, ns, rfl, ha, hd, q⟩ := h
    have nd := sc_check_different.nd
    refine ⟨_, (pss_one (ps_for PassesOwn.never rfl (pi_enS (by rfl) T.g_enumerate (pa_cons (pv 0) pa_nil)) (pg_tup rfl (pgs_cons (pg_name (i := 1) nd rfl (Or.inl rfl)) (pgs_cons (pg_name (i := 2) nd rfl (Or.inl rfl)) pgs_nil))) (pss_one (ps_if (pt_cmpR (r := L2.rIn K false) op_in_seq (pv 2) (pe_slice (r := rSlT K) sl_tup (pv 0) po_none (po_some (pv 1))) (by rfl)) (pss_one ps_never) pss_nil)))), ?_⟩
    refine ⟨_, rfl, a, _, rfl, .inr ⟨SqT.of ha, for_it (walk_enumT (xs := ns.map V.int)) (fun i σ H' => ∃ z y, σ = [some (.ref a), z, y] ∧ Same H H') ⟨none, none, rfl, Same.refl _⟩ (fun i σ H' _ ⟨_, _, _, s⟩ => SqT.of (s _ _ ha)) ?_ ?_⟩⟩
    · rintro i v σ H2 H3 hi ⟨z, y, rfl, s⟩ ⟨T', x, x2, rfl, hT, rfl, e1, e2⟩
      obtain ⟨hi', rfl⟩ := ints_at e2
      cases e1
      have s3 := s.trans (Same.up (o := .tup [V.int (i : Nat), V.int ns[i]]) hT)
      refine ⟨_, _, rfl, SqT.of upd_same, rfl, _, _, rfl, _, _, rfl, rfl, ?_⟩
      generalize upd H2 T' (.tup [V.int (i : Nat), V.int ns[i]]) = G at s3
      refine ⟨_, rfl, _, rfl, _, rfl, _, rfl, a, _, rfl, SqT.of (s3 _ _ ha), (fun z => by have z2 := z.2; rw [HT.sIx_nat, List.length_map] at z2; omega), fun p2 hp2 => ?_⟩
      rw [icut]
      refine ⟨p2, _, rfl, .inr (SqT.of upd_same), rfl, ints_flat _, _, rfl, ?_⟩
      rw [if_neg Bool.false_ne_true, inV_ints]
      have hn : ns[i] ∉ ns.take i := fun hm => by
        have := hd
        rw [← List.take_append_drop i ns, List.drop_eq_getElem_cons hi'] at this
        exact (List.nodup_append.mp this).2.2 _ hm _ List.mem_cons_self rfl
      rw [decide_eq_false hn]
      exact iteF ⟨_, _, rfl, s3.trans (Same.up hp2)⟩
    · rintro σ H2 ⟨z, y, rfl, s⟩
      exact q _ s
theorem b_cd (T : Tx K mg A) : L2.Binds K A.d_check_different ["keys"] [] := T.F_check_different.binds fun _ _ _ _ _ _ us hl => match us, hl with | [_], _ => rfl
def spIo (K : PySem.W.Frag) : Sp := fun vs H Q _ => ∃ (a : Addr) (ns : List Int), vs = [.ref a] ∧ Sq H a (ns.map V.int) ∧ KeysIn ns ∧ ∀ H' p, Same H H' → H' p = some (.tup (ns.map V.int)) → Q (.ref p) H'
theorem ok_io (T : Tx K mg A) : FnOk P w K mg base CX0 5 A.f_input_of A.d_input_of ["row"] (spIo K) := by
  refine T.F_input_of.ok sc_input_of (fun vs H Q E h => ?_) (fun cdv B outer s H vs Q E hr h => ?_)
  · obtain ⟨a, ns, rfl, _⟩ := h
    rfl
  · obtain ⟨a, ns, rfl, ha, ⟨h12, hb, hd⟩, q⟩ := h
    have nd := sc_input_of.nd
    refine ⟨_, (pss_cons (ps_set (i := 1) nd rfl (Or.inl rfl) (pe_call (ok_row T) (hr.mono (by decide)) (by rfl) T.m_row_of T.F_row_of.kp (b_row T) .nil pass0 (pa_cons (pv 0) pa_nil)))
      (pss_cons (ps_expr (pe_call (ok_cd T) (hr.mono (by decide)) (by rfl) T.m_check_different T.F_check_different.kp (b_cd T) .nil pass0 (pa_cons (pv 1) pa_nil)))
      (pss_one (ps_ret (pv 1))))), ?_⟩
    refine ⟨_, rfl, a, ns, rfl, ha, h12, hb, fun H1 p s1 ep => ?_⟩
    exact ⟨_, rfl, p, ns, rfl, ep, hd, fun H2 s2 => ⟨_, rfl, q _ p (s1.trans s2) (s2 _ _ ep)⟩⟩
def spCn : Sp := fun vs H Q _ => ∃ n : Nat, vs = [.int n] ∧ Q .non H
theorem ok_cn (T : Tx K mg A) : FnOk P w K mg base CX0 3 A.f_check_number A.d_check_number ["number"] spCn := by
  refine T.F_check_number.ok sc_check_number (fun vs H Q E h => ?_) (fun cdv B outer s H vs Q E hr h => ?_)
  · obtain ⟨n, rfl, _⟩ := h
    rfl
  · obtain ⟨n, rfl, q⟩ := h
    have nd := sc_check_number.nd
    refine ⟨_, PSs.nox (pss_one (ps_if (PW.pt (pw_or (pt_not (pt_val (pe_call (ok_is T) (hr.mono (by decide)) (by rfl) T.m_is_integer T.F_is_integer.kp (b_is T) .nil pass0 (pa_cons (pv 0) pa_nil)))) (pw_or1 (pt_cmpR op_lt (pv 0) pe_int (nomark _))))) (pss_one ps_never) pss_nil)), ?_⟩
    refine ⟨_, rfl, _, rfl, .inl ⟨_, rfl, _, rfl, ?_⟩⟩
    refine iteF ⟨_, rfl, _, _, rfl, rfl, _, rfl, ?_⟩
    rw [decide_eq_false (by omega)]
    exact iteF q
theorem b_cn (T : Tx K mg A) : L2.Binds K A.d_check_number ["number"] [] := T.F_check_number.binds fun _ _ _ _ _ _ us hl => match us, hl with | [_], _ => rfl
def spGof (K : PySem.W.Frag) : Sp := fun vs H Q _ => ∃ (r a n : Nat) (ns : List Int), vs = [.int r, .ref a, .int n] ∧ (1 ≤ r ∧ r ≤ 12) ∧ Sq H a (ns.map V.int) ∧ KeysIn ns ∧ ∀ (H' : Hp) (p : Addr), Same H H' → H' p = some (.tup (ns.map V.int)) → Q (.ref p) H'
theorem ok_gof (T : Tx K mg A) : FnOk P w K mg base CX0 6 A.f_given_of A.d_given_of ["room", "row", "number"] (spGof K) := by
  refine T.F_given_of.ok sc_given_of (fun vs H Q E h => ?_) (fun cdv B outer s H vs Q E hr h => ?_)
  · obtain ⟨r, a, n, ns, rfl, _⟩ := h
    rfl
  · obtain ⟨r, a, n, ns, rfl, hr1, ha, hk, q⟩ := h
    have nd := sc_given_of.nd
    refine ⟨_, PSs.nox (C8.pss_cut (ps_expr (pe_call (ok_cr T) (hr.mono (by decide)) (by rfl) T.m_check_room T.F_check_room.kp (b_cr T) .nil pass0 (pa_cons (pv 0) pa_nil)))
      (C8.pss_cut (ps_set (i := 3) nd rfl (Or.inl rfl) (pe_call (ok_io T) (hr.mono (by decide)) (by rfl) T.m_input_of T.F_input_of.kp (b_io T) .nil pass0 (pa_cons (pv 1) pa_nil)))
      (C8.pss_cut (ps_expr (pe_call (ok_cn T) (hr.mono (by decide)) (by rfl) T.m_check_number T.F_check_number.kp (b_cn T) .nil pass0 (pa_cons (pv 2) pa_nil)))
      (pss_one (ps_ret (pv 3)))))), ?_⟩
    refine ⟨fun σ' H' => σ' = [some (.int r), some (.ref a), some (.int n), none] ∧ H' = H, ⟨_, rfl, r, rfl, hr1, rfl, rfl⟩, ?_⟩
    rintro σ' Hx ⟨rfl, ex⟩
    obtain rfl := ex.symm
    refine ⟨fun σ' H' => ∃ p : Addr, σ' = [some (.int r), some (.ref a), some (.int n), some (.ref p)] ∧ Same H H' ∧ H' p = some (.tup (ns.map V.int)), ⟨_, rfl, a, ns, rfl, ha, hk, fun H1 p s1 ep => ⟨p, rfl, s1, ep⟩⟩, ?_⟩
    rintro σ' H1 ⟨p, rfl, s1, ep⟩
    refine ⟨fun σ' H' => σ' = [some (.int r), some (.ref a), some (.int n), some (.ref p)] ∧ H' = H1, ⟨_, rfl, n, rfl, rfl, rfl⟩, ?_⟩
    rintro σ' Hx ⟨rfl, ex⟩
    obtain rfl := ex.symm
    exact ⟨_, rfl, q _ p s1 ep⟩
/-- whether a row is a way, key by key -/
def wayB : List Int → List Int → List Int → Bool
  | _, _, [] => true
  | h, rest, k :: w => decide (k ∈ h) && wayB (h.erase k ++ rest.take 1) (rest.drop 1) w
theorem wayB_iff : ∀ {w h rest : List Int}, (h ++ rest).Nodup → rest.length ≤ w.length → (wayB h rest w = true ↔ IsW h rest w)
  | [], h, rest, _, hl => by
    rw [List.length_eq_zero_iff.mp (Nat.le_zero.mp hl)]
    exact ⟨fun _ => .nil, fun _ => rfl⟩
  | k :: w, h, rest, hd, hl => by
    have h0 := List.nodup_append.mp hd
    have ht : rest.take 1 ++ rest.drop 1 = rest := List.take_append_drop 1 rest
    have hl2 : (rest.drop 1).length ≤ w.length := by
      rw [List.length_drop]
      rw [List.length_cons] at hl
      omega
    show (decide (k ∈ h) && wayB (h.erase k ++ rest.take 1) (rest.drop 1) w) = true ↔ _
    rw [Bool.and_eq_true, decide_eq_true_eq]
    have nd : ((h.erase k ++ rest.take 1) ++ rest.drop 1).Nodup := by
      rw [List.append_assoc, ht]
      exact hd.sublist ((List.erase_sublist).append_right rest)
    refine ⟨fun ⟨a, b⟩ => ?_, fun z => ?_⟩
    · refine .cons a ?_
      rw [filter_erase h0.1]
      exact (wayB_iff nd hl2).mp b
    · cases z with
      | cons hk ih =>
        rw [filter_erase h0.1] at ih
        exact ⟨hk, (wayB_iff nd hl2).mpr ih⟩
theorem wayB_every {r : Nat} {ns w : List Int} (hd : ns.Nodup) : (decide (w.length = ns.length) && wayB (ns.take r) (ns.drop r) w) = decide (w ∈ everyL r ns) := by
  rw [Bool.eq_iff_iff, Bool.and_eq_true, decide_eq_true_eq, decide_eq_true_eq, every_iff]
  refine and_congr_right fun h => wayB_iff (by rw [List.take_append_drop]; exact hd) (by rw [List.length_drop]; omega)
theorem icut2 (p : List Int) (i j : Nat) (h : i ≤ j) : cutV (p.map V.int) (some (i : Int)) (some (j : Int)) = ((p.drop i).take (j - i)).map V.int := by
  unfold cutV
  rw [HT.sIx_nat, HT.sIx_nat, List.length_map]
  by_cases h1 : i ≤ p.length
  · rw [Nat.min_eq_left h1, List.map_take, List.map_drop]
    by_cases h2 : j ≤ p.length
    · rw [Nat.min_eq_left h2]
    · rw [Nat.min_eq_right (by omega), List.take_of_length_le (by rw [List.length_drop, List.length_map]; exact Nat.le_refl _), List.take_of_length_le (by rw [List.length_drop, List.length_map]; omega)]
  · rw [show (p.map V.int).drop (min i p.length) = [] from List.drop_of_length_le (by rw [List.length_map]; omega), List.drop_of_length_le (show p.length ≤ i by omega)]
    simp
theorem cut_next (ns : List Int) (r i : Nat) : cutV (ns.map V.int) (some ((r : Int) + (i : Int))) (some ((r : Int) + (i : Int) + 1)) = ((ns.drop (r + i)).take 1).map V.int := by
  rw [show ((r : Int) + (i : Int)) = ((r + i : Nat) : Int) by omega, show (((r + i : Nat) : Int) + 1) = ((r + i + 1 : Nat) : Int) by omega, icut2 _ _ _ (by omega), show r + i + 1 - (r + i) = 1 by omega]
theorem not_whole {ns : List Int} {r i : Nat} {hi : Option Int} (hr : 1 ≤ r) (hl : 0 < ns.length) : ¬ (HT.sIx (ns.map V.int).length 0 (some ((r : Int) + (i : Int))) = 0 ∧ HT.sIx (ns.map V.int).length (ns.map V.int).length hi = (ns.map V.int).length) := fun z => by
  have z1 := z.1
  rw [show ((r : Int) + (i : Int)) = ((r + i : Nat) : Int) by omega, HT.sIx_nat, List.length_map] at z1
  omega
theorem pos_of_mem {u : Int} : ∀ {l : List Int}, u ∈ l → ∃ j, l[j]? = some u ∧ (∀ m : Nat, m < j → l[m]? ≠ some u) ∧ l.eraseIdx j = l.erase u
  | [], h => nomatch h
  | a :: l, h => by
    by_cases e : a = u
    · subst e
      exact ⟨0, rfl, fun m hm => absurd hm (Nat.not_lt_zero _), (List.erase_cons_head ..).symm⟩
    · have hm : u ∈ l := by
        rcases List.mem_cons.mp h with y | y
        · exact absurd y.symm e
        · exact y
      obtain ⟨j, h1, h2, h3⟩ := pos_of_mem hm
      refine ⟨j + 1, h1, fun m hm => ?_, ?_⟩
      · cases m with
        | zero =>
          intro z
          exact e (Option.some.inj z)
        | succ m => exact h2 m (by omega)
      · rw [List.erase_cons_tail (by simpa using e), ← h3]
        rfl
theorem whole_take {ns : List Int} {r : Nat} (z : HT.sIx (ns.map V.int).length 0 none = 0 ∧ HT.sIx (ns.map V.int).length (ns.map V.int).length (some (r : Int)) = (ns.map V.int).length) : ns.take r = ns := by
  have z2 := z.2
  rw [HT.sIx_nat, List.length_map] at z2
  exact List.take_of_length_le (by omega)
theorem seq_isi {K : PySem.W.Frag} {H : Hp} {a : Addr} {xs : List V} (h : Sq H a xs) : ∃ c b1, TyX K H (.ref a) (.type c) ∧ PySem.W.kitOne K (.type c) (.type "list") = some b1 ∧ (b1 = false → PySem.W.kitOne K (.type c) (.type "tuple") = some true) := by
  rcases h with h | h
  · exact ⟨"list", true, .base (.lst h), kit_ty (by decide +kernel), fun z => by cases z⟩
  · exact ⟨"tuple", false, .base (.tup h), kit_ty (by decide +kernel), fun _ => kit_ty (by decide +kernel)⟩
def spIwB : Sp := fun vs H Q _ => ∃ (t r g : Nat) (ns ws : List Int), vs = [.ref t, .int r, .ref g] ∧ 1 ≤ r ∧ r ≤ 12 ∧ H g = some (.tup (ns.map V.int)) ∧ KeysIn ns ∧ Sq H t (ws.map V.int) ∧ ∀ H' : Hp, Same H H' → Q (.bl (decide (ws ∈ everyL r ns))) H'
theorem ok_iwB (T : Tx K mg A) : FnOk P w K mg base CX0 4 A.f_is_way A.d_is_way ["thing", "room", "given"] spIwB := by
  refine T.F_is_way.ok sc_is_way (fun vs H Q E h => ?_) (fun cdv B outer s H vs Q E hr h => ?_)
  · obtain ⟨t, r, g, ns, ws, rfl, _⟩ := h
    rfl
  · obtain ⟨t, r, g, ns, ws, rfl, hr1, hr12, hg, ⟨h12, hkb, hdn⟩, ht, q⟩ := h
    have nd := sc_is_way.nd
    refine ⟨_, (pss_cons (ps_if (PW.pt (pw_or (pt_not (pt_val (pe_callB call_isiT (by rfl) T.g_isinstance (by decide +kernel) (pa_cons (pv 0) (pa_cons (pe_tup (pa_cons (pe_bltn (v := .ty "list") (by rfl) T.g_list (by decide +kernel) rfl) (pa_cons (pe_bltn (v := .ty "tuple") (by rfl) T.g_tuple (by decide +kernel) rfl) pa_nil))) pa_nil))))) (pw_or1 (pt_cmpR op_ne (pe_callB call_len_seq (by rfl) T.g_len PySem.boot_len (pa_cons (pv 0) pa_nil)) (pe_callB call_len_seq (by rfl) T.g_len PySem.boot_len (pa_cons (pv 2) pa_nil)) (nomark _))))) (pss_one (ps_ret pe_bl)) pss_nil)
      (C8.pss_cut (ps_set (i := 3) nd rfl (Or.inl rfl) (pe_callTy call_list_of (by rfl) T.g_list (by decide +kernel) (pa_cons (pe_slice (r := rSlA K) sl_tupA (pv 2) po_none (po_some (pv 1))) pa_nil)))
      (C8.pss_cut (ps_for PassesOwn.never rfl (pi_enS (by rfl) T.g_enumerate (pa_cons (pv 0) pa_nil)) (pg_tup rfl (pgs_cons (pg_name (i := 4) nd rfl (Or.inl rfl)) (pgs_cons (pg_name (i := 5) nd rfl (Or.inl rfl)) pgs_nil))) (pss_cons (ps_if (PW.pt (pw_or (pt_not (pt_val (pe_call (ok_key T) (hr.mono (by decide)) (by rfl) T.m_is_key T.F_is_key.kp (b_key T) .nil pass0 (pa_cons (pv 5) pa_nil)))) (pw_or1 (pt_cmpR (r := L2.rIn K true) op_notIn_seq (pv 5) (pv 3) (by rfl))))) (pss_one (ps_ret pe_bl)) pss_nil)
      (C8.pss_cut (ps_expr (pe_bm PySem.F.plainAttrs_list PySem.F.slot_list_remove PySem.F.type_list_remove mt_remove (pv 3) (pa_cons (pv 5) pa_nil)))
      (pss_one (ps_expr (pe_bm PySem.F.plainAttrs_list PySem.F.slot_list_extend PySem.F.type_list_extend mt_extend (pv 3) (pa_cons (pe_callTy call_list_of (by rfl) T.g_list (by decide +kernel) (pa_cons (pe_slice (r := rSlT K) sl_tup (pv 2) (po_some (pe_op op_add (pv 1) (pv 4))) (po_some (pe_op op_add (pe_op op_add (pv 1) (pv 4)) pe_int))) pa_nil)) pa_nil)))))))
      (pss_one (ps_ret pe_bl))))), ?_⟩
    refine ⟨_, rfl, by show 2 ≤ sizeLine; decide, fun tp htp => ?_⟩
    have s1 := Same.up (o := .tup [.ty "list", .ty "tuple"]) htp
    have ht1 := ht.same s1
    have hg1 := s1 _ _ hg
    obtain ⟨c, b1, ty, k1, k2⟩ := seq_isi (K := K) ht1
    refine ⟨_, tp, _, .type c, [.type "list", .type "tuple"], true, rfl, upd_same, .cons (.ty _) (.cons (.ty _) .nil), ty, kitAny_cons k1 (fun z => kitAny_cons (k2 z) (fun z => by cases z) (fun _ => rfl)) (fun _ => rfl), true, rfl, ?_⟩
    refine iteF ⟨_, rfl, t, _, rfl, ht1.len, _, rfl, g, _, rfl, .inr (SqT.of hg1), rfl, _, rfl, ?_⟩
    rw [List.length_map, List.length_map]
    by_cases hlen : ws.length = ns.length
    case neg =>
      refine ite_b (c := true) (by rw [decide_eq_false (fun z => hlen (by injection z with z; omega))]; rfl) (iteT ?_)
      have z := q _ s1
      rw [← wayB_every hdn, decide_eq_false hlen, Bool.false_and] at z
      exact z
    refine ite_b (c := false) (by rw [hlen, decide_eq_true rfl]; rfl) (iteF ?_)
    generalize upd H tp (.tup [.ty "list", .ty "tuple"]) = G at s1 ht1 hg1
    refine ⟨fun σ' H' => ∃ h : Addr, σ' = [some (.ref t), some (.int r), some (.ref g), some (.ref h), none, none] ∧ Same G H' ∧ G h = none ∧ H' h = some (.lst ((ns.take r).map V.int)), ?_, ?_⟩
    · refine ⟨_, rfl, _, rfl, _, rfl, g, _, rfl, SqT.of hg1, fun z => ?_, fun z p np => ?_⟩
      · refine ⟨g, _, rfl, .inr (SqT.of hg1), fun h nh => ⟨h, rfl, Same.up nh, nh, ?_⟩⟩
        rw [upd_same, whole_take z]
      · rw [icut]
        refine ⟨p, _, rfl, .inr (SqT.of upd_same), fun h nh => ⟨h, rfl, (Same.up np).trans (Same.up nh), (Same.up np).free nh, upd_same⟩⟩
    rintro σ' H1 ⟨h, rfl, s2, nh, eh⟩
    refine ⟨fun σ' H' => ∃ x4 x5 : Option V, σ' = [some (.ref t), some (.int r), some (.ref g), some (.ref h), x4, x5] ∧ Same G H' ∧ wayB (ns.take r) (ns.drop r) ws = true, ?_, ?_⟩
    · rcases id ht1 with h1 | h1
      · refine ⟨_, rfl, t, _, rfl, .inl ⟨SqL.of (s2 _ _ h1), for_it (walk_enum (xs := ws.map V.int)) (fun i σ' H' => (∃ x4 x5 : Option V, σ' = [some (.ref t), some (.int r), some (.ref g), some (.ref h), x4, x5]) ∧ Same G H' ∧ ∃ hd : List Int, H' h = some (.lst (hd.map V.int)) ∧ (∀ x ∈ hd, x ∈ ns) ∧ hd.length ≤ 12 ∧ wayB (ns.take r) (ns.drop r) ws = wayB hd (ns.drop (r + i)) (ws.drop i)) ⟨⟨none, none, rfl⟩, s2, ns.take r, eh, fun x hx => List.mem_of_mem_take hx, by rw [List.length_take]; omega, rfl⟩ (fun i σ' H' _ hh => SqL.of (hh.2.1 _ _ h1)) ?_ ?_⟩⟩
        · rintro i v σ' H2 H3 hi ⟨⟨x4, x5, rfl⟩, s3, hd, e3, hsub, hdl, hway⟩ ⟨T', x, x2, rfl, hT, rfl, e1, e2⟩
          rw [List.length_map] at hi
          obtain ⟨hi', rfl⟩ := ints_at e2
          cases e1
          rw [List.drop_eq_getElem_cons hi'] at hway
          have hway : _ = (decide (ws[i] ∈ hd) && wayB (hd.erase ws[i] ++ (ns.drop (r + i)).take 1) ((ns.drop (r + i)).drop 1) (ws.drop (i + 1))) := hway
          rw [List.drop_drop] at hway
          generalize ws[i] = k at *
          have s4 := s3.trans (Same.up (o := .tup [V.int (i : Nat), V.int k]) hT)
          have e4 := (Same.up (o := .tup [V.int (i : Nat), V.int k]) hT) _ _ e3
          refine ⟨_, _, rfl, SqT.of upd_same, rfl, _, _, rfl, _, _, rfl, rfl, ?_⟩
          generalize upd H2 T' (.tup [V.int (i : Nat), V.int k]) = G4 at s4 e4
          refine ⟨_, rfl, _, rfl, _, rfl, ?_⟩
          by_cases hkm : k ∈ hd
          case neg =>
            have hfin : wayB (ns.take r) (ns.drop r) ws = false := by rw [hway, decide_eq_false hkm, Bool.false_and]
            have hq : ∀ H' : Hp, Same H H' → Q (.bl false) H' := fun H' sH => by
              have z := q H' sH
              rw [← wayB_every hdn, hfin, Bool.and_false] at z
              exact z
            by_cases hb : -1000000000 ≤ k ∧ k ≤ 1000000000
            · rw [decide_eq_true hb]
              refine iteF ⟨_, rfl, _, rfl, h, _, rfl, .inl (SqL.of e4), rfl, ints_flat _, _, rfl, ?_⟩
              rw [if_pos rfl, inV_ints, decide_eq_false hkm]
              exact iteT (hq _ (s1.trans s4))
            · rw [decide_eq_false hb]
              exact iteT (hq _ (s1.trans s4))
          rw [decide_eq_true (hkb _ (hsub _ hkm))]
          refine iteF ?_
          refine ⟨_, rfl, _, rfl, h, _, rfl, .inl (SqL.of e4), rfl, ints_flat _, _, rfl, ?_⟩
          rw [if_pos rfl, inV_ints, decide_eq_true hkm]
          refine iteF ?_
          rw [decide_eq_true hkm, Bool.true_and] at hway
          have hhn : ∀ {G2 : Hp} {zs : List V}, Same G G2 → Same G (upd G2 h (.lst zs)) := fun s b o e => by
            rw [upd_ne (ne_of_none e nh)]
            exact s _ _ e
          refine ⟨fun σ' H' => σ' = [some (.ref t), some (.int r), some (.ref g), some (.ref h), some (.int i), some (.int k)] ∧ Same G H' ∧ H' h = some (.lst ((hd.erase k).map V.int)), ?_, ?_⟩
          · obtain ⟨j, j1, j2, j3⟩ := pos_of_mem hkm
            refine ⟨_, rfl, .inl ⟨rfl, _, SqL.of e4⟩, _, rfl, h, hd, k, j, rfl, rfl, e4, j1, j2, rfl, hhn s4, ?_⟩
            rw [upd_same, j3]
          rintro σ' H6 ⟨rfl, s6, eh6⟩
          refine ⟨_, rfl, .inl ⟨rfl, _, SqL.of eh6⟩, _, rfl, _, rfl, _, rfl, _, _, rfl, rfl, _, rfl, _, rfl, _, rfl, _, _, rfl, rfl, _, _, rfl, rfl, _, rfl, g, _, rfl, SqT.of (s6 _ _ hg1), not_whole hr1 (by omega), fun p np => ?_⟩
          rw [cut_next]
          have sp := Same.up (o := .tup (((ns.drop (r + i)).take 1).map V.int)) np
          have hel := List.length_erase_of_mem hkm
          have hpos := List.length_pos_of_mem hkm
          refine ⟨p, _, rfl, .inr (SqT.of upd_same), fun l nl => ?_⟩
          have sl := sp.trans (Same.up (o := .lst (((ns.drop (r + i)).take 1).map V.int)) nl)
          refine ⟨h, l, _, _, rfl, rfl, sl _ _ eh6, upd_same, Nat.le_of_lt (small1000 (by rw [List.length_map, List.length_map, List.length_take]; omega)), ⟨_, _, rfl⟩, hhn (s6.trans sl), hd.erase k ++ (ns.drop (r + i)).take 1, ?_, fun x hx => ?_, ?_, hway⟩
          · rw [upd_same, List.map_append]
          · rcases List.mem_append.mp hx with hx | hx
            · exact hsub x (List.mem_of_mem_erase hx)
            · exact List.mem_of_mem_drop (List.mem_of_mem_take hx)
          · rw [List.length_append, List.length_take]
            omega
        · rintro σ' H2 ⟨⟨x4, x5, rfl⟩, s3, hd, _, _, _, hway⟩
          rw [List.length_map, List.drop_length] at hway
          exact ⟨x4, x5, rfl, s3, hway⟩
      · refine ⟨_, rfl, t, _, rfl, .inr ⟨SqT.of (s2 _ _ h1), for_it (walk_enumT (xs := ws.map V.int)) (fun i σ' H' => (∃ x4 x5 : Option V, σ' = [some (.ref t), some (.int r), some (.ref g), some (.ref h), x4, x5]) ∧ Same G H' ∧ ∃ hd : List Int, H' h = some (.lst (hd.map V.int)) ∧ (∀ x ∈ hd, x ∈ ns) ∧ hd.length ≤ 12 ∧ wayB (ns.take r) (ns.drop r) ws = wayB hd (ns.drop (r + i)) (ws.drop i)) ⟨⟨none, none, rfl⟩, s2, ns.take r, eh, fun x hx => List.mem_of_mem_take hx, by rw [List.length_take]; omega, rfl⟩ (fun i σ' H' _ hh => SqT.of (hh.2.1 _ _ h1)) ?_ ?_⟩⟩
        · rintro i v σ' H2 H3 hi ⟨⟨x4, x5, rfl⟩, s3, hd, e3, hsub, hdl, hway⟩ ⟨T', x, x2, rfl, hT, rfl, e1, e2⟩
          rw [List.length_map] at hi
          obtain ⟨hi', rfl⟩ := ints_at e2
          cases e1
          rw [List.drop_eq_getElem_cons hi'] at hway
          have hway : _ = (decide (ws[i] ∈ hd) && wayB (hd.erase ws[i] ++ (ns.drop (r + i)).take 1) ((ns.drop (r + i)).drop 1) (ws.drop (i + 1))) := hway
          rw [List.drop_drop] at hway
          generalize ws[i] = k at *
          have s4 := s3.trans (Same.up (o := .tup [V.int (i : Nat), V.int k]) hT)
          have e4 := (Same.up (o := .tup [V.int (i : Nat), V.int k]) hT) _ _ e3
          refine ⟨_, _, rfl, SqT.of upd_same, rfl, _, _, rfl, _, _, rfl, rfl, ?_⟩
          generalize upd H2 T' (.tup [V.int (i : Nat), V.int k]) = G4 at s4 e4
          refine ⟨_, rfl, _, rfl, _, rfl, ?_⟩
          by_cases hkm : k ∈ hd
          case neg =>
            have hfin : wayB (ns.take r) (ns.drop r) ws = false := by rw [hway, decide_eq_false hkm, Bool.false_and]
            have hq : ∀ H' : Hp, Same H H' → Q (.bl false) H' := fun H' sH => by
              have z := q H' sH
              rw [← wayB_every hdn, hfin, Bool.and_false] at z
              exact z
            by_cases hb : -1000000000 ≤ k ∧ k ≤ 1000000000
            · rw [decide_eq_true hb]
              refine iteF ⟨_, rfl, _, rfl, h, _, rfl, .inl (SqL.of e4), rfl, ints_flat _, _, rfl, ?_⟩
              rw [if_pos rfl, inV_ints, decide_eq_false hkm]
              exact iteT (hq _ (s1.trans s4))
            · rw [decide_eq_false hb]
              exact iteT (hq _ (s1.trans s4))
          rw [decide_eq_true (hkb _ (hsub _ hkm))]
          refine iteF ?_
          refine ⟨_, rfl, _, rfl, h, _, rfl, .inl (SqL.of e4), rfl, ints_flat _, _, rfl, ?_⟩
          rw [if_pos rfl, inV_ints, decide_eq_true hkm]
          refine iteF ?_
          rw [decide_eq_true hkm, Bool.true_and] at hway
          have hhn : ∀ {G2 : Hp} {zs : List V}, Same G G2 → Same G (upd G2 h (.lst zs)) := fun s b o e => by
            rw [upd_ne (ne_of_none e nh)]
            exact s _ _ e
          refine ⟨fun σ' H' => σ' = [some (.ref t), some (.int r), some (.ref g), some (.ref h), some (.int i), some (.int k)] ∧ Same G H' ∧ H' h = some (.lst ((hd.erase k).map V.int)), ?_, ?_⟩
          · obtain ⟨j, j1, j2, j3⟩ := pos_of_mem hkm
            refine ⟨_, rfl, .inl ⟨rfl, _, SqL.of e4⟩, _, rfl, h, hd, k, j, rfl, rfl, e4, j1, j2, rfl, hhn s4, ?_⟩
            rw [upd_same, j3]
          rintro σ' H6 ⟨rfl, s6, eh6⟩
          refine ⟨_, rfl, .inl ⟨rfl, _, SqL.of eh6⟩, _, rfl, _, rfl, _, rfl, _, _, rfl, rfl, _, rfl, _, rfl, _, rfl, _, _, rfl, rfl, _, _, rfl, rfl, _, rfl, g, _, rfl, SqT.of (s6 _ _ hg1), not_whole hr1 (by omega), fun p np => ?_⟩
          rw [cut_next]
          have sp := Same.up (o := .tup (((ns.drop (r + i)).take 1).map V.int)) np
          have hel := List.length_erase_of_mem hkm
          have hpos := List.length_pos_of_mem hkm
          refine ⟨p, _, rfl, .inr (SqT.of upd_same), fun l nl => ?_⟩
          have sl := sp.trans (Same.up (o := .lst (((ns.drop (r + i)).take 1).map V.int)) nl)
          refine ⟨h, l, _, _, rfl, rfl, sl _ _ eh6, upd_same, Nat.le_of_lt (small1000 (by rw [List.length_map, List.length_map, List.length_take]; omega)), ⟨_, _, rfl⟩, hhn (s6.trans sl), hd.erase k ++ (ns.drop (r + i)).take 1, ?_, fun x hx => ?_, ?_, hway⟩
          · rw [upd_same, List.map_append]
          · rcases List.mem_append.mp hx with hx | hx
            · exact hsub x (List.mem_of_mem_erase hx)
            · exact List.mem_of_mem_drop (List.mem_of_mem_take hx)
          · rw [List.length_append, List.length_take]
            omega
        · rintro σ' H2 ⟨⟨x4, x5, rfl⟩, s3, hd, _, _, _, hway⟩
          rw [List.length_map, List.drop_length] at hway
          exact ⟨x4, x5, rfl, s3, hway⟩
    rintro σ' H2 ⟨x4, x5, rfl, s3, hway⟩
    have z := q _ (s1.trans s3)
    rw [← wayB_every hdn, decide_eq_true hlen, hway, Bool.true_and] at z
    exact z
end
end Tw

set_option Elab.async false
set_option linter.all false
set_option maxRecDepth 100000
set_option maxHeartbeats 2000000
namespace Tw
open PySem PySem.Spec PyProof.Rows L2
section
variable {P : Program} {w : World} {K : PySem.W.Frag} {mg : Str → Option Value} {base : Heap} {A : Ad}
open LamX (ExtN Tabs TabS)
theorem runs_len : ∀ (n : Nat) (w : List Int), w.length = n → (runsL w).length ≤ n ∧ (∀ run ∈ runsL w, run.length ≤ n)
  | 0, w, h => by
    rw [List.length_eq_zero_iff.mp h]
    exact ⟨Nat.le_refl _, fun run hr => absurd hr (by simp [runsL])⟩
  | n + 1, w, h => by
    obtain ⟨v, k, rfl, hv⟩ := snoc_of h
    obtain ⟨h1, h2⟩ := runs_len n v hv
    rw [runs_snoc]
    unfold stepR
    by_cases c : runsL v ≠ [] ∧ lastI (lastL (runsL v)) < k
    · rw [if_pos c]
      have hp := List.length_pos_iff.mpr c.1
      refine ⟨by rw [List.length_append, List.length_dropLast, List.length_singleton]; omega, fun run hr => ?_⟩
      rcases List.mem_append.mp hr with e | e
      · have := h2 run ((List.dropLast_sublist _).subset e)
        omega
      · rw [List.mem_singleton.mp e, List.length_append, List.length_singleton]
        have hm : lastL (runsL v) ∈ runsL v := by
          unfold lastL
          rw [List.getLastD_eq_getLast?, List.getLast?_eq_some_getLast c.1]
          exact List.getLast_mem c.1
        have := h2 _ hm
        omega
    · rw [if_neg c]
      refine ⟨by rw [List.length_append, List.length_singleton]; omega, fun run hr => ?_⟩
      rcases List.mem_append.mp hr with e | e
      · have := h2 run e
        omega
      · rw [List.mem_singleton.mp e]
        simp
theorem RowsAt.same {H H' : Hp} {xs : List V} {ls : List (List Int)} (h : RowsAt H xs ls) (s : Same H H') : RowsAt H' xs ls := L2.Paired.mapP h fun _ _ ⟨t, e, z⟩ => ⟨t, e, s _ _ z⟩
theorem RowsAt.push {H : Hp} {x : V} {l : List Int} (hp : RowAt H x l) : ∀ {xs : List V} {ls : List (List Int)}, RowsAt H xs ls → RowsAt H (xs ++ [x]) (ls ++ [l])
  | _, _, .nil => .cons hp .nil
  | _, _, .cons a b => .cons a (RowsAt.push hp b)
theorem RowsAt.put {H : Hp} {D : Addr} {xs zs ys : List V} {ls : List (List Int)} (hD : H D = some (.lst zs)) (h : RowsAt H xs ls) : RowsAt (upd H D (.lst ys)) xs ls :=
  L2.Paired.mapP h fun _ _ ⟨t, e, z⟩ => ⟨t, e, by rw [upd_ne (ne_of z hD (by intro q; cases q))]; exact z⟩
theorem map_one (l : List Int) (x : Int) : l.map V.int ++ [V.int x] = (l ++ [x]).map V.int := by rw [List.map_append]; rfl
theorem pi_or {X : Cx} {tg e : Expr} {w1 w2 : TI} (h1 : PI X tg e w1) (h2 : PI X tg e w2) : PI X tg e (fun σ H R => w1 σ H R ∨ w2 σ H R) :=
  ⟨fun pins s σ H R I h => h.elim (h1.run pins s σ H R I) (h2.run pins s σ H R I)⟩
theorem at_last {xs : List V} (h : 0 < xs.length) : atI xs (-1) = some xs[xs.length - 1] := by
  unfold atI ixN
  rw [if_neg (by omega), if_pos (by omega), show ((-1 : Int) + (xs.length : Nat)).toNat = xs.length - 1 by omega]
  exact List.getElem?_eq_getElem (by omega)
def tTruK (K : PySem.W.Frag) (ta : TE) : TT := fun σ H Q => ta σ H fun x H' => ∃ k, TruV K x H' k ∧ Q k H'
theorem pt_truK {X : Cx} {K : PySem.W.Frag} {a : Expr} {ta : TE} (hK : X.K = K) (ha : PE X a ta) (he : ∀ whole, isTrue a X.env whole = (do let v ← whole; standAt a.pos; holding [v] (truthy v))) : PT X a (tTruK K ta) := by
  subst hK
  exact pt_truth ha he
theorem RowsAt.get {H : Hp} : ∀ {xs : List V} {ls : List (List Int)} {i : Nat} {x : V}, RowsAt H xs ls → xs[i]? = some x → ∃ hi : i < ls.length, RowAt H x ls[i]
  | _, _, 0, _, .cons a _, e => ⟨Nat.succ_pos _, by rw [← Option.some.inj e]; exact a⟩
  | _, _, i + 1, _, .cons _ b, e => by
    obtain ⟨hi, r⟩ := RowsAt.get b (by simpa using e)
    exact ⟨Nat.succ_lt_succ hi, r⟩
theorem rows_last {H : Hp} {xs : List V} {rs : List (List Int)} (r : RowsAt H xs rs) (hn : rs ≠ []) : ∃ (hx : 0 < xs.length) (t : Addr), xs[xs.length - 1] = .ref t ∧ H t = some (.tup ((lastL rs).map V.int)) := by
  have hl := Paired.length r
  have hp := List.length_pos_iff.mpr hn
  have hx : 0 < xs.length := by omega
  obtain ⟨hi, t, e1, e2⟩ := RowsAt.get r (List.getElem?_eq_getElem (show xs.length - 1 < xs.length by omega))
  refine ⟨hx, t, e1, ?_⟩
  have : rs[xs.length - 1] = lastL rs := by
    unfold lastL
    rw [List.getLastD_eq_getLast?, List.getLast?_eq_some_getLast hn, List.getLast_eq_getElem]
    simp only [hl]
    rfl
  rw [← this]
  exact e2
theorem lastI_at {l : List Int} (hn : l ≠ []) : atI (l.map V.int) (-1) = some (V.int (lastI l)) := by
  have hp := List.length_pos_iff.mpr hn
  rw [at_last (by rw [List.length_map]; exact hp)]
  congr 1
  rw [List.getElem_map]
  congr 1
  unfold lastI
  rw [List.getLastD_eq_getLast?, List.getLast?_eq_some_getLast hn, List.getLast_eq_getElem]
  simp only [List.length_map]
  rfl
/-- no run is empty -/
theorem runs_pos : ∀ (n : Nat) (w : List Int), w.length = n → ∀ run ∈ runsL w, run ≠ []
  | 0, w, h, run, hr => by
    rw [List.length_eq_zero_iff.mp h] at hr
    exact absurd hr (by simp [runsL])
  | n + 1, w, h, run, hr => by
    obtain ⟨v, k, rfl, hv⟩ := snoc_of h
    rw [runs_snoc] at hr
    unfold stepR at hr
    by_cases c : runsL v ≠ [] ∧ lastI (lastL (runsL v)) < k
    · rw [if_pos c] at hr
      rcases List.mem_append.mp hr with e | e
      · exact runs_pos n v hv run ((List.dropLast_sublist _).subset e)
      · rw [List.mem_singleton.mp e]
        simp
    · rw [if_neg c] at hr
      rcases List.mem_append.mp hr with e | e
      · exact runs_pos n v hv run e
      · rw [List.mem_singleton.mp e]
        simp
theorem lastL_mem {rs : List (List Int)} (h : rs ≠ []) : lastL rs ∈ rs := by
  unfold lastL
  rw [List.getLastD_eq_getLast?, List.getLast?_eq_some_getLast h]
  exact List.getLast_mem h
/-- the last run with one key more -/
theorem grow_last {H G : Hp} {D c : Addr} {xs : List V} {rs : List (List Int)} {l : List Int} (r : RowsAt H xs rs) (hn : rs ≠ []) (eD : H D = some (.lst xs)) (s : Same H G) (ec : G c = some (.tup (l.map V.int))) :
    RowsAt (upd G D (.lst (xs.set (xs.length - 1) (.ref c)))) (xs.set (xs.length - 1) (.ref c)) (rs.dropLast ++ [l]) := by
  have hl := Paired.length r
  have hp := List.length_pos_iff.mpr hn
  have hx : xs = xs.dropLast ++ [xs[xs.length - 1]] := by
    have hne : xs ≠ [] := fun z => by rw [z] at hl; exact absurd hl (by simp; omega)
    have := (List.dropLast_concat_getLast hne).symm
    rw [List.getLast_eq_getElem] at this
    exact this
  have h1 : xs.set (xs.length - 1) (.ref c) = xs.dropLast ++ [V.ref c] := by
    rw [List.set_eq_take_append_cons_drop, if_pos (by omega), List.dropLast_eq_take, List.drop_of_length_le (by omega)]
  have h2 : RowsAt H xs.dropLast rs.dropLast := by
    have : ∀ {ys : List V} {ms : List (List Int)}, RowsAt H ys ms → RowsAt H ys.dropLast ms.dropLast := fun {ys ms} h => by
      induction h with
      | nil => exact .nil
      | cons a b ih =>
        cases b with
        | nil => exact .nil
        | cons c d => exact .cons a ih
    exact this r
  rw [h1]
  refine RowsAt.put (zs := xs) (s _ _ eD) (RowsAt.push ⟨c, rfl, ec⟩ (RowsAt.same h2 s))
def spRi : Sp := fun vs H Q _ => ∃ (a : Addr) (ws : List Int), vs = [.ref a] ∧ Sq H a (ws.map V.int) ∧ ws.length ≤ 12 ∧ ∀ (H' : Hp) (q : Addr) (xs : List V), Same H H' → H q = none → H' q = some (.lst xs) → RowsAt H' xs (runsL ws) → Q (.ref q) H'
theorem ok_ri (T : Tx K mg A) : FnOk P w K mg base CX0 1 A.f_runs_in A.d_runs_in ["written"] spRi := by
  refine T.F_runs_in.ok sc_runs_in (fun vs H Q E h => ?_) (fun cdv B outer s H vs Q E hr h => ?_)
  · obtain ⟨a, ws, rfl, _⟩ := h
    rfl
  · obtain ⟨a, ws, rfl, ha, h12, q⟩ := h
    have nd := sc_runs_in.nd
    refine ⟨_, (pss_cons (ps_set (i := 1) nd rfl (Or.inl rfl) (pe_lst pa_nil))
      (C8.pss_cut (ps_for PassesOwn.never rfl (pi_or (pi_list (pv 0)) (pi_tup (pv 0))) (pg_name (i := 2) nd rfl (Or.inl rfl)) (pss_one (ps_if (PW.pt (pw_and (pt_truK (K := K) rfl (pv 1) (fun _ => rfl)) (pw_and1 (pt_cmpR op_gt (pv 2) (pe_ix (r := rIxT K) ix_tup (pe_ix (r := rIxL K) ix_list (pv 1) (pe_un un_neg pe_int) (fun _ _ => rfl)) (pe_un un_neg pe_int) (fun _ _ => rfl)) (nomark _))))) (pss_one (ps_asg (pe_op (r := rCatA K) op_catA (pe_ix (r := rIxL K) ix_list (pv 1) (pe_un un_neg pe_int) (fun _ _ => rfl)) (pe_tup (pa_cons (pv 2) pa_nil))) (pg_sub (pv 1) (pe_un un_neg pe_int) set_list))) (pss_one (ps_expr (pe_bm PySem.F.plainAttrs_list PySem.F.slot_list_append PySem.F.type_list_append mt_append (pv 1) (pa_cons (pe_tup (pa_cons (pv 2) pa_nil)) pa_nil)))))))
      (pss_one (ps_ret (pv 1))))), ?_⟩
    refine ⟨Nat.zero_le _, fun D nD => ?_⟩
    have s0 := Same.up (o := .lst []) nD
    refine ⟨fun σ' H' => ∃ (x2 : Option V) (xs : List V), σ' = [some (.ref a), some (.ref D), x2] ∧ Same H H' ∧ H' D = some (.lst xs) ∧ RowsAt H' xs (runsL ws), ?_, ?_⟩
    · rcases id (ha.same s0) with h1 | h1
      · refine Or.inl ⟨_, rfl, a, rfl, ⟨_, SqL.of h1⟩, ?_⟩
        have h0 : H a = some (.lst (ws.map V.int)) := by
          rcases ha with z | z
          · rw [s0 _ _ z] at h1
            exact z.trans h1
          · rw [s0 _ _ z] at h1
            exact z.trans h1
        refine for_it (walk_list (xs := ws.map V.int)) (fun i σ' H' => ∃ (x2 : Option V) (xs : List V), σ' = [some (.ref a), some (.ref D), x2] ∧ Same H H' ∧ H' D = some (.lst xs) ∧ RowsAt H' xs (runsL (ws.take i))) ⟨none, [], rfl, s0, upd_same, .nil⟩ (fun i σ' H' _ ⟨_, _, _, s, _⟩ => SqL.of (s _ _ h0)) ?_ ?_
        · rintro i x σ' H2 H3 hi ⟨x2, xs, rfl, s2, eD, rr⟩ ⟨rfl, hx⟩
          obtain ⟨hi2, rfl⟩ := ints_at hx
          have hlen := runs_len _ (ws.take i) rfl
          have hxl := Paired.length rr
          have htl : (ws.take i).length ≤ 12 := by rw [List.length_take]; omega
          rw [← List.take_append_getElem hi2, runs_snoc]
          refine ⟨_, rfl, !xs.isEmpty, .inl ⟨_, SqL.of eD, rfl⟩, ?_⟩
          have new : ¬ (runsL (ws.take i) ≠ [] ∧ lastI (lastL (runsL (ws.take i))) < ws[i]) → ∀ (c : Addr) (G : Hp), Same H3 G → G c = some (.tup [V.int ws[i]]) → ∃ acc, G D = some (.lst acc) ∧ acc.length < sizeLine ∧
              ∃ (x2 : Option V) (xs : List V), [some (V.ref a), some (V.ref D), some (V.int ws[i])] = [some (V.ref a), some (V.ref D), x2] ∧ Same H (upd G D (.lst (acc ++ [V.ref c]))) ∧ upd G D (.lst (acc ++ [V.ref c])) D = some (.lst xs) ∧ RowsAt (upd G D (.lst (acc ++ [V.ref c]))) xs (stepR (runsL (ws.take i)) ws[i]) := fun hc c G s ec => by
            refine ⟨xs, s _ _ eD, by rw [hxl, sizeLine_eq]; omega, _, _, rfl, fun b o e => ?_, upd_same, ?_⟩
            · rw [upd_ne (ne_of_none e nD)]
              exact s _ _ (s2 _ _ e)
            · unfold stepR
              rw [if_neg hc]
              exact RowsAt.put (s _ _ eD) (RowsAt.push ⟨c, rfl, ec⟩ (RowsAt.same rr s))
          by_cases hn : runsL (ws.take i) = []
          · have hx0 : xs = [] := List.length_eq_zero_iff.mp (by rw [hxl, hn]; rfl)
            rw [show (!xs.isEmpty) = false by rw [hx0]; rfl]
            refine iteF (iteF ?_)
            refine ⟨_, rfl, .inl ⟨rfl, _, SqL.of eD⟩, _, rfl, by show 1 ≤ sizeLine; decide, fun c nc => ?_⟩
            obtain ⟨acc, a1, a2, a3⟩ := new (fun z => z.1 hn) c _ (Same.up nc) upd_same
            exact ⟨D, _, _, rfl, rfl, a1, a2, a3⟩
          · obtain ⟨hxp, t, e1, et⟩ := rows_last rr hn
            have hlp := runs_pos _ _ rfl _ (lastL_mem hn)
            rw [show (!xs.isEmpty) = true by cases xs with | nil => exact absurd hxp (by simp) | cons _ _ => rfl]
            refine iteT ?_
            refine ⟨_, rfl, _, rfl, _, rfl, D, _, _, _, rfl, rfl, SqL.of eD, at_last hxp, _, rfl, t, _, _, _, e1, rfl, SqT.of et, lastI_at hlp, _, _, rfl, rfl, _, rfl, ?_⟩
            by_cases hc : lastI (lastL (runsL (ws.take i))) < ws[i]
            · rw [decide_eq_true hc]
              refine iteT ?_
              refine ⟨_, rfl, _, rfl, D, _, _, _, rfl, rfl, SqL.of eD, at_last hxp, _, rfl, by show 1 ≤ sizeLine; decide, fun u nu => ?_⟩
              have su := Same.up (o := .tup [V.int ws[i]]) nu
              have hll := hlen.2 _ (lastL_mem hn)
              refine ⟨t, u, _, _, e1, rfl, SqT.of (su _ _ et), SqT.of upd_same, Nat.le_of_lt (small1000 (by rw [List.length_map, List.length_singleton]; omega)), fun hz => absurd (List.map_eq_nil_iff.mp hz) hlp, fun _ y => (nomatch y), fun _ _ c nc => ?_⟩
              have sG := su.trans (Same.up (o := .tup ((lastL (runsL (ws.take i))).map V.int ++ [V.int ws[i]])) nc)
              have ec := upd_same (H := upd H3 u (.tup [V.int ws[i]])) (a := c) (o := .tup ((lastL (runsL (ws.take i))).map V.int ++ [V.int ws[i]]))
              rw [map_one] at ec sG ⊢
              refine ⟨_, rfl, _, rfl, D, xs, -1, xs.length - 1, rfl, rfl, sG _ _ eD, ?_, _, _, rfl, fun b o e => ?_, upd_same, ?_⟩
              · unfold ixN
                rw [if_neg (by decide), if_pos (by omega)]
                congr 1
                omega
              · rw [upd_ne (ne_of_none e nD)]
                exact sG _ _ (s2 _ _ e)
              · unfold stepR
                rw [if_pos ⟨hn, hc⟩]
                exact grow_last rr hn eD sG ec
            · rw [decide_eq_false hc]
              refine iteF ?_
              refine ⟨_, rfl, .inl ⟨rfl, _, SqL.of eD⟩, _, rfl, by show 1 ≤ sizeLine; decide, fun c nc => ?_⟩
              obtain ⟨acc, a1, a2, a3⟩ := new (fun z => hc z.2) c _ (Same.up nc) upd_same
              exact ⟨D, _, _, rfl, rfl, a1, a2, a3⟩
        · rintro σ' H2 ⟨x2, xs, rfl, s2, eD, rr⟩
          rw [List.length_map, List.take_length] at rr
          exact ⟨x2, xs, rfl, s2, eD, rr⟩
      · refine Or.inr ⟨_, rfl, a, rfl, ⟨_, SqT.of h1⟩, ?_⟩
        have h0 : H a = some (.tup (ws.map V.int)) := by
          rcases ha with z | z
          · rw [s0 _ _ z] at h1
            exact z.trans h1
          · rw [s0 _ _ z] at h1
            exact z.trans h1
        refine for_it (walk_tup (xs := ws.map V.int)) (fun i σ' H' => ∃ (x2 : Option V) (xs : List V), σ' = [some (.ref a), some (.ref D), x2] ∧ Same H H' ∧ H' D = some (.lst xs) ∧ RowsAt H' xs (runsL (ws.take i))) ⟨none, [], rfl, s0, upd_same, .nil⟩ (fun i σ' H' _ ⟨_, _, _, s, _⟩ => SqT.of (s _ _ h0)) ?_ ?_
        · rintro i x σ' H2 H3 hi ⟨x2, xs, rfl, s2, eD, rr⟩ ⟨rfl, hx⟩
          obtain ⟨hi2, rfl⟩ := ints_at hx
          have hlen := runs_len _ (ws.take i) rfl
          have hxl := Paired.length rr
          have htl : (ws.take i).length ≤ 12 := by rw [List.length_take]; omega
          rw [← List.take_append_getElem hi2, runs_snoc]
          refine ⟨_, rfl, !xs.isEmpty, .inl ⟨_, SqL.of eD, rfl⟩, ?_⟩
          have new : ¬ (runsL (ws.take i) ≠ [] ∧ lastI (lastL (runsL (ws.take i))) < ws[i]) → ∀ (c : Addr) (G : Hp), Same H3 G → G c = some (.tup [V.int ws[i]]) → ∃ acc, G D = some (.lst acc) ∧ acc.length < sizeLine ∧
              ∃ (x2 : Option V) (xs : List V), [some (V.ref a), some (V.ref D), some (V.int ws[i])] = [some (V.ref a), some (V.ref D), x2] ∧ Same H (upd G D (.lst (acc ++ [V.ref c]))) ∧ upd G D (.lst (acc ++ [V.ref c])) D = some (.lst xs) ∧ RowsAt (upd G D (.lst (acc ++ [V.ref c]))) xs (stepR (runsL (ws.take i)) ws[i]) := fun hc c G s ec => by
            refine ⟨xs, s _ _ eD, by rw [hxl, sizeLine_eq]; omega, _, _, rfl, fun b o e => ?_, upd_same, ?_⟩
            · rw [upd_ne (ne_of_none e nD)]
              exact s _ _ (s2 _ _ e)
            · unfold stepR
              rw [if_neg hc]
              exact RowsAt.put (s _ _ eD) (RowsAt.push ⟨c, rfl, ec⟩ (RowsAt.same rr s))
          by_cases hn : runsL (ws.take i) = []
          · have hx0 : xs = [] := List.length_eq_zero_iff.mp (by rw [hxl, hn]; rfl)
            rw [show (!xs.isEmpty) = false by rw [hx0]; rfl]
            refine iteF (iteF ?_)
            refine ⟨_, rfl, .inl ⟨rfl, _, SqL.of eD⟩, _, rfl, by show 1 ≤ sizeLine; decide, fun c nc => ?_⟩
            obtain ⟨acc, a1, a2, a3⟩ := new (fun z => z.1 hn) c _ (Same.up nc) upd_same
            exact ⟨D, _, _, rfl, rfl, a1, a2, a3⟩
          · obtain ⟨hxp, t, e1, et⟩ := rows_last rr hn
            have hlp := runs_pos _ _ rfl _ (lastL_mem hn)
            rw [show (!xs.isEmpty) = true by cases xs with | nil => exact absurd hxp (by simp) | cons _ _ => rfl]
            refine iteT ?_
            refine ⟨_, rfl, _, rfl, _, rfl, D, _, _, _, rfl, rfl, SqL.of eD, at_last hxp, _, rfl, t, _, _, _, e1, rfl, SqT.of et, lastI_at hlp, _, _, rfl, rfl, _, rfl, ?_⟩
            by_cases hc : lastI (lastL (runsL (ws.take i))) < ws[i]
            · rw [decide_eq_true hc]
              refine iteT ?_
              refine ⟨_, rfl, _, rfl, D, _, _, _, rfl, rfl, SqL.of eD, at_last hxp, _, rfl, by show 1 ≤ sizeLine; decide, fun u nu => ?_⟩
              have su := Same.up (o := .tup [V.int ws[i]]) nu
              have hll := hlen.2 _ (lastL_mem hn)
              refine ⟨t, u, _, _, e1, rfl, SqT.of (su _ _ et), SqT.of upd_same, Nat.le_of_lt (small1000 (by rw [List.length_map, List.length_singleton]; omega)), fun hz => absurd (List.map_eq_nil_iff.mp hz) hlp, fun _ y => (nomatch y), fun _ _ c nc => ?_⟩
              have sG := su.trans (Same.up (o := .tup ((lastL (runsL (ws.take i))).map V.int ++ [V.int ws[i]])) nc)
              have ec := upd_same (H := upd H3 u (.tup [V.int ws[i]])) (a := c) (o := .tup ((lastL (runsL (ws.take i))).map V.int ++ [V.int ws[i]]))
              rw [map_one] at ec sG ⊢
              refine ⟨_, rfl, _, rfl, D, xs, -1, xs.length - 1, rfl, rfl, sG _ _ eD, ?_, _, _, rfl, fun b o e => ?_, upd_same, ?_⟩
              · unfold ixN
                rw [if_neg (by decide), if_pos (by omega)]
                congr 1
                omega
              · rw [upd_ne (ne_of_none e nD)]
                exact sG _ _ (s2 _ _ e)
              · unfold stepR
                rw [if_pos ⟨hn, hc⟩]
                exact grow_last rr hn eD sG ec
            · rw [decide_eq_false hc]
              refine iteF ?_
              refine ⟨_, rfl, .inl ⟨rfl, _, SqL.of eD⟩, _, rfl, by show 1 ≤ sizeLine; decide, fun c nc => ?_⟩
              obtain ⟨acc, a1, a2, a3⟩ := new (fun z => hc z.2) c _ (Same.up nc) upd_same
              exact ⟨D, _, _, rfl, rfl, a1, a2, a3⟩
        · rintro σ' H2 ⟨x2, xs, rfl, s2, eD, rr⟩
          rw [List.length_map, List.take_length] at rr
          exact ⟨x2, xs, rfl, s2, eD, rr⟩
    · rintro σ' H2 ⟨x2, xs, rfl, s2, eD, rr⟩
      exact ⟨_, rfl, q _ D xs s2 nD eD rr⟩
abbrev rLn (K : PySem.W.Frag) : List V → Hp → VK → Prop := fun xs H Q => ∃ p ys, xs = [.ref p] ∧ (SqL K H p ys ∨ SqT K H p ys) ∧ Q (.int ys.length) H
end
end Tw

set_option Elab.async false
set_option linter.all false
set_option maxRecDepth 100000
set_option maxHeartbeats 2000000
namespace Tw
open PySem PySem.Spec PyProof.Rows L2
section
variable {P : Program} {w : World} {K : PySem.W.Frag} {mg : Str → Option Value} {base : Heap} {A : Ad}
open LamX (ExtN Tabs TabS)
/-! Cuts shown, whatever the row: ok_gof ok_iwB ok_ri RowsAt Paired.length every_perm KeysIn -/
def spCshB (A : Ad) : Sp := fun vs H Q _ => ∃ (o r a n : Nat) (ns ws : List Int), vs = [.ref o, .int r, .ref a, .int n] ∧ (1 ≤ r ∧ r ≤ 12) ∧ Sq H a (ns.map V.int) ∧ KeysIn ns ∧ AtC A.CC H o ws ∧ ∀ H' : Hp, Same H H' → Q (.bl (decide (ws ∈ everyL r ns) && decide ((runsL ws).length ≤ n))) H'
theorem ok_cshB (T : Tx K mg A) : FnOk P w K mg base CX0 7 A.f_c_shows A.d_c_shows ["self", "room", "row", "number"] (spCshB A) := by
  refine T.F_c_shows.ok sc_c_shows (fun vs H Q E h => ?_) (fun cdv B outer s H vs Q E hr h => ?_)
  · obtain ⟨o, r, a, n, ns, ws, rfl, _⟩ := h
    rfl
  · obtain ⟨o, r, a, n, ns, ws, rfl, hr1, ha, hk, at0, q⟩ := h
    have nd := sc_c_shows.nd
    refine ⟨_, PSs.nox (C8.pss_cut (ps_set (i := 4) nd rfl (Or.inl rfl) (pe_call (ok_gof T) (hr.mono (by decide)) (by rfl) T.m_given_of T.F_given_of.kp (b_gof T) .nil pass0 (pa_cons (pv 1) (pa_cons (pv 2) (pa_cons (pv 3) pa_nil)))))
      (pss_one (ps_ret (pe_and (pe_call (ok_iwB T) (hr.mono (by decide)) (by rfl) T.m_is_way T.F_is_way.kp (b_iwB T) .nil pass0 (pa_cons (pe_fld (pv 0) rfl) (pa_cons (pv 1) (pa_cons (pv 4) pa_nil)))) (pe_one (pe_cmpR op_le (pe_callB (r := rLn K) call_len_seq (by rfl) T.g_len PySem.boot_len (pa_cons (pe_call (ok_ri T) (hr.mono (by decide)) (by rfl) T.m_runs_in T.F_runs_in.kp (b_ri T) .nil pass0 (pa_cons (pe_fld (pv 0) rfl) pa_nil)) pa_nil)) (pv 3) (nomark _))))))), ?_⟩
    obtain ⟨dx, t0, ho, e0⟩ := id at0
    refine ⟨fun σ' H' => ∃ g : Addr, σ' = [some (.ref o), some (.int r), some (.ref a), some (.int n), some (.ref g)] ∧ Same H H' ∧ H' g = some (.tup (ns.map V.int)), ⟨_, rfl, _, rfl, _, rfl, r, a, n, ns, rfl, hr1, ha, hk, fun H1 g s1 eg => ⟨g, rfl, s1, eg⟩⟩, ?_⟩
    rintro σ' H1 ⟨g, rfl, s1, eg⟩
    refine ⟨_, rfl, o, A.CC, dx, _, _, rfl, s1 _ _ ho, T.cTC, T.cWritten, fdC_written _, _, rfl, _, rfl, t0, r, g, ns, ws, rfl, hr1.1, hr1.2, eg, hk, .inr (s1 _ _ e0), fun H2 s2 => ⟨_, rfl, ?_⟩⟩
    by_cases hw : ws ∈ everyL r ns
    · rw [decide_eq_true hw] at q ⊢
      have hl : ws.length ≤ 12 := by rw [(every_perm hk.2.2 hw).length_eq]; exact hk.1
      refine iteT ?_
      refine ⟨_, rfl, o, A.CC, dx, _, _, rfl, s2 _ _ (s1 _ _ ho), T.cTC, T.cWritten, fdC_written _, t0, ws, rfl, .inr (s2 _ _ (s1 _ _ e0)), hl, fun H3 b xs s3 _ eb rb => ?_⟩
      have hx : xs.length = (runsL ws).length := Paired.length rb
      refine ⟨b, _, rfl, .inl (SqL.of eb), _, rfl, _, _, rfl, rfl, ?_⟩
      show Q (.bl (decide ((xs.length : Int) ≤ (n : Nat)))) H3
      rw [show decide ((xs.length : Int) ≤ (n : Nat)) = decide ((runsL ws).length ≤ n) from decide_eq_decide.mpr (by omega)]
      exact q H3 (s1.trans (s2.trans s3))
    · rw [decide_eq_false hw] at q ⊢
      exact iteF (q H2 (s1.trans s2))
theorem b_cshB (T : Tx K mg A) : L2.Binds K A.d_c_shows ["self", "room", "row", "number"] [] := T.F_c_shows.binds fun _ _ _ _ _ _ us hl => match us, hl with | [_, _, _, _], _ => rfl

end
end Tw

set_option Elab.async false
set_option linter.all false
set_option maxRecDepth 100000
set_option maxHeartbeats 2000000
namespace Tw
open PySem PySem.Spec PyProof.Rows L2
section
variable {P : Program} {w : World} {K : PySem.W.Frag} {mg : Str → Option Value} {base : Heap} {A : Ad}
open LamX (ExtN Tabs TabS)
def RdK (H : Hp) (d : Addr) (kvs : List (Key × V)) : Prop := H d = some (.dK kvs) ∨ ∃ o, H d = some (.frz o (.dK kvs))
theorem b_hb (T : Tx K mg A) : L2.Binds K A.d_held_back ["key", "levels", "given"] [] := T.F_held_back.binds fun _ _ _ _ _ _ us hl => match us, hl with | [_, _, _], _ => rfl
def dl (l : List Nat) : List PyData := l.map fun i => PyData.int (i : Nat)
theorem dl_ints (l : List Nat) : dl l = (l.map fun i => ((i : Nat) : Int)).map PyData.int := by unfold dl; rw [List.map_map]; rfl
theorem idx_at {ns : List Int} (hd : ns.Nodup) {m : Nat} {k : Int} (h : ns[m]? = some k) : ns.idxOf k = m := by
  obtain ⟨hm, rfl⟩ := List.getElem?_eq_some_iff.mp h
  exact hd.idxOf_getElem m hm
theorem ints_eqvL (a b : List Int) : PyData.eqv (.list (a.map PyData.int)) (.list (b.map PyData.int)) = decide (a = b) := by
  rw [← ints_all]
  simp [PyData.eqv]
def spRowL : Sp := fun vs H Q _ => ∃ (a : Addr) (ns : List Int), vs = [.ref a] ∧ H a = some (.lst (ns.map V.int)) ∧ ns.length ≤ 12 ∧ (∀ n ∈ ns, -1000000000 ≤ n ∧ n ≤ 1000000000) ∧ ∀ H' p, Same H H' → TupF H' p (ns.map V.int) → Q (.ref p) H'
theorem ok_rowL (T : Tx K mg A) : FnOk P w K mg base CX0 4 A.f_row_of A.d_row_of ["row"] spRowL := by
  refine T.F_row_of.ok sc_row_of (fun vs H Q E h => ?_) (fun cdv B outer s H vs Q E hr h => ?_)
  · obtain ⟨a, ns, rfl, _⟩ := h
    rfl
  · obtain ⟨a, ns, rfl, ha, hl, hk, q⟩ := h
    obtain ⟨t, hg⟩ := cst T.c_MOST_PLACES
    refine ⟨_, pss_cons (ps_if (PW.pt (pw_or (pt_not (pt_val (pe_callB call_isiT (by rfl) T.g_isinstance (by decide +kernel) (pa_cons (pv 0) (pa_cons (pe_tup (pa_cons (pe_bltn (v := .ty "list") (by rfl) T.g_list (by decide +kernel) rfl) (pa_cons (pe_bltn (v := .ty "tuple") (by rfl) T.g_tuple (by decide +kernel) rfl) pa_nil))) pa_nil)))))
        (pw_or1 (pt_cmpR op_gt (pe_callB call_len_seq (by rfl) T.g_len PySem.boot_len (pa_cons (pv 0) pa_nil)) (pe_glob (by rfl) hg (relI _ _)) (nomark _))))) (pss_one ps_never) pss_nil)
      (C8.pss_cut (ps_for PassesOwn.never rfl (pi_enS (by rfl) T.g_enumerate (pa_cons (pv 0) pa_nil)) (pg_tup rfl (pgs_cons (pg_name (i := 1) sc_row_of.nd rfl (Or.inl rfl)) (pgs_cons (pg_name (i := 2) sc_row_of.nd rfl (Or.inl rfl)) pgs_nil)))
        (pss_one (ps_if (pt_not (pt_val (pe_call (ok_key T) hr (by rfl) T.m_is_key T.F_is_key.kp (b_key T) .nil pass0 (pa_cons (pv 2) pa_nil)))) (pss_one ps_never) pss_nil)))
      (pss_one (ps_ret (pe_callTy (r := rTupF K) call_tupF (by rfl) T.g_tuple (by decide +kernel) (pa_cons (pv 0) pa_nil))))), ?_⟩
    refine ⟨_, rfl, by show 2 ≤ sizeLine; decide, fun tp htp => ?_⟩
    have ha1 := (Same.up (o := .tup [.ty "list", .ty "tuple"]) htp) _ _ ha
    have isi : ∃ c b1, TyX K (upd H tp (.tup [.ty "list", .ty "tuple"])) (.ref a) (.type c) ∧ PySem.W.kitOne K (.type c) (.type "list") = some b1 ∧ (b1 = false → PySem.W.kitOne K (.type c) (.type "tuple") = some true) := ⟨"list", true, .base (.lst ha1), kit_ty (by decide +kernel), fun z => by cases z⟩
    obtain ⟨c, b1, ty, k1, k2⟩ := isi
    refine ⟨_, tp, _, .type c, [.type "list", .type "tuple"], true, rfl, upd_same, .cons (.ty _) (.cons (.ty _) .nil), ty, kitAny_cons k1 (fun z => kitAny_cons (k2 z) (fun z => by cases z) (fun _ => rfl)) (fun _ => rfl), true, rfl, ?_⟩
    refine iteF ⟨_, rfl, a, _, rfl, .inl (SqL.of ha1), _, _, rfl, rfl, _, rfl, ite2 (fun z => ?_) (fun _ => ?_)⟩
    · exfalso
      rw [List.length_map] at z
      have := of_decide_eq_true z
      omega
    refine ⟨fun σ H' => ∃ z y, σ = [some (.ref a), z, y] ∧ Same H H', ?_, ?_⟩
    · refine ⟨_, rfl, a, _, rfl, .inl ⟨SqL.of ha1, for_it (walk_enum (xs := ns.map V.int)) (fun i σ H' => ∃ z y, σ = [some (.ref a), z, y] ∧ Same H H') ⟨none, none, rfl, Same.up htp⟩ (fun i σ H' _ ⟨_, _, _, s⟩ => SqL.of (s _ _ ha)) ?_ ?_⟩⟩
      · rintro i v σ H2 H3 hi ⟨z, y, rfl, s⟩ ⟨T', x, x2, rfl, hT, rfl, e1, e2⟩
        obtain ⟨hi', rfl⟩ := ints_at e2
        cases e1
        refine ⟨_, _, rfl, SqT.of upd_same, rfl, _, _, rfl, _, _, rfl, rfl, ?_⟩
        refine ⟨_, rfl, _, rfl, _, rfl, ?_⟩
        rw [decide_eq_true (hk _ (List.getElem_mem hi'))]
        exact iteF ⟨_, _, rfl, s.trans (Same.up hT)⟩
      · rintro σ H2 ⟨z, y, rfl, s⟩
        exact ⟨_, _, rfl, s⟩
    · rintro σ H2 ⟨z, y, rfl, s⟩
      refine ⟨_, rfl, a, _, rfl, .inl ⟨SqL.of (s _ _ ha), fun l o nl od => q _ l (s.trans (Same.up nl)) ⟨o, upd_same, od⟩⟩⟩
def spIoL : Sp := fun vs H Q _ => ∃ (a : Addr) (ns : List Int), vs = [.ref a] ∧ H a = some (.lst (ns.map V.int)) ∧ KeysIn ns ∧ ∀ H' p, Same H H' → TupF H' p (ns.map V.int) → Q (.ref p) H'
theorem cut_to (xs : List V) (k : Nat) : cutV xs none (some (k : Int)) = xs.take k := by
  unfold cutV
  rw [HT.sIx_none, HT.sIx_nat, List.drop_zero, Nat.sub_zero]
  rcases Nat.le_total k xs.length with h | h
  · rw [Nat.min_eq_left h]
  · rw [Nat.min_eq_right h, List.take_length, List.take_of_length_le h]
theorem SqT.sm {K : PySem.W.Frag} {H H' : Hp} {a : Addr} {xs : List V} (s : Same H H') (h : SqT K H a xs) : SqT K H' a xs := by
  rcases h with (h | ⟨o, h⟩) | h
  · exact .inl (.inl (s _ _ h))
  · exact .inl (.inr ⟨o, s _ _ h⟩)
  · exact .inr h
def spCdS (K : PySem.W.Frag) : Sp := fun vs H Q _ => ∃ (a : Addr) (ns : List Int), vs = [.ref a] ∧ SqT K H a (ns.map V.int) ∧ ns.Nodup ∧ ∀ H', Same H H' → Q .non H'
theorem ok_cdS (T : Tx K mg A) : FnOk P w K mg base CX0 1 A.f_check_different A.d_check_different ["keys"] (spCdS K) := by
  refine T.F_check_different.ok sc_check_different (fun vs H Q E h => ?_) (fun cdv B outer s H vs Q E hr h => ?_)
  · obtain ⟨a, ns, rfl, _⟩ := h
    rfl
  · obtain ⟨a, ns, rfl, ha, hd, q⟩ := h
    have nd := sc_check_different.nd
    refine ⟨_, (pss_one (ps_for PassesOwn.never rfl (pi_enS (by rfl) T.g_enumerate (pa_cons (pv 0) pa_nil)) (pg_tup rfl (pgs_cons (pg_name (i := 1) nd rfl (Or.inl rfl)) (pgs_cons (pg_name (i := 2) nd rfl (Or.inl rfl)) pgs_nil))) (pss_one (ps_if (pt_cmpR (r := L2.rIn K false) op_in_seq (pv 2) (pe_slice (r := rSlA K) sl_tupA (pv 0) po_none (po_some (pv 1))) (by rfl)) (pss_one ps_never) pss_nil)))), ?_⟩
    refine ⟨_, rfl, a, _, rfl, .inr ⟨ha, for_it (walk_enumT (xs := ns.map V.int)) (fun i σ H' => ∃ z y, σ = [some (.ref a), z, y] ∧ Same H H') ⟨none, none, rfl, Same.refl _⟩ (fun i σ H' _ ⟨_, _, _, s⟩ => SqT.sm s ha) ?_ ?_⟩⟩
    · rintro i v σ H2 H3 hi ⟨z, y, rfl, s⟩ ⟨T', x, x2, rfl, hT, rfl, e1, e2⟩
      obtain ⟨hi', rfl⟩ := ints_at e2
      cases e1
      have s3 := s.trans (Same.up (o := .tup [V.int (i : Nat), V.int ns[i]]) hT)
      refine ⟨_, _, rfl, SqT.of upd_same, rfl, _, _, rfl, _, _, rfl, rfl, ?_⟩
      generalize upd H2 T' (.tup [V.int (i : Nat), V.int ns[i]]) = G at s3
      refine ⟨_, rfl, _, rfl, ?_⟩
      unfold tNoPart
      refine ⟨_, rfl, _, rfl, slA (SqT.sm s3 ha) fun G2 p2 s4 ep => ?_⟩
      rw [cut_to, ← List.map_take] at ep
      refine ⟨p2, _, rfl, .inr ep, rfl, ints_flat _, _, rfl, ?_⟩
      rw [if_neg Bool.false_ne_true, inV_ints]
      have hn : ns[i] ∉ ns.take i := fun hm => by
        have := hd
        rw [← List.take_append_drop i ns, List.drop_eq_getElem_cons hi'] at this
        exact (List.nodup_append.mp this).2.2 _ hm _ List.mem_cons_self rfl
      rw [decide_eq_false hn]
      exact iteF ⟨_, _, rfl, s3.trans s4⟩
    · rintro σ H2 ⟨z, y, rfl, s⟩
      exact q _ s
theorem ok_ioL (T : Tx K mg A) : FnOk P w K mg base CX0 5 A.f_input_of A.d_input_of ["row"] spIoL := by
  refine T.F_input_of.ok sc_input_of (fun vs H Q E h => ?_) (fun cdv B outer s H vs Q E hr h => ?_)
  · obtain ⟨a, ns, rfl, _⟩ := h
    rfl
  · obtain ⟨a, ns, rfl, ha, ⟨h12, hb, hd⟩, q⟩ := h
    have nd := sc_input_of.nd
    refine ⟨_, (pss_cons (ps_set (i := 1) nd rfl (Or.inl rfl) (pe_call (ok_rowL T) (hr.mono (by decide)) (by rfl) T.m_row_of T.F_row_of.kp (b_row T) .nil pass0 (pa_cons (pv 0) pa_nil)))
      (pss_cons (ps_expr (pe_call (ok_cdS T) (hr.mono (by decide)) (by rfl) T.m_check_different T.F_check_different.kp (b_cd T) .nil pass0 (pa_cons (pv 1) pa_nil)))
      (pss_one (ps_ret (pv 1))))), ?_⟩
    refine ⟨_, rfl, a, ns, rfl, ha, h12, hb, fun H1 p s1 ep => ?_⟩
    exact ⟨_, rfl, p, ns, rfl, ep.sq, hd, fun H2 s2 => ⟨_, rfl, q _ p (s1.trans s2) (ep.same s2)⟩⟩
def spGofL : Sp := fun vs H Q _ => ∃ (r a n : Nat) (ns : List Int), vs = [.int r, .ref a, .int n] ∧ (1 ≤ r ∧ r ≤ 12) ∧ H a = some (.lst (ns.map V.int)) ∧ KeysIn ns ∧ ∀ (H' : Hp) (p : Addr), Same H H' → TupF H' p (ns.map V.int) → Q (.ref p) H'
theorem ok_gofL (T : Tx K mg A) : FnOk P w K mg base CX0 6 A.f_given_of A.d_given_of ["room", "row", "number"] spGofL := by
  refine T.F_given_of.ok sc_given_of (fun vs H Q E h => ?_) (fun cdv B outer s H vs Q E hr h => ?_)
  · obtain ⟨r, a, n, ns, rfl, _⟩ := h
    rfl
  · obtain ⟨r, a, n, ns, rfl, hr1, ha, hk, q⟩ := h
    have nd := sc_given_of.nd
    refine ⟨_, PSs.nox (C8.pss_cut (ps_expr (pe_call (ok_cr T) (hr.mono (by decide)) (by rfl) T.m_check_room T.F_check_room.kp (b_cr T) .nil pass0 (pa_cons (pv 0) pa_nil)))
      (C8.pss_cut (ps_set (i := 3) nd rfl (Or.inl rfl) (pe_call (ok_ioL T) (hr.mono (by decide)) (by rfl) T.m_input_of T.F_input_of.kp (b_io T) .nil pass0 (pa_cons (pv 1) pa_nil)))
      (C8.pss_cut (ps_expr (pe_call (ok_cn T) (hr.mono (by decide)) (by rfl) T.m_check_number T.F_check_number.kp (b_cn T) .nil pass0 (pa_cons (pv 2) pa_nil)))
      (pss_one (ps_ret (pv 3)))))), ?_⟩
    refine ⟨fun σ' H' => σ' = [some (.int r), some (.ref a), some (.int n), none] ∧ H' = H, ⟨_, rfl, r, rfl, hr1, rfl, rfl⟩, ?_⟩
    rintro σ' Hx ⟨rfl, ex⟩
    obtain rfl := ex.symm
    refine ⟨fun σ' H' => ∃ p : Addr, σ' = [some (.int r), some (.ref a), some (.int n), some (.ref p)] ∧ Same H H' ∧ TupF H' p (ns.map V.int), ⟨_, rfl, a, ns, rfl, ha, hk, fun H1 p s1 ep => ⟨p, rfl, s1, ep⟩⟩, ?_⟩
    rintro σ' H1 ⟨p, rfl, s1, ep⟩
    refine ⟨fun σ' H' => σ' = [some (.int r), some (.ref a), some (.int n), some (.ref p)] ∧ H' = H1, ⟨_, rfl, n, rfl, rfl, rfl⟩, ?_⟩
    rintro σ' Hx ⟨rfl, ex⟩
    obtain rfl := ex.symm
    exact ⟨_, rfl, q _ p s1 ep⟩
theorem RdK.same {H H' : Hp} {d : Addr} {kvs : List (Key × V)} (h : RdK H d kvs) (s : Same H H') : RdK H' d kvs := h.elim (fun e => .inl (s _ _ e)) fun ⟨o, e⟩ => .inr ⟨o, s _ _ e⟩
def spHb : Sp := fun vs H Q _ => ∃ (d g m : Nat) (k : Int) (kvs : List (Key × V)) (ns : List Int) (f : Int → Nat), vs = [.int k, .ref d, .ref g] ∧ RdK H d kvs ∧ TupF H g (ns.map V.int) ∧ ns.length ≤ 12 ∧ ns.Nodup ∧ ns[m]? = some k ∧
  (∀ y ∈ ns, valV kvs (.inl y) = some (.int (f y : Nat))) ∧ 1 ≤ f k ∧ ∀ (H' : Hp) (q : Addr), Same H H' → H q = none → H' q = some (.lst (((ns.take m).filter fun y => behB (f k - 1) k (f y, y)).map V.int)) → Q (.ref q) H'
theorem gt_beh (a b : Nat) (y k : Int) : gtB [((a : Nat) : Int), y] [((b : Nat) : Int), k] = behB b k (a, y) := by
  show Ob.lexAt _ _ _ 0 2 = _
  rw [Ob.lexAt_succ, Ob.lexAt_succ, Ob.lexAt_zero]
  show (if decide (((a : Nat) : Int) = ((b : Nat) : Int)) = true then (if decide (y = k) = true then decide (2 < 2) else decide (k < y)) else decide (((b : Nat) : Int) < ((a : Nat) : Int))) = behB b k (a, y)
  have hb : behB b k (a, y) = decide (b < a ∨ (b = a ∧ k < y)) := by
    rw [Bool.eq_iff_iff, beh_iff, decide_eq_true_eq]
  rw [hb]
  by_cases h : a = b
  · rw [if_pos (decide_eq_true (by omega))]
    by_cases h2 : y = k
    · rw [if_pos (decide_eq_true h2), decide_eq_false (by omega), decide_eq_false (by omega)]
    · rw [if_neg (by rw [decide_eq_true_eq]; exact h2)]
      exact decide_eq_decide.mpr (by omega)
  · rw [if_neg (by rw [decide_eq_true_eq]; omega)]
    exact decide_eq_decide.mpr (by omega)
theorem RdK.get {H : Hp} {d : Addr} {kvs : List (Key × V)} (h : RdK H d kvs) (k : Int) : DGet H d (.int k) (valV kvs (.inl k)) := .inl ⟨kvs, .inl k, h, rfl, rfl⟩
theorem ok_hb (T : Tx K mg A) : FnOk P w K mg base CX0 2 A.f_held_back A.d_held_back ["key", "levels", "given"] spHb := by
  refine T.F_held_back.ok sc_held_back (fun vs H Q E h => ?_) (fun cdv B outer s H vs Q E hr h => ?_)
  · obtain ⟨d, g, m, k, kvs, ns, f, rfl, _⟩ := h
    rfl
  · obtain ⟨d, g, m, k, kvs, ns, f, rfl, ed, eg, hl, hd, hk, hv, h1, q⟩ := h
    have nd := sc_held_back.nd
    have hu0 := hr.units0
    have hu2 : (B.deeper (envOfC "held_back" (defScope s_held_back) s.heap.objs.size A.f_held_back cdv)).units + 65 < cLine := by have := hr.un; omega
    have hd1 := Nat.lt_of_le_of_lt (Nat.add_le_add_left (show 1 ≤ 64 by decide) _) hr.units
    refine ⟨_, PSs.nox (C8.pss_cut (ps_set (i := 3) nd rfl (Or.inr rfl) (pe_tup (pa_cons (pe_op op_sub (pe_dget hd1 (pv 1) (pv 0) (fun _ _ => rfl)) pe_int) (pa_cons (pv 0) pa_nil))))
      (pss_one (ps_ret (pe_lc (own := [("other", 4)]) (g := gName 4) rfl nd (pi_tup (pe_slice (r := rSlA K) sl_tupA (pv 2) po_none (po_some (pe_bmF PySem.F.slot_tuple_index PySem.F.type_tuple_index (mt_indexTI hu2) (pv 2) (pa_cons (pv 0) pa_nil))))) (blkOk_by (own := [("other", 4)]) (N := ["key", "levels", "given", "least", "other"]) (sc := defScope s_held_back) (by decide +kernel)) (fun _ _ _ _ _ => pg_name (i := 4) nd rfl (Or.inl rfl)) (fun _ _ _ _ _ => pts_one (pt_cmpR (r := rGtT K) (op_gtT hu0) (pe_tup (pa_cons (pe_dget hd1 (pv 1) (pv 4) (fun _ _ => rfl)) (pa_cons (pv 4) pa_nil))) (pv 3) (nomark _))) (fun _ _ _ _ _ => (pv 4)))))), ?_⟩
    refine ⟨fun σ' H' => ∃ l : Addr, σ' = [some (.int k), some (.ref d), some (.ref g), some (.ref l), none] ∧ Same H H' ∧ H' l = some (.tup [.int ((f k - 1 : Nat) : Int), .int k]), ?_, ?_⟩
    · have hg := ed.get k
      rw [hv k (List.mem_of_getElem? hk)] at hg
      refine ⟨_, rfl, _, rfl, d, _, rfl, hg, _, _, rfl, rfl, _, rfl, by show 2 ≤ sizeLine; decide, fun l nl => ⟨l, rfl, Same.up nl, ?_⟩⟩
      rw [upd_same]
      show some (HO.tup [.int (((f k : Nat) : Int) - 1), .int k]) = _
      rw [show ((f k : Nat) : Int) - 1 = ((f k - 1 : Nat) : Int) by omega]
    rintro σ' H1 ⟨l, rfl, s1, el⟩
    have eg1 := eg.same s1
    have ed1 := ed.same s1
    obtain ⟨hm, em⟩ := List.getElem?_eq_some_iff.mp hk
    have hno : ∀ j, j < m → ns[j]? ≠ some k := fun j hj z => by
      obtain ⟨hj2, ej⟩ := List.getElem?_eq_some_iff.mp z
      have := (List.getElem_inj hd).mp (ej.trans em.symm)
      omega
    have h1m := List.mem_of_getElem? hk
    refine ⟨_, rfl, ?_⟩
    unfold tNoPart
    refine ⟨_, rfl, ⟨g, _, rfl, eg1⟩, _, rfl, g, ns, k, m, rfl, rfl, eg1.sq, hk, hno, _, rfl, slA eg1.sq fun H2 t s2 et => ⟨t, rfl, ⟨_, et⟩, fun D nD => ?_⟩⟩
    rw [cut_to] at et
    have ed2 := ed1.same s2
    have el2 := s2 _ _ el
    rw [← List.map_take] at et
    refine lc_it (walk_tup (xs := (ns.take m).map V.int)) (fun j H' => Acc H2 D ((((ns.take m).take j).filter fun y => behB (f k - 1) k (f y, y)).map V.int) H') (Acc.start nD) (fun j H' _ ac => SqT.sm ac.s et) ?_ (fun H' ac => by
      rw [List.length_map, List.take_length] at ac
      have s12 := s1.trans s2
      exact q H' D (s12.trans ac.s) (s12.free ac.n) ac.a)
    rintro j y Ho H3 hj ac ⟨rfl, hy⟩
    obtain ⟨hj2, rfl⟩ := ints_at hy
    have hmem : (ns.take m)[j] ∈ ns := List.mem_of_mem_take (List.getElem_mem hj2)
    have htk : (ns.take m).take (j + 1) = (ns.take m).take j ++ [(ns.take m)[j]] := List.take_succ_eq_append_getElem hj2
    rw [htk, List.filter_append]
    generalize (ns.take m)[j] = y at hmem ⊢
    have hg := (ed2.same ac.s).get y
    rw [hv y hmem] at hg
    refine ⟨rfl, _, rfl, _, rfl, d, _, rfl, hg, _, rfl, by show 2 ≤ sizeLine; decide, fun u nu => ?_⟩
    have s4 := Same.up (o := .tup [.int (f y : Nat), .int y]) nu
    have eu : upd H3 u (.tup [.int (f y : Nat), .int y]) u = some (.tup [.int (f y : Nat), .int y]) := upd_same
    have ac4 := ac.same s4
    generalize upd H3 u (.tup [.int (f y : Nat), .int y]) = H4 at ac4 eu
    refine ⟨_, rfl, u, l, [((f y : Nat) : Int), y], [((f k - 1 : Nat) : Int), k], ⟨rfl, rfl⟩, ⟨SqT.of eu, SqT.of (ac4.s _ _ el2)⟩, _, rfl, ?_⟩
    rw [gt_beh]
    by_cases hb : behB (f k - 1) k (f y, y) = true
    · rw [hb, List.filter_cons_of_pos (p := fun y => behB (f k - 1) k (f y, y)) hb, List.filter_nil, List.map_append]
      refine iteT ⟨_, rfl, _, ac4.a, ?_, ac4.push⟩
      rw [List.length_map, sizeLine_eq]
      have := List.length_filter_le (fun y => behB (f k - 1) k (f y, y)) ((ns.take m).take j)
      rw [List.length_take, List.length_take] at this
      omega
    · rw [Bool.not_eq_true] at hb
      rw [hb, List.filter_cons_of_neg (p := fun y => behB (f k - 1) k (f y, y)) (by rw [hb]; exact Bool.false_ne_true), List.filter_nil, List.append_nil]
      exact iteF ac4
theorem refl_of {d : PyData} (h : SeqAt.shaped d = true) : PyData.eqv d d = true := PySem.SeqAt.eqv_refl d (SeqAt.canLay_of_shaped h)
theorem repl_all (n : Nat) : (List.replicate n true).all id = true := by
  rw [List.all_eq_true]
  intro x hx
  rw [(List.mem_replicate.mp hx).2]
  rfl
theorem sorted_one {xs ys : List Int} (hp : xs.Perm ys) (h1 : xs.Pairwise (· ≤ ·)) (h2 : ys.Pairwise (· ≤ ·)) : xs = ys := List.Perm.eq_of_pairwise (fun x y _ _ h1 h2 => Int.le_antisymm h1 h2) h1 h2 hp
theorem tupF_sm {H G : Hp} {t g : Addr} {xs : List V} {d : HO} {u : HO} (h : TupF H g xs) (ht : H t = some d) (s : Same (upd H t u) G) (hd : ∀ o ys, d ≠ .frz o (.tup ys) := by intro _ _ z; cases z) : TupF G g xs := by
  obtain ⟨o, e, z⟩ := h
  refine ⟨o, s _ _ ?_, z⟩
  rw [upd_ne (fun w => by rw [w, ht] at e; exact hd _ _ (Option.some.inj e))]
  exact e
end
end Tw

set_option Elab.async false
set_option linter.all false
set_option maxRecDepth 100000
set_option maxHeartbeats 2000000
namespace Tw
open PySem PySem.Spec PyProof.Rows L2
section
variable {P : Program} {w : World} {K : PySem.W.Frag} {mg : Str → Option Value} {base : Heap} {A : Ad}
open LamX (ExtN Tabs TabS)
/-! Needs shown, whatever the levels: ok_gofL TupF tupF_sm sorted_one repl_all dl_ints ints_dp shaped_ints refl_of RdK behB beh_iff fdE_levels AtE Acc walk_keys walk_values walk_items same_lock ok_hb ints_shT -/
theorem sorted_eqv {z1 z2 a b : List Int} (h1 : z1.Perm a) (w1 : z1.Pairwise (· ≤ ·)) (h2 : z2.Perm b) (w2 : z2.Pairwise (· ≤ ·)) : PyData.eqv (.list (z1.map .int)) (.list (z2.map .int)) = decide (a.Perm b) := by
  rw [show PyData.eqv (.list (z1.map .int)) (.list (z2.map .int)) = decide (z1 = z2) from ints_eqvL z1 z2]
  refine decide_eq_decide.mpr ⟨fun e => ?_, fun p => sorted_one (h1.trans (p.trans h2.symm)) w1 w2⟩
  subst e
  exact h1.symm.trans h2
theorem all_map_take {α : Type} (f : α → Bool) (l : List α) : (l.map f).all id = l.all f := by rw [List.all_map]; rfl
theorem any_map_take {α : Type} (f : α → Bool) (l : List α) : (l.map f).any id = l.any f := by rw [List.any_map]; rfl
def spEshB (A : Ad) : Sp := fun vs H Q _ => ∃ (o r a n : Nat) (ns : List Int) (l : List (Int × Int)), vs = [.ref o, .int r, .ref a, .int n] ∧ (1 ≤ r ∧ r ≤ 12) ∧ H a = some (.lst (ns.map V.int)) ∧ KeysIn ns ∧ AtE A.CE H o (dI l) ∧ (l.map (·.1)).Nodup ∧ l.length ≤ 20 ∧ ∀ H' : Hp, Same H H' → Q (.bl (lvB r ns n l)) H'
theorem ok_eshB (T : Tx K mg A) : FnOk P w K mg base CX0 7 A.f_e_shows A.d_e_shows ["self", "room", "row", "number"] (spEshB A) := by
  refine T.F_e_shows.ok sc_e_shows (fun vs H Q E h => ?_) (fun cdv B outer s H vs Q E hr h => ?_)
  · obtain ⟨o, r, a, n, ns, l, rfl, _⟩ := h
    rfl
  · obtain ⟨o, r, a, n, ns, l, rfl, hr1, ha, hk, at0, hkd, hkl, q⟩ := h
    have nd := sc_e_shows.nd
    have hu := hr.units
    refine ⟨_, PSs.nox (C8.pss_cut (ps_set (i := 4) nd rfl (Or.inr rfl) (pe_call (ok_gofL T) (hr.mono (by decide)) (by rfl) T.m_given_of T.F_given_of.kp (b_gof T) .nil pass0 (pa_cons (pv 1) (pa_cons (pv 2) (pa_cons (pv 3) pa_nil)))))
      (C8.pss_cut (ps_if (PW.pt (pw_or (pt_not (pt_val (pe_callB (cr_all rfl) (by rfl) T.g_all (by decide +kernel) (pa_cons (pe_lock (pe_lc (own := [("key", 5)]) (g := gName 5) (tt := tYes) rfl nd (pi_keys (pe_fld (pv 0) rfl)) (blkOk_by (own := [("key", 5)]) (N := ["self", "room", "row", "number", "given", "key", "level"]) (sc := defScope s_e_shows) (by decide +kernel)) (fun _ _ _ _ _ => pg_name (i := 5) nd rfl (Or.inl rfl)) (fun _ _ _ _ _ => pts_nil) (fun _ _ _ _ _ => (pe_call (ok_is T) (hr.mono (by decide)) (by rfl) T.m_is_integer T.F_is_integer.kp (b_is T) .nil pass0 (pa_cons (pv 5) pa_nil))))) pa_nil)))) (pw_or1 (pt_cmpR (op_neD hu) (pe_callB (Sd.cr_sortedD rfl) (by rfl) T.g_sorted (by decide +kernel) (pa_cons (pe_fld (pv 0) rfl) pa_nil)) (pe_callB cr_sortedTu (by rfl) T.g_sorted (by decide +kernel) (pa_cons (pv 4) pa_nil)) (nomark _))))) (pss_one (ps_ret pe_bl)) pss_nil)
      (C8.pss_cut (ps_if (pt_not (pt_val (pe_callB (cr_all rfl) (by rfl) T.g_all (by decide +kernel) (pa_cons (pe_lock (pe_lc (own := [("level", 6)]) (g := gName 6) (tt := tYes) rfl nd (pi_values (pe_fld (pv 0) rfl)) (blkOk_by (own := [("level", 6)]) (N := ["self", "room", "row", "number", "given", "key", "level"]) (sc := defScope s_e_shows) (by decide +kernel)) (fun _ _ _ _ _ => pg_name (i := 6) nd rfl (Or.inl rfl)) (fun _ _ _ _ _ => pts_nil) (fun _ _ _ _ _ => (pe_and (pe_call (ok_is T) (hr.mono (by decide)) (by rfl) T.m_is_integer T.F_is_integer.kp (b_is T) .nil pass0 (pa_cons (pv 6) pa_nil)) (pe_one (pe_cmpR op_ge (pv 6) pe_int (nomark _))))))) pa_nil)))) (pss_one (ps_ret pe_bl)) pss_nil)
      (C8.pss_cut (ps_if (pt_not (pt_val (pe_callB (cr_any rfl) (by rfl) T.g_any (by decide +kernel) (pa_cons (pe_lock (pe_lc (own := [("level", 6)]) (g := gName 6) (tt := tYes) rfl nd (pi_values (pe_fld (pv 0) rfl)) (blkOk_by (own := [("level", 6)]) (N := ["self", "room", "row", "number", "given", "key", "level"]) (sc := defScope s_e_shows) (by decide +kernel)) (fun _ _ _ _ _ => pg_name (i := 6) nd rfl (Or.inl rfl)) (fun _ _ _ _ _ => pts_nil) (fun _ _ _ _ _ => (pe_cmpR op_gt (pv 6) (pv 3) (nomark _))))) pa_nil)))) (pss_one (ps_ret pe_bl)) pss_nil)
      (pss_one (ps_ret (pe_callB (cr_all rfl) (by rfl) T.g_all (by decide +kernel) (pa_cons (pe_lock (pe_lc (own := [("key", 5), ("level", 6)]) (g := gTup K 2 (gCons (gName 5) (gCons (gName 6) (gNil)))) (tt := tYes) rfl nd (pi_items (pe_fld (pv 0) rfl)) (blkOk_by (own := [("key", 5), ("level", 6)]) (N := ["self", "room", "row", "number", "given", "key", "level"]) (sc := defScope s_e_shows) (by decide +kernel)) (fun _ _ _ _ _ => (pg_tup rfl (pgs_cons (pg_name (i := 5) nd rfl (Or.inl rfl)) (pgs_cons (pg_name (i := 6) nd rfl (Or.inl rfl)) pgs_nil)))) (fun _ _ _ _ _ => pts_nil) (fun _ _ _ _ _ => (pe_or (pe_cmpR op_eq (pv 6) pe_int (nomark _)) (pe_one (pe_cmpR op_ge (pe_callB (r := rLn K) call_len_seq (by rfl) T.g_len PySem.boot_len (pa_cons (pe_call (ok_hb T) (hr.mono (by decide)) (by rfl) T.m_held_back T.F_held_back.kp (b_hb T) .nil pass0 (pa_cons (pv 5) (pa_cons (pe_fldK (K := K) rfl (pv 0) rfl) (pa_cons (pv 4) pa_nil)))) pa_nil)) (pv 1) (nomark _))))))) pa_nil)))))))), ?_⟩
    obtain ⟨dx, t0, ho, e0⟩ := id at0
    have hot : o ≠ t0 := fun z => by rw [z, e0] at ho; cases ho
    refine ⟨fun σ' H' => ∃ g : Addr, σ' = [some (.ref o), some (.int r), some (.ref a), some (.int n), some (.ref g), none, none] ∧ Same H H' ∧ TupF H' g (ns.map V.int), ⟨_, rfl, _, rfl, _, rfl, r, a, n, ns, rfl, hr1, ha, hk, fun H1 g s1 eg => ⟨g, rfl, s1, eg⟩⟩, ?_⟩
    rintro σ' H1 ⟨g, rfl, s1, eg⟩
    refine ⟨fun σ' H' => σ' = [some (.ref o), some (.int r), some (.ref a), some (.int n), some (.ref g), none, none] ∧ Same H1 H' ∧ (l.map (·.1)).Perm ns, ?_, ?_⟩
    · have e1 := s1 _ _ e0
      refine ⟨t0, _, e1, trivial, fun od => ?_⟩
      have eL := upd_same (H := H1) (a := t0) (o := .frz od (.dK (dI l)))
      have eo : (upd H1 t0 (.frz od (.dK (dI l)))) o = some (.ins A.CE dx (fdE (.ref t0))) := by rw [upd_ne hot]; exact s1 _ _ ho
      refine ⟨_, rfl, o, A.CE, dx, _, _, rfl, eo, T.cTE, T.eLevels, fdE_levels _, t0, od, rfl, .inl ⟨_, eL, fun D nD => ?_⟩⟩
      refine lc_it (walk_keys (kvs := dI l)) (fun i H' => Acc (upd H1 t0 (.frz od (.dK (dI l)))) D (List.replicate i (V.bl true)) H') (Acc.start nD) (fun i H' _ ac => ac.s _ _ eL) ?_ ?_
      · rintro i y H4o H4 hi ac ⟨rfl, k, v, hkv, rfl⟩
        rw [dI_len] at hi
        obtain ⟨_, rfl, rfl⟩ := dI_at hkv
        refine ⟨rfl, iteT (B := Acc (upd H1 t0 (.frz od (.dK (dI l)))) D (List.replicate (i + 1) (V.bl true)) H4) ?_⟩
        refine ⟨_, rfl, _, rfl, .inl ⟨_, rfl, _, ac.a, by rw [List.length_replicate, sizeLine_eq]; omega, ?_⟩⟩
        rw [show List.replicate (i + 1) (V.bl true) = List.replicate i (V.bl true) ++ [V.bl true] from List.replicate_succ']
        exact ac.push
      · intro H4 ac
        have sl := same_lock e1 ac.s
        have hDt : D ≠ t0 := fun z => by rw [z, eL] at nD; cases nD
        refine ⟨ac.s _ _ eL, D, List.replicate (dI l).length true, rfl, SqL.of (by rw [upd_ne hDt, ac.a, List.map_replicate]), ?_⟩
        rw [repl_all]
        generalize upd H4 t0 (.dK (dI l)) = H5 at sl
        have es := sl _ _ e1
        have os := sl _ _ (s1 _ _ ho)
        have gs := eg.same sl
        refine ⟨_, rfl, iteF ⟨_, rfl, o, A.CE, dx, _, _, rfl, os, T.cTE, T.eLevels, fdE_levels _, t0, _, l.map (·.1), rfl, es, dI_keys _, fun z1 p1 hp1 hw1 np1 => ?_⟩⟩
        refine ⟨_, rfl, g, ns, rfl, (gs.same (Same.up np1)).sq, fun z2 p2 hp2 hw2 np2 => ?_⟩
        refine ⟨.list (z1.map .int), .list (z2.map .int), .lst (SqL.of ((Same.up np2) _ _ upd_same)) (ints_dp _ _ _), .lst (SqL.of upd_same) (ints_dp _ _ _), shaped_ints _, shaped_ints _, _, rfl, ?_⟩
        rw [sorted_eqv hp1 hw1 hp2 hw2]
        have sQ := (sl.trans (Same.up (o := .lst (z1.map V.int)) np1)).trans (Same.up (o := .lst (z2.map V.int)) np2)
        by_cases hp : (l.map (·.1)).Perm ns
        · rw [decide_eq_true hp]
          exact iteF ⟨rfl, sQ, hp⟩
        · rw [decide_eq_false hp]
          refine iteT ?_
          have z := q _ (s1.trans sQ)
          unfold lvB at z
          rw [decide_eq_false hp, Bool.false_and] at z
          exact z
    rintro σ' H2 ⟨rfl, s2, hp⟩
    unfold lvB at q
    rw [decide_eq_true hp, Bool.true_and] at q
    refine ⟨fun σ' H' => σ' = [some (.ref o), some (.int r), some (.ref a), some (.int n), some (.ref g), none, none] ∧ Same H2 H' ∧ l.all (fun p => decide (1 ≤ p.2)) = true, ?_, ?_⟩
    · have e1 := s2 _ _ (s1 _ _ e0)
      have o1 := s2 _ _ (s1 _ _ ho)
      refine ⟨t0, _, e1, trivial, fun od => ?_⟩
      have eL := upd_same (H := H2) (a := t0) (o := .frz od (.dK (dI l)))
      have eo : (upd H2 t0 (.frz od (.dK (dI l)))) o = some (.ins A.CE dx (fdE (.ref t0))) := by rw [upd_ne hot]; exact o1
      refine ⟨_, rfl, o, A.CE, dx, _, _, rfl, eo, T.cTE, T.eLevels, fdE_levels _, t0, od, _, rfl, eL, fun D nD => ?_⟩
      refine lc_it (walk_values (kvs := dI l)) (fun i H' => Acc (upd H2 t0 (.frz od (.dK (dI l)))) D (((l.take i).map fun p => decide (1 ≤ p.2)).map V.bl) H') (Acc.start nD) (fun i H' _ ac => ac.s _ _ eL) ?_ ?_
      · rintro i y H4o H4 hi ac ⟨rfl, k, hkv⟩
        rw [dI_len] at hi
        obtain ⟨_, rfl, rfl⟩ := dI_at hkv
        refine ⟨rfl, iteT (B := Acc (upd H2 t0 (.frz od (.dK (dI l)))) D (((l.take (i + 1)).map fun p => decide (1 ≤ p.2)).map V.bl) H4) ?_⟩
        refine ⟨_, rfl, _, rfl, .inl ⟨_, rfl, _, rfl, iteT ⟨_, rfl, _, _, rfl, rfl, _, ac.a, by rw [List.length_map, List.length_map, List.length_take, sizeLine_eq]; omega, ?_⟩⟩⟩
        rw [List.take_succ_eq_append_getElem hi, List.map_append, List.map_append]
        exact ac.push
      · intro H4 ac
        have sl := same_lock e1 ac.s
        have hDt : D ≠ t0 := fun z => by rw [z, eL] at nD; cases nD
        rw [dI_len, List.take_length] at ac
        refine ⟨ac.s _ _ eL, D, _, rfl, SqL.of (by rw [upd_ne hDt, ac.a]), ?_⟩
        rw [all_map_take]
        cases hall : l.all fun p => decide (1 ≤ p.2) with
        | true => exact ⟨_, rfl, iteF ⟨rfl, sl, rfl⟩⟩
        | false =>
          refine ⟨_, rfl, iteT ?_⟩
          have z := q _ ((s1.trans s2).trans sl)
          rw [hall, Bool.false_and, Bool.and_false] at z
          exact z
    rintro σ' H3 ⟨rfl, s3, hall⟩
    rw [hall, Bool.true_and] at q
    have s23 := s2.trans s3
    refine ⟨fun σ' H' => σ' = [some (.ref o), some (.int r), some (.ref a), some (.int n), some (.ref g), none, none] ∧ Same H3 H' ∧ l.any (fun p => decide ((n : Int) < p.2)) = true, ?_, ?_⟩
    · have e1 := s23 _ _ (s1 _ _ e0)
      have o1 := s23 _ _ (s1 _ _ ho)
      refine ⟨t0, _, e1, trivial, fun od => ?_⟩
      have eL := upd_same (H := H3) (a := t0) (o := .frz od (.dK (dI l)))
      have eo : (upd H3 t0 (.frz od (.dK (dI l)))) o = some (.ins A.CE dx (fdE (.ref t0))) := by rw [upd_ne hot]; exact o1
      refine ⟨_, rfl, o, A.CE, dx, _, _, rfl, eo, T.cTE, T.eLevels, fdE_levels _, t0, od, _, rfl, eL, fun D nD => ?_⟩
      refine lc_it (walk_values (kvs := dI l)) (fun i H' => Acc (upd H3 t0 (.frz od (.dK (dI l)))) D (((l.take i).map fun p => decide ((n : Int) < p.2)).map V.bl) H') (Acc.start nD) (fun i H' _ ac => ac.s _ _ eL) ?_ ?_
      · rintro i y H4o H4 hi ac ⟨rfl, k, hkv⟩
        rw [dI_len] at hi
        obtain ⟨_, rfl, rfl⟩ := dI_at hkv
        refine ⟨rfl, iteT (B := Acc (upd H3 t0 (.frz od (.dK (dI l)))) D (((l.take (i + 1)).map fun p => decide ((n : Int) < p.2)).map V.bl) H4) ?_⟩
        refine ⟨_, rfl, _, rfl, _, _, rfl, rfl, _, ac.a, by rw [List.length_map, List.length_map, List.length_take, sizeLine_eq]; omega, ?_⟩
        rw [List.take_succ_eq_append_getElem hi, List.map_append, List.map_append]
        exact ac.push
      · intro H4 ac
        have sl := same_lock e1 ac.s
        have hDt : D ≠ t0 := fun z => by rw [z, eL] at nD; cases nD
        rw [dI_len, List.take_length] at ac
        refine ⟨ac.s _ _ eL, D, _, rfl, SqL.of (by rw [upd_ne hDt, ac.a]), ?_⟩
        rw [any_map_take]
        cases hany : l.any fun p => decide ((n : Int) < p.2) with
        | true => exact ⟨_, rfl, iteF ⟨rfl, sl, rfl⟩⟩
        | false =>
          refine ⟨_, rfl, iteT ?_⟩
          have z := q _ ((s1.trans s23).trans sl)
          rw [hany, Bool.false_and] at z
          exact z
    rintro σ' H4 ⟨rfl, s4, hany⟩
    rw [hany, Bool.true_and] at q
    have s24 := s23.trans s4
    have eg4 := eg.same s24
    have e1 := s24 _ _ (s1 _ _ e0)
    have o1 := s24 _ _ (s1 _ _ ho)
    refine ⟨t0, _, e1, trivial, fun od => ?_⟩
    have eL := upd_same (H := H4) (a := t0) (o := .frz od (.dK (dI l)))
    have eo : (upd H4 t0 (.frz od (.dK (dI l)))) o = some (.ins A.CE dx (fdE (.ref t0))) := by rw [upd_ne hot]; exact o1
    have hge : ∀ p ∈ l, 1 ≤ p.2 := fun p hpl => of_decide_eq_true (List.all_eq_true.mp hall p hpl)
    have hlv : ∀ y ∈ ns, lev l y = ((lev l y).toNat : Int) ∧ 1 ≤ lev l y := fun y hy => by
      have := hge _ (lev_ex hkd (hp.mem_iff.mpr hy))
      omega
    let tst : Int → Bool := fun k => decide (lev l k = 1) || decide (r ≤ (someL l ns (ns.idxOf k) k).length)
    refine ⟨_, rfl, o, A.CE, dx, _, _, rfl, eo, T.cTE, T.eLevels, fdE_levels _, t0, od, _, rfl, eL, fun D nD => ?_⟩
    refine lc_it (walk_items (kvs := dI l)) (fun i H' => Acc (upd H4 t0 (.frz od (.dK (dI l)))) D (((l.take i).map fun p => tst p.1).map V.bl) H') (Acc.start nD) (fun i H' _ ac => ac.s _ _ eL) ?_ ?_
    · rintro i y H4b H4c hi ac ⟨T', x, x2, rfl, hT, rfl, x1, y1⟩
      rw [dI_len] at hi
      have hkv := dI_get hi
      replace x1 : ((dI l)[i]?.map fun kv => kV kv.1) = some x := x1
      replace y1 : (dI l)[i]?.map Prod.snd = some x2 := y1
      rw [hkv] at x1 y1
      obtain rfl := (Option.some.inj x1).symm
      obtain rfl := (Option.some.inj y1).symm
      have hmem := List.getElem_mem hi
      rw [List.take_succ_eq_append_getElem hi, List.map_append, List.map_append]
      generalize l[i] = p at hmem
      have hkn : p.1 ∈ ns := hp.mem_iff.mp (List.mem_map.mpr ⟨p, hmem, rfl⟩)
      have hv := lev_mem hkd hmem
      have hp1 := hge p hmem
      have sT := Same.up (H := H4b) (o := .tup [kV (.inl p.1), .int p.2]) hT
      have ac3 := ac.same sT
      have hl20 : (((l.take i).map fun p => tst p.1).map V.bl).length ≤ 20 := by rw [List.length_map, List.length_map, List.length_take]; omega
      refine ⟨_, _, rfl, SqT.of upd_same, rfl, _, _, rfl, _, _, rfl, rfl, rfl, iteT (B := Acc (upd H4 t0 (.frz od (.dK (dI l)))) D (((l.take i).map fun p => tst p.1).map V.bl ++ ([p].map fun p => tst p.1).map V.bl) (upd H4b T' (.tup [kV (.inl p.1), .int p.2]))) ?_⟩
      generalize upd H4b T' (.tup [kV (.inl p.1), .int p.2]) = H5 at ac3
      generalize ((l.take i).map fun p => tst p.1).map V.bl = acc0 at ac3 hl20
      have fin : ∀ {H6 : Hp}, Acc (upd H4 t0 (.frz od (.dK (dI l)))) D acc0 H6 → ∃ acc, H6 D = some (.lst acc) ∧ acc.length < sizeLine ∧ Acc (upd H4 t0 (.frz od (.dK (dI l)))) D (acc0 ++ [V.bl (tst p.1)]) (upd H6 D (.lst (acc ++ [V.bl (tst p.1)]))) := fun ac6 => ⟨_, ac6.a, by rw [sizeLine_eq]; omega, ac6.push⟩
      refine ⟨_, rfl, rfl, _, rfl, ?_⟩
      by_cases h1 : p.2 = 1
      · have ht : tst p.1 = true := by
          show (decide (lev l p.1 = 1) || _) = true
          rw [hv, decide_eq_true h1, Bool.true_or]
        have f := fin ac3
        rw [ht] at f
        show (if decide (V.int p.2 = V.int 1) = true then _ else _)
        refine ite_b (c := true) (decide_eq_true (by rw [h1])) (iteT ?_)
        show ∃ acc, H5 D = some (.lst acc) ∧ acc.length < sizeLine ∧ Acc _ D (acc0 ++ [V.bl (tst p.1)]) (upd H5 D (.lst (acc ++ [V.bl true])))
        rw [ht]
        exact f
      refine ite_b (c := false) (decide_eq_false (fun z => h1 (by injection z))) (iteF ?_)
      obtain ⟨m, hm⟩ := mem_at hkn
      refine ⟨_, rfl, _, rfl, o, A.CE, dx, _, _, rfl, ac3.s _ _ eo, T.cTE, T.eLevels, fdE_levels _, _, rfl, t0, g, m, p.1, _, ns, fun k => (lev l k).toNat, rfl, .inr ⟨od, ac3.s _ _ eL⟩, tupF_sm eg4 e1 ac3.s, hk.1, hk.2.2, hm, fun y hy => ?_, ?_, fun H6 q6 s6 _ e6 => ?_⟩
      · rw [dI_val (hp.mem_iff.mpr hy), (hlv y hy).1]
      · have := (hlv _ hkn).2
        show 1 ≤ (lev l p.1).toNat
        omega
      refine ⟨q6, _, rfl, .inl (SqL.of e6), _, rfl, _, _, rfl, rfl, ?_⟩
      have hflt : ((ns.take m).filter fun y => behB ((lev l p.1).toNat - 1) p.1 ((lev l y).toNat, y)) = someL l ns m p.1 := by
        unfold someL
        refine List.filter_congr fun y hy => ?_
        have hy := List.mem_of_mem_take hy
        obtain ⟨a1, a2⟩ := hlv y hy
        obtain ⟨b1, b2⟩ := hlv _ hkn
        rw [Bool.eq_iff_iff, beh_iff, Bool.or_eq_true, Bool.and_eq_true, decide_eq_true_eq, decide_eq_true_eq, decide_eq_true_eq]
        show (lev l p.1).toNat - 1 < (lev l y).toNat ∨ ((lev l p.1).toNat - 1 = (lev l y).toNat ∧ p.1 < y) ↔ _
        omega
      have ht : tst p.1 = decide (((r : Nat) : Int) ≤ (((((ns.take m).filter fun y => behB ((lev l p.1).toNat - 1) p.1 ((lev l y).toNat, y)).map V.int).length : Nat) : Int)) := by
        show (decide (lev l p.1 = 1) || decide (r ≤ (someL l ns (ns.idxOf p.1) p.1).length)) = _
        rw [decide_eq_false (show ¬ lev l p.1 = 1 by rw [hv]; exact h1), Bool.false_or, idx_at hk.2.2 hm, hflt, List.length_map]
        exact decide_eq_decide.mpr (by omega)
      obtain ⟨acc, g1, g2, g3⟩ := fin (ac3.same s6)
      refine ⟨acc, g1, g2, ?_⟩
      show Acc _ _ (acc0 ++ [V.bl (tst p.1)]) (upd H6 D (.lst (acc ++ [V.bl (decide (((r : Nat) : Int) ≤ (((((ns.take m).filter fun y => behB ((lev l p.1).toNat - 1) p.1 ((lev l y).toNat, y)).map V.int).length : Nat) : Int)))])))
      rw [← ht]
      exact g3
    · intro H9 ac
      have sl := same_lock e1 ac.s
      have hDt : D ≠ t0 := fun z => by rw [z, eL] at nD; cases nD
      rw [dI_len, List.take_length] at ac
      refine ⟨ac.s _ _ eL, D, _, rfl, SqL.of (by rw [upd_ne hDt, ac.a]), ?_⟩
      rw [all_map_take]
      have z := q _ ((s1.trans s24).trans sl)
      have ez : (l.all fun p => tst p.1) = (List.range ns.length).all (lvOkB r ns l) := by
        rw [Bool.eq_iff_iff, List.all_eq_true, List.all_eq_true]
        refine ⟨fun h m hm => ?_, fun h p hpl => ?_⟩
        · have hm := List.mem_range.mp hm
          have hk1 : ns[m]? = some (ns.getD m 0) := by rw [List.getD_eq_getElem?_getD, List.getElem?_eq_getElem hm]; rfl
          have := h _ (lev_ex hkd (hp.mem_iff.mpr (List.mem_of_getElem? hk1)))
          unfold lvOkB
          have this : (decide (lev l (ns.getD m 0) = 1) || decide (r ≤ (someL l ns (ns.idxOf (ns.getD m 0)) (ns.getD m 0)).length)) = true := this
          rw [idx_at hk.2.2 hk1] at this
          exact this
        · have hkn : p.1 ∈ ns := hp.mem_iff.mp (List.mem_map.mpr ⟨p, hpl, rfl⟩)
          obtain ⟨m, hm⟩ := mem_at hkn
          have := h m (List.mem_range.mpr (List.getElem?_eq_some_iff.mp hm).1)
          unfold lvOkB at this
          rw [List.getD_eq_getElem?_getD, hm] at this
          show (decide (lev l p.1 = 1) || decide (r ≤ (someL l ns (ns.idxOf p.1) p.1).length)) = true
          rw [idx_at hk.2.2 hm]
          exact this
      rw [← ez] at z
      exact z
theorem b_eshB (T : Tx K mg A) : L2.Binds K A.d_e_shows ["self", "room", "row", "number"] [] := T.F_e_shows.binds fun _ _ _ _ _ _ us hl => match us, hl with | [_, _, _, _], _ => rfl

end
end Tw

set_option Elab.async false
set_option linter.all false
set_option maxRecDepth 100000
set_option maxHeartbeats 2000000
namespace Tw
open PySem PySem.Spec PyProof.Rows L2
section
variable {P : Program} {w : World} {K : PySem.W.Frag} {mg : Str → Option Value} {base : Heap} {A : Ad}
open LamX (ExtN Tabs TabS)
/-! the law's own words of ways and levels: every_law lvB someL lvOkB lev lev_mem lev_ex dI dI_len dI_get dI_at dI_val dI_keys sorted_eqv all_map_take any_map_take RdK RdK.get RdK.same inV_ints ints_flat cut_to atI_nat walk_keys same_lock Acc KeysIn mem_at walk_list walk_enum ints_at -/
def inB (r : Nat) (ns ws : List Int) (i : Nat) : Bool := decide (ws.getD i 0 ∈ ns.take (i + r))
theorem inB_all {r : Nat} {ns ws : List Int} (hd : ns.Nodup) (hp : ws.Perm ns) : (List.range ws.length).all (inB r ns ws) = decide (ws ∈ everyL r ns) := by
  rw [Bool.eq_iff_iff, List.all_eq_true, decide_eq_true_eq, every_law hd]
  refine ⟨fun h => ⟨hp, fun i k e => ?_⟩, fun ⟨_, h⟩ i hi => ?_⟩
  · have := h i (List.mem_range.mpr (List.getElem?_eq_some_iff.mp e).1)
    unfold inB at this
    rw [List.getD_eq_getElem?_getD, e] at this
    exact of_decide_eq_true this
  · have hi := List.mem_range.mp hi
    unfold inB
    rw [decide_eq_true_eq, List.getD_eq_getElem?_getD, List.getElem?_eq_getElem hi]
    exact h i _ (List.getElem?_eq_getElem hi)
def spLiw : Sp := fun vs H Q _ => ∃ (r g t : Nat) (ns ws : List Int), vs = [.int r, .ref g, .ref t] ∧ H g = some (.lst (ns.map V.int)) ∧ KeysIn ns ∧ H t = some (.lst (ws.map V.int)) ∧ ∀ H' : Hp, Same H H' → Q (.bl (decide (ws ∈ everyL r ns))) H'
theorem ok_liw (T : Tx K mg A) : FnOk P w K mg base CX0 1 A.f__law_is_way A.d__law_is_way ["room", "given", "written"] spLiw := by
  refine T.F__law_is_way.ok sc__law_is_way (fun vs H Q E h => ?_) (fun cdv B outer s H vs Q E hr h => ?_)
  · obtain ⟨r, g, t, ns, ws, rfl, _⟩ := h
    rfl
  · obtain ⟨r, g, t, ns, ws, rfl, eg, hk, et, q⟩ := h
    have nd := sc__law_is_way.nd
    have hu := hr.units
    refine ⟨_, (C8.pss_cut (ps_if (pt_cmpR (op_neD hu) (pe_callB cr_sortedI (by rfl) T.g_sorted (by decide +kernel) (pa_cons (pv 2) pa_nil)) (pe_callB cr_sortedI (by rfl) T.g_sorted (by decide +kernel) (pa_cons (pv 1) pa_nil)) (nomark _)) (pss_one (ps_ret pe_bl)) pss_nil)
      (pss_one (ps_ret (pe_callB (cr_all rfl) (by rfl) T.g_all (by decide +kernel) (pa_cons (pe_lc (own := [("at", 3)]) (g := gName 3) (tt := tYes) rfl nd (pi_range1 rfl T.g_range (pa_cons (pe_callB (r := rLn K) call_len_seq (by rfl) T.g_len PySem.boot_len (pa_cons (pv 2) pa_nil)) pa_nil)) (blkOk_by (own := [("at", 3)]) (N := ["room", "given", "written", "at"]) (sc := defScope s__law_is_way) (by decide +kernel)) (fun _ _ _ _ _ => pg_name (i := 3) nd rfl (Or.inl rfl)) (fun _ _ _ _ _ => pts_nil) (fun _ _ _ _ _ => (pe_cmpR (r := L2.rIn K false) op_in_seq (pe_ix (r := rIxL K) ix_list (pv 2) (pv 3) (fun _ _ => rfl)) (pe_slice (r := rSlL K) sl_list (pv 1) po_none (po_some (pe_op op_add (pv 3) (pv 0)))) (by rfl)))) pa_nil))))), ?_⟩
    refine ⟨fun σ' H' => σ' = [some (.int r), some (.ref g), some (.ref t), none] ∧ Same H H' ∧ ws.Perm ns, ?_, ?_⟩
    · refine ⟨_, rfl, t, ws, rfl, SqL.of et, fun z1 p1 hp1 hw1 np1 => ?_⟩
      refine ⟨_, rfl, g, ns, rfl, SqL.of ((Same.up np1) _ _ eg), fun z2 p2 hp2 hw2 np2 => ?_⟩
      refine ⟨.list (z1.map .int), .list (z2.map .int), .lst (SqL.of ((Same.up np2) _ _ upd_same)) (ints_dp _ _ _), .lst (SqL.of upd_same) (ints_dp _ _ _), shaped_ints _, shaped_ints _, _, rfl, ?_⟩
      rw [sorted_eqv hp1 hw1 hp2 hw2]
      have sQ := (Same.up (o := .lst (z1.map V.int)) np1).trans (Same.up (o := .lst (z2.map V.int)) np2)
      by_cases hp : ws.Perm ns
      · rw [decide_eq_true hp]
        exact iteF ⟨rfl, sQ, hp⟩
      · rw [decide_eq_false hp]
        refine iteT ?_
        have z := q _ sQ
        rw [decide_eq_false (fun y => hp ((every_law hk.2.2).mp y).1)] at z
        exact z
    rintro σ' H1 ⟨rfl, s1, hp⟩
    have eg1 := s1 _ _ eg
    have et1 := s1 _ _ et
    have hl : ws.length ≤ 12 := by rw [hp.length_eq]; exact hk.1
    refine ⟨_, rfl, t, _, rfl, .inl (SqL.of et1), _, rfl, by rw [List.length_map]; omega, by rw [List.length_map]; omega, fun D nD => ?_⟩
    rw [List.length_map, Int.toNat_natCast]
    refine lc_it (walk_range (lo := 0) (n := ws.length)) (fun i H' => Acc H1 D (((List.range i).map (inB r ns ws)).map V.bl) H') (Acc.start nD) (fun _ _ _ _ => trivial) ?_ ?_
    · rintro i y Ho H2 hi ac ⟨rfl, ey⟩
      obtain rfl : y = V.int (i : Nat) := ey.trans (by show V.int (0 + (i : Int)) = _; rw [Int.zero_add])
      refine ⟨rfl, iteT (B := Acc H1 D (((List.range (i + 1)).map (inB r ns ws)).map V.bl) H2) ?_⟩
      have hat : atI (ws.map V.int) ((i : Nat) : Int) = some (V.int (ws.getD i 0)) := atV_nat V.int 0 hi
      refine ⟨_, rfl, _, rfl, t, _, _, _, rfl, rfl, SqL.of (ac.s _ _ et1), hat, _, rfl, ?_⟩
      unfold tNoPart
      refine ⟨_, rfl, _, rfl, _, _, rfl, rfl, _, rfl, g, _, rfl, SqL.of (ac.s _ _ eg1), fun p np => ?_⟩
      rw [show cutV (ns.map V.int) none (some (((i : Nat) : Int) + ((r : Nat) : Int))) = (ns.take (i + r)).map V.int by rw [show ((i : Nat) : Int) + ((r : Nat) : Int) = ((i + r : Nat) : Int) by omega, cut_to, List.map_take]]
      have ac3 := ac.same (Same.up (o := .lst ((ns.take (i + r)).map V.int)) np)
      refine ⟨p, _, rfl, .inl (SqL.of upd_same), rfl, ints_flat _, ?_⟩
      rw [if_neg Bool.false_ne_true, inV_ints]
      refine ⟨_, ac3.a, by rw [List.length_map, List.length_map, List.length_range, sizeLine_eq]; omega, ?_⟩
      rw [List.range_succ, List.map_append, List.map_append]
      exact ac3.push
    · intro H2 ac
      refine ⟨D, _, rfl, SqL.of ac.a, ?_⟩
      rw [all_map_take, inB_all hk.2.2 hp]
      exact q _ (s1.trans ac.s)
theorem b_liw (T : Tx K mg A) : L2.Binds K A.d__law_is_way ["room", "given", "written"] [] := T.F__law_is_way.binds fun _ _ _ _ _ _ us hl => match us, hl with | [_, _, _], _ => rfl
def oneB (r : Nat) (ns : List Int) (l : List (Int × Int)) (m : Nat) : Bool := decide (1 ≤ lev l (ns.getD m 0)) && lvOkB r ns l m
theorem oneB_all {r n : Nat} {ns : List Int} {l : List (Int × Int)} (hd : (l.map (·.1)).Nodup) (hp : (l.map (·.1)).Perm ns) : (l.any (fun p => decide ((n : Int) < p.2)) && (List.range ns.length).all (oneB r ns l)) = lvB r ns n l := by
  unfold lvB
  rw [decide_eq_true hp, Bool.true_and]
  congr 1
  rw [Bool.eq_iff_iff, Bool.and_eq_true, List.all_eq_true, List.all_eq_true, List.all_eq_true]
  refine ⟨fun h => ⟨fun p hpl => ?_, fun m hm => ?_⟩, fun ⟨h1, h2⟩ m hm => ?_⟩
  · obtain ⟨m, hm⟩ := mem_at (hp.mem_iff.mp (List.mem_map.mpr ⟨p, hpl, rfl⟩))
    have := h m (List.mem_range.mpr (List.getElem?_eq_some_iff.mp hm).1)
    unfold oneB at this
    rw [List.getD_eq_getElem?_getD, hm, Bool.and_eq_true] at this
    have z := this.1
    rw [show (some p.1).getD 0 = p.1 from rfl, lev_mem hd hpl] at z
    exact z
  · have := h m hm
    unfold oneB at this
    rw [Bool.and_eq_true] at this
    exact this.2
  · unfold oneB
    rw [h2 m hm, Bool.and_true, decide_eq_true_eq]
    have hm := List.mem_range.mp hm
    have hk : ns.getD m 0 ∈ l.map (·.1) := hp.mem_iff.mpr (by
      rw [List.getD_eq_getElem?_getD, List.getElem?_eq_getElem hm]
      exact List.getElem_mem hm)
    exact of_decide_eq_true (h1 _ (lev_ex hd hk))
theorem all_lt_false {f : Nat → Bool} {n i : Nat} (h : i < n) (hf : f i = false) : (List.range n).all f = false := by
  rw [List.all_eq_false]
  exact ⟨i, List.mem_range.mpr h, by rw [hf]; exact Bool.false_ne_true⟩
def spLal : Sp := fun vs H Q _ => ∃ (r g n d : Nat) (ns : List Int) (l : List (Int × Int)), vs = [.int r, .ref g, .int n, .ref d] ∧ H g = some (.lst (ns.map V.int)) ∧ KeysIn ns ∧ H d = some (.dK (dI l)) ∧ (l.map (·.1)).Nodup ∧ l.length ≤ 20 ∧ ∀ H' : Hp, Same H H' → Q (.bl (lvB r ns n l)) H'
theorem ok_lal (T : Tx K mg A) : FnOk P w K mg base CX0 1 A.f__law_are_levels A.d__law_are_levels ["room", "given", "number", "levels"] spLal := by
  refine T.F__law_are_levels.ok sc__law_are_levels (fun vs H Q E h => ?_) (fun cdv B outer s H vs Q E hr h => ?_)
  · obtain ⟨r, g, n, d, ns, l, rfl, _⟩ := h
    rfl
  · obtain ⟨r, g, n, d, ns, l, rfl, eg, hk, ed, hkd, hl20, q⟩ := h
    have nd := sc__law_are_levels.nd
    have hu := hr.units
    have hd1 := Nat.lt_of_le_of_lt (Nat.add_le_add_left (show 1 ≤ 64 by decide) _) hr.units
    refine ⟨_, (C8.pss_cut (ps_if (PW.pt (pw_or (pt_cmpR (op_neD hu) (pe_callB (Sd.cr_sortedD rfl) (by rfl) T.g_sorted (by decide +kernel) (pa_cons (pv 3) pa_nil)) (pe_callB cr_sortedI (by rfl) T.g_sorted (by decide +kernel) (pa_cons (pv 1) pa_nil)) (nomark _)) (pw_or1 (pt_not (pt_val (pe_callB (cr_any rfl) (by rfl) T.g_any (by decide +kernel) (pa_cons (pe_lock (pe_lc (own := [("key", 4)]) (g := gName 4) (tt := tYes) rfl nd (pi_keys (pv 3)) (blkOk_by (own := [("key", 4)]) (N := ["room", "given", "number", "levels", "key", "at", "level", "some", "one"]) (sc := defScope s__law_are_levels) (by decide +kernel)) (fun _ _ _ _ _ => pg_name (i := 4) nd rfl (Or.inl rfl)) (fun _ _ _ _ _ => pts_nil) (fun _ _ _ _ _ => (pe_cmpR op_gt (pe_dget hd1 (pv 3) (pv 4) (fun _ _ => rfl)) (pv 2) (nomark _))))) pa_nil))))))) (pss_one (ps_ret pe_bl)) pss_nil)
      (C8.pss_cut (ps_for PassesOwn.never rfl (pi_enS (by rfl) T.g_enumerate (pa_cons (pv 1) pa_nil)) (pg_tup rfl (pgs_cons (pg_name (i := 5) nd rfl (Or.inl rfl)) (pgs_cons (pg_name (i := 4) nd rfl (Or.inr rfl)) pgs_nil))) (pss_cons (ps_set (i := 6) nd rfl (Or.inr rfl) (pe_dget hd1 (pv 3) (pv 4) (fun _ _ => rfl)))
      (C8.pss_cut (ps_if (pt_cmpR op_lt (pv 6) pe_int (nomark _)) (pss_one (ps_ret pe_bl)) pss_nil)
      (pss_cons (ps_setLc (i := 7) (own := [("one", 8)]) (g := gName 8) rfl nd rfl rfl (sw_true rfl rfl rfl (by decide +kernel)) (pi_list (pe_slice (r := rSlL K) sl_list (pv 1) po_none (po_some (pv 5)))) (blkOk_by (own := [("one", 8)]) (N := ["room", "given", "number", "levels", "key", "at", "level", "some", "one"]) (sc := defScope s__law_are_levels) (by decide +kernel)) (fun _ _ _ _ _ => pg_name (i := 8) nd rfl (Or.inl rfl)) (fun _ _ _ _ _ => pts_one (PW.pt (pw_or (pt_cmpR op_ge (pe_dget hd1 (pv 3) (pv 8) (fun _ _ => rfl)) (pv 6) (nomark _)) (pw_or1 (PW.pt (pw_and (pt_cmpR op_eq (pe_dget hd1 (pv 3) (pv 8) (fun _ _ => rfl)) (pe_op op_sub (pv 6) pe_int) (nomark _)) (pw_and1 (pt_cmpR op_gt (pv 8) (pv 4) (nomark _))))))))) (fun _ _ _ _ _ => (pv 8)))
      (pss_one (ps_if (PW.pt (pw_and (pt_cmpR op_gt (pv 6) pe_int (nomark _)) (pw_and1 (pt_cmpR op_lt (pe_callB (r := rLn K) call_len_seq (by rfl) T.g_len PySem.boot_len (pa_cons (pv 7) pa_nil)) (pv 0) (nomark _))))) (pss_one (ps_ret pe_bl)) pss_nil))))))
      (pss_one (ps_ret pe_bl)))), ?_⟩
    refine ⟨fun σ' H' => σ' = [some (.int r), some (.ref g), some (.int n), some (.ref d), none, none, none, none, none] ∧ Same H H' ∧ (l.map (·.1)).Perm ns ∧ l.any (fun p => decide ((n : Int) < p.2)) = true, ?_, ?_⟩
    · refine ⟨_, rfl, d, _, l.map (·.1), rfl, ed, dI_keys _, fun z1 p1 hp1 hw1 np1 => ?_⟩
      refine ⟨_, rfl, g, ns, rfl, SqL.of ((Same.up np1) _ _ eg), fun z2 p2 hp2 hw2 np2 => ?_⟩
      refine ⟨.list (z1.map .int), .list (z2.map .int), .lst (SqL.of ((Same.up np2) _ _ upd_same)) (ints_dp _ _ _), .lst (SqL.of upd_same) (ints_dp _ _ _), shaped_ints _, shaped_ints _, _, rfl, ?_⟩
      rw [sorted_eqv hp1 hw1 hp2 hw2]
      have sQ := (Same.up (o := .lst (z1.map V.int)) np1).trans (Same.up (o := .lst (z2.map V.int)) np2)
      by_cases hp : (l.map (·.1)).Perm ns
      case neg =>
        rw [decide_eq_false hp]
        refine iteT ?_
        have z := q _ sQ
        unfold lvB at z
        rw [decide_eq_false hp, Bool.false_and] at z
        exact z
      rw [decide_eq_true hp]
      refine iteF ?_
      have e1 := sQ _ _ ed
      generalize upd (upd H p1 (.lst (z1.map V.int))) p2 (.lst (z2.map V.int)) = H1 at sQ e1
      refine ⟨d, _, e1, trivial, fun od => ?_⟩
      have eL := upd_same (H := H1) (a := d) (o := .frz od (.dK (dI l)))
      refine ⟨_, rfl, d, od, rfl, .inl ⟨_, eL, fun D nD => ?_⟩⟩
      refine lc_it (walk_keys (kvs := dI l)) (fun i H' => Acc (upd H1 d (.frz od (.dK (dI l)))) D (((l.take i).map fun p => decide ((n : Int) < p.2)).map V.bl) H') (Acc.start nD) (fun i H' _ ac => ac.s _ _ eL) ?_ ?_
      · rintro i y H4o H4 hi ac ⟨rfl, k, v, hkv, rfl⟩
        rw [dI_len] at hi
        obtain ⟨_, rfl, rfl⟩ := dI_at hkv
        have hmem := List.getElem_mem hi
        rw [List.take_succ_eq_append_getElem hi, List.map_append, List.map_append]
        generalize l[i] = p at hmem
        have hl2 : (((l.take i).map fun p => decide ((n : Int) < p.2)).map V.bl).length ≤ 20 := by rw [List.length_map, List.length_map, List.length_take]; omega
        refine ⟨rfl, iteT (B := Acc (upd H1 d (.frz od (.dK (dI l)))) D (((l.take i).map fun p => decide ((n : Int) < p.2)).map V.bl ++ ([p].map fun p => decide ((n : Int) < p.2)).map V.bl) H4) ?_⟩
        have hg := RdK.get (H := H4) (d := d) (kvs := dI l) (.inr ⟨od, ac.s _ _ eL⟩) p.1
        rw [dI_val (List.mem_map.mpr ⟨p, hmem, rfl⟩), lev_mem hkd hmem] at hg
        refine ⟨_, rfl, _, rfl, d, _, rfl, hg, _, rfl, _, _, rfl, rfl, _, ac.a, by rw [sizeLine_eq]; omega, ac.push⟩
      · intro H4 ac
        have sl := same_lock e1 ac.s
        have hDt : D ≠ d := fun z => by rw [z, eL] at nD; cases nD
        rw [dI_len, List.take_length] at ac
        refine ⟨ac.s _ _ eL, D, _, rfl, SqL.of (by rw [upd_ne hDt, ac.a]), ?_⟩
        rw [any_map_take]
        cases hany : l.any fun p => decide ((n : Int) < p.2) with
        | true => exact ⟨_, rfl, iteF ⟨rfl, sQ.trans sl, hp, rfl⟩⟩
        | false =>
          refine ⟨_, rfl, iteT ?_⟩
          have z := q _ (sQ.trans sl)
          rw [← oneB_all hkd hp, hany, Bool.false_and] at z
          exact z
    rintro σ' H1 ⟨rfl, s1, hp, hany⟩
    have eg1 := s1 _ _ eg
    have ed1 := s1 _ _ ed
    have hqf : ∀ {m : Nat}, m < ns.length → oneB r ns l m = false → ∀ H' : Hp, Same H H' → Q (.bl false) H' := fun hm hf H' s' => by
      have z := q H' s'
      rw [← oneB_all hkd hp, all_lt_false hm hf, Bool.and_false] at z
      exact z
    refine ⟨fun σ' H' => (∃ x4 x5 x6 x7 : Option V, σ' = [some (.int r), some (.ref g), some (.int n), some (.ref d), x4, x5, x6, x7, none]) ∧ Same H1 H' ∧ (List.range ns.length).all (oneB r ns l) = true, ?_, ?_⟩
    · refine ⟨_, rfl, g, _, rfl, .inl ⟨SqL.of eg1, ?_⟩⟩
      refine for_it (walk_enum (xs := ns.map V.int)) (fun i σ' H' => (∃ x4 x5 x6 x7 : Option V, σ' = [some (.int r), some (.ref g), some (.int n), some (.ref d), x4, x5, x6, x7, none]) ∧ Same H1 H' ∧ (List.range i).all (oneB r ns l) = true) ⟨⟨none, none, none, none, rfl⟩, Same.refl _, rfl⟩ (fun i σ' H' _ h => SqL.of (h.2.1 _ _ eg1)) ?_ ?_
      · rintro i v σ' Ho H3 hi ⟨⟨x4, x5, x6, x7, rfl⟩, s3, hall⟩ ⟨T', x, x2, rfl, hT, rfl, e1, e2⟩
        obtain ⟨hi', rfl⟩ := ints_at e2
        cases e1
        have hgd : ns.getD i 0 = ns[i] := by rw [List.getD_eq_getElem?_getD, List.getElem?_eq_getElem hi']; rfl
        have s4 := s3.trans (Same.up (o := .tup [V.int (i : Nat), V.int ns[i]]) hT)
        refine ⟨_, _, rfl, SqT.of upd_same, rfl, _, _, rfl, _, _, rfl, rfl, ?_⟩
        generalize upd Ho T' (.tup [V.int (i : Nat), V.int ns[i]]) = H4 at s4
        have hkm : ∀ y ∈ ns, y ∈ l.map (·.1) := fun y hy => hp.mem_iff.mpr hy
        have hg := RdK.get (H := H4) (d := d) (kvs := dI l) (.inl (s4 _ _ ed1)) ns[i]
        rw [dI_val (hkm _ (List.getElem_mem hi'))] at hg
        refine ⟨_, rfl, _, rfl, d, _, rfl, hg, ?_⟩
        have hone : oneB r ns l i = (decide (1 ≤ lev l ns[i]) && (decide (lev l ns[i] = 1) || decide (r ≤ (someL l ns i ns[i]).length))) := by
          unfold oneB lvOkB
          rw [hgd]
        generalize hkk : ns[i] = k at *
        refine ⟨fun σ' H' => σ' = [some (.int r), some (.ref g), some (.int n), some (.ref d), some (.int k), some (.int i), some (.int (lev l k)), x7, none] ∧ H' = H4 ∧ 1 ≤ lev l k, ?_, ?_⟩
        · refine ⟨_, rfl, _, _, rfl, rfl, _, rfl, ?_⟩
          by_cases c : lev l k < 1
          · rw [decide_eq_true c]
            refine iteT (hqf hi' (by rw [hone, decide_eq_false (by omega), Bool.false_and]) _ (s1.trans s4))
          · rw [decide_eq_false c]
            exact iteF ⟨rfl, rfl, by omega⟩
        rintro σ' Hx ⟨rfl, ex, hge⟩
        obtain rfl := ex.symm
        refine ⟨_, rfl, ?_⟩
        unfold tNoPart
        refine ⟨_, rfl, _, rfl, g, _, rfl, SqL.of (s4 _ _ eg1), fun p np => ?_⟩
        rw [cut_to, ← List.map_take]
        have s5 := s4.trans (Same.up (o := .lst ((ns.take i).map V.int)) np)
        have ep : upd H4 p (.lst ((ns.take i).map V.int)) p = _ := upd_same
        generalize upd H4 p (.lst ((ns.take i).map V.int)) = H5 at s5 ep
        have ed5 := s5 _ _ ed1
        let tst : Int → Bool := fun y => decide (lev l k ≤ lev l y) || (decide (lev l y = lev l k - 1) && decide (k < y))
        refine ⟨p, rfl, ⟨_, SqL.of ep⟩, fun D nD => ?_⟩
        refine lc_it (walk_list (xs := (ns.take i).map V.int)) (fun j H' => Acc H5 D ((((ns.take i).take j).filter tst).map V.int) H') (Acc.start nD) (fun j H' _ ac => SqL.of (ac.s _ _ ep)) ?_ ?_
        · rintro j y Hp H6 hj ac ⟨rfl, hy⟩
          obtain ⟨hj2, rfl⟩ := ints_at hy
          have hmy : (ns.take i)[j] ∈ ns := List.mem_of_mem_take (List.getElem_mem hj2)
          have hfl := List.length_filter_le tst ((ns.take i).take j)
          rw [List.length_take, List.length_take] at hfl
          have h12 := hk.1
          rw [List.take_succ_eq_append_getElem hj2, List.filter_append]
          generalize (ns.take i)[j] = y at hmy
          have hg := RdK.get (H := H6) (d := d) (kvs := dI l) (.inl (ac.s _ _ ed5)) y
          rw [dI_val (hkm _ hmy)] at hg
          have yes : tst y = true → Acc H5 D ((((ns.take i).take j).filter tst ++ [y].filter tst).map V.int) (upd H6 D (.lst ((((ns.take i).take j).filter tst).map V.int ++ [V.int y]))) := fun ht => by
            rw [List.filter_cons_of_pos ht, List.filter_nil, List.map_append]
            exact ac.push
          have no : tst y = false → Acc H5 D ((((ns.take i).take j).filter tst ++ [y].filter tst).map V.int) H6 := fun ht => by
            rw [List.filter_cons_of_neg (by rw [ht]; exact Bool.false_ne_true), List.filter_nil, List.append_nil]
            exact ac
          refine ⟨rfl, _, rfl, _, rfl, d, _, rfl, hg, _, rfl, _, _, rfl, rfl, _, rfl, ?_⟩
          by_cases c1 : lev l k ≤ lev l y
          · rw [decide_eq_true c1]
            exact iteT (iteT ⟨_, rfl, _, ac.a, by rw [List.length_map, sizeLine_eq]; omega, yes (by show (decide (lev l k ≤ lev l y) || _) = true; rw [decide_eq_true c1, Bool.true_or])⟩)
          rw [decide_eq_false c1]
          refine iteF ⟨_, rfl, _, rfl, d, _, rfl, hg, _, rfl, _, _, rfl, rfl, rfl, _, rfl, ?_⟩
          have ht : tst y = (decide (lev l y = lev l k - 1) && decide (k < y)) := by show (decide (lev l k ≤ lev l y) || _) = _; rw [decide_eq_false c1, Bool.false_or]
          by_cases c2 : lev l y = lev l k - 1
          · refine ite_b (c := true) (decide_eq_true (by rw [c2])) (iteT ⟨_, rfl, _, rfl, _, _, rfl, rfl, _, rfl, ?_⟩)
            rw [decide_eq_true c2, Bool.true_and] at ht
            by_cases c3 : k < y
            · rw [decide_eq_true c3] at ht ⊢
              exact iteT ⟨_, rfl, _, ac.a, by rw [List.length_map, sizeLine_eq]; omega, yes ht⟩
            · rw [decide_eq_false c3] at ht ⊢
              exact iteF (no ht)
          · rw [decide_eq_false c2, Bool.false_and] at ht
            exact ite_b (c := false) (decide_eq_false (fun z => c2 (by injection z))) (iteF (iteF (no ht)))
        · intro H6 ac
          rw [List.length_map, List.take_length] at ac
          have s6 := s5.trans ac.s
          have hlen : ((ns.take i).filter tst) = someL l ns i k := rfl
          have sall : oneB r ns l i = true → (List.range (i + 1)).all (oneB r ns l) = true := fun h => by
            rw [List.range_succ, List.all_append, hall, Bool.true_and]
            show (oneB r ns l i && true) = true
            rw [h]
            rfl
          refine ⟨_, rfl, _, _, rfl, rfl, _, rfl, ?_⟩
          rw [decide_eq_true hge, Bool.true_and] at hone
          by_cases c1 : 1 < lev l k
          · rw [decide_eq_true c1]
            refine iteT ⟨_, rfl, D, _, rfl, .inl (SqL.of ac.a), _, rfl, _, _, rfl, rfl, _, rfl, ?_⟩
            rw [decide_eq_false (by omega), Bool.false_or] at hone
            rw [List.length_map, hlen]
            by_cases c2 : (someL l ns i k).length < r
            · rw [decide_eq_true (by omega)]
              exact iteT (hqf hi' (by rw [hone, decide_eq_false (by omega)]) _ (s1.trans s6))
            · rw [decide_eq_false (by omega)]
              exact iteF ⟨⟨_, _, _, _, rfl⟩, s6, sall (by rw [hone, decide_eq_true (by omega)])⟩
          · rw [decide_eq_false c1]
            exact iteF (iteF ⟨⟨_, _, _, _, rfl⟩, s6, sall (by rw [hone, decide_eq_true (by omega), Bool.true_or])⟩)
      · rintro σ' H3 ⟨h, s3, hall⟩
        rw [List.length_map] at hall
        exact ⟨h, s3, hall⟩
    rintro σ' H3 ⟨⟨x4, x5, x6, x7, rfl⟩, s3, hall⟩
    have z := q _ (s1.trans s3)
    rw [← oneB_all hkd hp, hany, hall] at z
    exact z
theorem b_lal (T : Tx K mg A) : L2.Binds K A.d__law_are_levels ["room", "given", "number", "levels"] [] := T.F__law_are_levels.binds fun _ _ _ _ _ _ us hl => match us, hl with | [_, _, _, _], _ => rfl

end
end Tw

set_option Elab.async false
set_option linter.all false
set_option maxRecDepth 100000
set_option maxHeartbeats 2000000
namespace Tw
open PySem PySem.Spec PyProof.Rows L2
section
variable {P : Program} {w : World} {K : PySem.W.Frag} {mg : Str → Option Value} {base : Heap} {A : Ad}
open LamX (ExtN Tabs TabS)
theorem emp_eqv : ∀ ns : List Int, PyData.eqv (.list (ns.map PyData.int)) (.list []) = decide (ns = [])
  | [] => by rfl
  | n :: ns => by rfl
theorem eqInt {i j : Int} (h : i = j) : decide (V.int i = V.int j) = true := by rw [h, decide_eq_true rfl]
theorem neInt {i j : Int} (h : i = j) : (!decide (V.int i = V.int j)) = false := by rw [h, decide_eq_true rfl]; rfl
theorem q1 : ¬ (("row" : Str) = "stops") := by decide +kernel
theorem q2 : ¬ (("row" : Str) = "changes") := by decide +kernel
end
end Tw

set_option Elab.async false
set_option linter.all false
set_option maxRecDepth 100000
set_option maxHeartbeats 2000000
namespace Tw
open PySem PySem.Spec PyProof.Rows L2
section
variable {P : Program} {w : World} {K : PySem.W.Frag} {mg : Str → Option Value} {base : Heap} {A : Ad}
open LamX (ExtN Tabs TabS)
/-! the law's own replacement: stW stW_take stW_len pickL fitL minI minI_ok minI_eq pick_in held_len held_ne st_nodup write_at write_len write_perm rhoP rho_lt rho_top runsL runs_snoc runs_last stepR lastI last_snoc filter_erase emp_eqv ints_dp shaped_ints cutv_from cut_to DGet neInt eqInt Acc -/
theorem sorted_head {l m : List Int} {a : Int} {t : List Int} (hp : l.Perm m) (hw : l.Pairwise (· ≤ ·)) (h : l = a :: t) : a = minI m := by
  subst h
  refine minI_eq (hp.mem_iff.mp List.mem_cons_self) fun y hy => ?_
  rcases List.mem_cons.mp (hp.mem_iff.mpr hy) with e | e
  · rw [e]
    exact Int.le_refl _
  · exact (List.pairwise_cons.mp hw).1 y e
theorem fit_perm {hs held : List Int} (w : List Int) (hp : hs.Perm held) : (fitL hs w).Perm (fitL held w) := hp.filter _
theorem fit_sort {hs : List Int} (w : List Int) (hw : hs.Pairwise (· ≤ ·)) : (fitL hs w).Pairwise (· ≤ ·) := hw.filter _
theorem pick_fit {hs held w t : List Int} {a : Int} (hp : hs.Perm held) (hw : hs.Pairwise (· ≤ ·)) (h : fitL hs w = a :: t) : a = pickL held w := by
  have hn : fitL held w ≠ [] := fun z => by
    have := fit_perm w hp
    rw [z, h] at this
    exact List.cons_ne_nil _ _ this.eq_nil
  unfold pickL
  rw [if_neg hn]
  exact sorted_head (fit_perm w hp) (fit_sort w hw) h
theorem pick_none {hs held w t : List Int} {a : Int} (hp : hs.Perm held) (hw : hs.Pairwise (· ≤ ·)) (hf : fitL hs w = []) (h : hs = a :: t) : a = pickL held w := by
  have hn : fitL held w = [] := by
    have := fit_perm w hp
    rw [hf] at this
    exact this.symm.eq_nil
  unfold pickL
  rw [if_pos hn]
  exact sorted_head hp hw h
def numL (W : List Int) (i : Nat) : Nat := if i = 0 then 1 else rhoP W (i - 1)
theorem num_step {r : Nat} {ns hs : List Int} (hr : 1 ≤ r) {i : Nat} (hi : i < ns.length) (hp : hs.Perm (stW r ns i).1) :
    rhoP (writeL r ns) i = if fitL hs ((writeL r ns).take i) = [] then numL (writeL r ns) i + 1 else numL (writeL r ns) i := by
  have hW : (writeL r ns).take i = (stW r ns i).2 := stW_take r ns ns.length i (by omega)
  have hil : i < (writeL r ns).length := by rw [write_len]; exact hi
  have hk := write_at (r := r) hi
  have hne := held_ne hr hi
  have hpk := pick_in (stW r ns i).2 hne
  rw [← hW] at hk hpk
  rw [List.getElem?_eq_getElem hil] at hk
  have hk := Option.some.inj hk
  have hfe : fitL hs ((writeL r ns).take i) = [] ↔ fitL (stW r ns i).1 ((writeL r ns).take i) = [] := by
    refine ⟨fun z => ?_, fun z => ?_⟩
    · have := fit_perm ((writeL r ns).take i) hp
      rw [z] at this
      exact this.symm.eq_nil
    · have := fit_perm ((writeL r ns).take i) hp
      rw [z] at this
      exact this.eq_nil
  have hrun : ∀ j, i = j + 1 → rhoP (writeL r ns) i = if lastI ((writeL r ns).take i) < (writeL r ns)[i] then rhoP (writeL r ns) j else rhoP (writeL r ns) j + 1 := fun j ej => by
    have hwne : (writeL r ns).take i ≠ [] := fun z => by
      have := congrArg List.length z
      rw [List.length_take, List.length_nil] at this
      omega
    obtain ⟨q1, q2⟩ := runs_last _ _ rfl hwne
    have e1 : rhoP (writeL r ns) j = (runsL ((writeL r ns).take i)).length := by unfold rhoP; rw [ej]
    rw [e1]
    unfold rhoP
    rw [List.take_succ_eq_append_getElem hil, runs_snoc]
    unfold stepR
    rw [q2]
    have := List.length_pos_iff.mpr q1
    by_cases c : lastI ((writeL r ns).take i) < (writeL r ns)[i]
    · rw [if_pos c, if_pos ⟨q1, c⟩, List.length_append, List.length_dropLast, List.length_singleton]
      omega
    · rw [if_neg c, if_neg (fun z => c z.2), List.length_append, List.length_singleton]
  have hzero : i = 0 → fitL (stW r ns i).1 ((writeL r ns).take i) = (stW r ns i).1 := fun z => by
    subst z
    unfold fitL
    rw [List.filter_eq_self]
    intro x _
    rw [show decide (List.take 0 (writeL r ns) = []) = true from decide_eq_true rfl, Bool.true_or]
  by_cases hf : fitL hs ((writeL r ns).take i) = []
  · rw [if_pos hf]
    have hf2 := hfe.mp hf
    obtain ⟨j, ej⟩ : ∃ j, i = j + 1 := ⟨i - 1, by
      have : i ≠ 0 := fun z => hne (by rw [← hzero z]; exact hf2)
      omega⟩
    have hc : ¬ lastI ((writeL r ns).take i) < (writeL r ns)[i] := fun c => by
      rw [hk] at c
      unfold fitL at hf2
      have := List.filter_eq_nil_iff.mp hf2 _ hpk
      rw [decide_eq_true c, Bool.or_true] at this
      exact this rfl
    have e0 : ¬ i = 0 := by omega
    unfold numL
    rw [hrun j ej, if_neg e0, show i - 1 = j by omega, if_neg hc]
  · rw [if_neg hf]
    have hf2 : fitL (stW r ns i).1 ((writeL r ns).take i) ≠ [] := fun z => hf (hfe.mpr z)
    by_cases h0 : i = 0
    · subst h0
      unfold numL rhoP
      rw [List.take_succ_eq_append_getElem hil]
      rfl
    · obtain ⟨j, ej⟩ : ∃ j, i = j + 1 := ⟨i - 1, by omega⟩
      unfold numL
      rw [hrun j ej, if_neg h0, show i - 1 = j by omega]
      refine if_pos ?_
      rw [hk]
      have hm : pickL (stW r ns i).1 ((writeL r ns).take i) ∈ fitL (stW r ns i).1 ((writeL r ns).take i) := by
        unfold pickL
        rw [if_neg hf2]
        exact (minI_ok _ hf2).1
      have := (List.mem_filter.mp hm).2
      rw [decide_eq_false (fun z => by
        have := congrArg List.length z
        rw [List.length_take, List.length_nil] at this
        omega), Bool.false_or, decide_eq_true_eq] at this
      exact this
def ruL (W : List Int) (i : Nat) : List (Int × Int) := (List.range i).map fun j => (W.getD j 0, ((rhoP W j : Nat) : Int))
theorem ruL_len (W : List Int) (i : Nat) : (ruL W i).length = i := by unfold ruL; rw [List.length_map, List.length_range]
theorem ruL_succ (W : List Int) (i : Nat) : ruL W (i + 1) = ruL W i ++ [(W.getD i 0, ((rhoP W i : Nat) : Int))] := by
  unfold ruL
  rw [List.range_succ, List.map_append]
  rfl
theorem ruL_keys {W : List Int} {i : Nat} (h : i ≤ W.length) : (ruL W i).map (·.1) = W.take i := by
  unfold ruL
  rw [List.map_map]
  apply List.ext_getElem?
  intro j
  rw [List.getElem?_map]
  by_cases hj : j < i
  · rw [List.getElem?_range hj, List.getElem?_take_of_lt hj]
    show some (W.getD j 0) = _
    rw [List.getD_eq_getElem?_getD, List.getElem?_eq_getElem (by omega)]
    rfl
  · rw [List.getElem?_eq_none (by rw [List.length_range]; omega), List.getElem?_eq_none (by rw [List.length_take]; omega)]
    rfl
/-- what the law's replacement finds -/
def spLru : Sp := fun vs H Q _ => ∃ (r g : Nat) (ns : List Int), vs = [.int r, .ref g] ∧ 1 ≤ r ∧ H g = some (.lst (ns.map V.int)) ∧ KeysIn ns ∧ ∀ (H' : Hp) (d : Addr), Same H H' → H' d = some (.dK (dI (ruL (writeL r ns) ns.length))) → Q (.ref d) H'
def lastV (W : List Int) (i : Nat) : V := if i = 0 then .non else .int (lastI (W.take i))
theorem ok_lru (T : Tx K mg A) : FnOk P w K mg base CX0 1 A.f__law_runs A.d__law_runs ["room", "given"] spLru := by
  refine T.F__law_runs.ok sc__law_runs (fun vs H Q E h => ?_) (fun cdv B outer s H vs Q E hr h => ?_)
  · obtain ⟨r, g, ns, rfl, _⟩ := h
    rfl
  · obtain ⟨r, g, ns, rfl, hr1, eg, hk, q⟩ := h
    have nd := sc__law_runs.nd
    have hu := hr.units
    have hd1 := Nat.lt_of_le_of_lt (Nat.add_le_add_left (show 1 ≤ 64 by decide) _) hr.units
    refine ⟨_, (pss_cons (ps_asg (pe_tup (pa_cons (pe_callB cr_sortedI (by rfl) T.g_sorted (by decide +kernel) (pa_cons (pe_slice (r := rSlL K) sl_list (pv 1) po_none (po_some (pv 0))) pa_nil)) (pa_cons (pe_callTy (r := rListK K) call_listK (by rfl) T.g_list (by decide +kernel) (pa_cons (pe_slice (r := rSlL K) sl_list (pv 1) (po_some (pv 0)) po_none) pa_nil)) (pa_cons pe_non pa_nil)))) (pg_tup rfl (pgs_cons (pg_name (i := 2) nd rfl (Or.inl rfl)) (pgs_cons (pg_name (i := 3) nd rfl (Or.inl rfl)) (pgs_cons (pg_name (i := 4) nd rfl (Or.inr rfl)) pgs_nil)))))
      (pss_cons (ps_par (i := 5) (j := 6) rfl nd rfl rfl (by decide) rfl rfl (pa_cons pe_int (pa_cons pe_dnewK pa_nil)) rfl)
      (C8.pss_cut (ps_while PassesOwn.never (pt_cmpR (op_neD hu) (pv 2) (pe_lst pa_nil) (nomark _)) (pss_cons (ps_setLc (i := 7) (own := [("key", 8)]) (g := gName 8) rfl nd rfl rfl (sw_true rfl rfl rfl (by decide +kernel)) (pi_list (pv 2)) (blkOk_by (own := [("key", 8)]) (N := ["room", "given", "held", "rest", "last", "number", "found", "able", "key"]) (sc := defScope s__law_runs) (by decide +kernel)) (fun _ _ _ _ _ => pg_name (i := 8) nd rfl (Or.inl rfl)) (fun _ _ _ _ _ => pts_one (PW.pt (pw_or (pt_cmpR op_isN (pv 4) pe_non (nomark _)) (pw_or1 (pt_cmpR op_gt (pv 8) (pv 4) (nomark _)))))) (fun _ _ _ _ _ => (pv 8)))
      (C8.pss_cut (ps_if (pt_cmpR (op_eqD hu) (pv 7) (pe_lst pa_nil) (nomark _)) (pss_one (ps_par (i := 5) (j := 7) rfl nd rfl rfl (by decide) rfl rfl (pa_cons (pe_op op_add (pv 5) pe_int) (pa_cons (pv 2) pa_nil)) rfl)) pss_nil)
      (pss_cons (ps_set (i := 4) nd rfl (Or.inr rfl) (pe_ix (r := rIxL K) ix_list (pv 7) pe_int (fun _ _ => rfl)))
      (pss_cons (ps_dput hd1 (pv 6) (pv 4) (pv 5) rfl)
      (pss_cons (ps_set (i := 2) nd rfl (Or.inl rfl) (pe_callB cr_sortedI (by rfl) T.g_sorted (by decide +kernel) (pa_cons (pe_op op_cat (pe_lc (own := [("key", 8)]) (g := gName 8) rfl nd (pi_list (pv 2)) (blkOk_by (own := [("key", 8)]) (N := ["room", "given", "held", "rest", "last", "number", "found", "able", "key"]) (sc := defScope s__law_runs) (by decide +kernel)) (fun _ _ _ _ _ => pg_name (i := 8) nd rfl (Or.inl rfl)) (fun _ _ _ _ _ => pts_one (pt_cmpR op_ne (pv 8) (pv 4) (nomark _))) (fun _ _ _ _ _ => (pv 8))) (pe_slice (r := rSlL K) sl_list (pv 3) po_none (po_some pe_int))) pa_nil)))
      (pss_one (ps_set (i := 3) nd rfl (Or.inl rfl) (pe_slice (r := rSlL K) sl_list (pv 3) (po_some pe_int) po_none)))))))))
      (pss_one (ps_ret (pv 6)))))), ?_⟩
    refine ⟨_, rfl, ?_⟩
    unfold tNoPart
    refine ⟨_, rfl, _, rfl, g, _, rfl, SqL.of eg, fun p np => ?_⟩
    rw [cut_to, ← List.map_take]
    have s1 := Same.up (o := .lst ((ns.take r).map V.int)) np
    have ep : upd H p (.lst ((ns.take r).map V.int)) p = _ := upd_same
    generalize upd H p (.lst ((ns.take r).map V.int)) = H1 at s1 ep
    refine ⟨p, ns.take r, rfl, SqL.of ep, fun z hA hz hw nA => ?_⟩
    have s2 := s1.trans (Same.up (o := .lst (z.map V.int)) nA)
    have eA : upd H1 hA (.lst (z.map V.int)) hA = _ := upd_same
    generalize upd H1 hA (.lst (z.map V.int)) = H2 at s2 eA
    have eg2 := s2 _ _ eg
    refine ⟨_, rfl, _, rfl, _, rfl, g, _, rfl, SqL.of eg2, fun p2 np2 => ?_⟩
    rw [cutv_from, ← List.map_drop]
    have s3 := s2.trans (Same.up (o := .lst ((ns.drop r).map V.int)) np2)
    have eA3 := (Same.up (o := .lst ((ns.drop r).map V.int)) np2) _ _ eA
    have ep2 : upd H2 p2 (.lst ((ns.drop r).map V.int)) p2 = _ := upd_same
    generalize upd H2 p2 (.lst ((ns.drop r).map V.int)) = H3 at s3 eA3 ep2
    refine ⟨p2, _, rfl, .inl (SqL.of ep2), fun rA nrA => ?_⟩
    have s4 := s3.trans (Same.up (o := .lst ((ns.drop r).map V.int)) nrA)
    have eA4 := (Same.up (o := .lst ((ns.drop r).map V.int)) nrA) _ _ eA3
    have eR4 : upd H3 rA (.lst ((ns.drop r).map V.int)) rA = _ := upd_same
    generalize upd H3 rA (.lst ((ns.drop r).map V.int)) = H4 at s4 eA4 eR4
    refine ⟨by show 3 ≤ sizeLine; decide, fun t nt => ?_⟩
    refine ⟨_, _, rfl, SqT.of upd_same, rfl, _, _, rfl, _, _, rfl, _, _, rfl, rfl, ?_⟩
    have s5 := s4.trans (Same.up (o := .tup [.ref hA, .ref rA, .non]) nt)
    have eA5 := (Same.up (o := .tup [.ref hA, .ref rA, .non]) nt) _ _ eA4
    have eR5 := (Same.up (o := .tup [.ref hA, .ref rA, .non]) nt) _ _ eR4
    generalize upd H4 t (.tup [.ref hA, .ref rA, .non]) = H5 at s5 eA5 eR5
    refine fun d nd5 => ⟨_, _, rfl, ?_⟩
    have s6 := s5.trans (Same.up (o := .dK []) nd5)
    have ndH : H d = none := s5.free nd5
    have eA6 := (Same.up (o := .dK []) nd5) _ _ eA5
    have eR6 := (Same.up (o := .dK []) nd5) _ _ eR5
    have eD6 : upd H5 d (.dK []) d = _ := upd_same
    generalize upd H5 d (.dK []) = H6 at s6 eA6 eR6 eD6
    have hwl : (writeL r ns).length = ns.length := write_len
    have hwd : (writeL r ns).Nodup := (write_perm hr1).nodup_iff.mpr hk.2.2
    have h12 := hk.1
    refine ⟨fun σ' H' => ∃ x2 x3 x4 x5 x7 : Option V, σ' = [some (.int r), some (.ref g), x2, x3, x4, x5, some (.ref d), x7, none] ∧ Same H H' ∧ H' d = some (.dK (dI (ruL (writeL r ns) ns.length))), ?_, ?_⟩
    · let INV : Nat → L2.St → Hp → Prop := fun i σ' H' => ∃ (hA rA : Addr) (hs : List Int) (x7 : Option V), σ' = [some (.int r), some (.ref g), some (.ref hA), some (.ref rA), some (lastV (writeL r ns) i), some (.int ((numL (writeL r ns) i : Nat) : Int)), some (.ref d), x7, none] ∧ Same H H' ∧ H' hA = some (.lst (hs.map V.int)) ∧ hs.Perm (stW r ns i).1 ∧ hs.Pairwise (· ≤ ·) ∧ H' rA = some (.lst ((ns.drop (r + i)).map V.int)) ∧ H' d = some (.dK (dI (ruL (writeL r ns) i)))
      refine ⟨fun m σ' H' => ∃ i, m = ns.length - i ∧ i ≤ ns.length ∧ INV i σ' H', ⟨_, 0, rfl, Nat.zero_le _, hA, rA, z, none, rfl, s6, eA6, hz, hw, eR6, eD6⟩, ?_⟩
      rintro m σ' H' ⟨i, rfl, hi, hA, rA, hs, x7, rfl, s7, e7, hp, hw, eR7, eD7⟩
      refine ⟨_, rfl, Nat.zero_le _, fun l0 nl0 => ?_⟩
      have s8 := s7.trans (Same.up (o := .lst []) nl0)
      have e8 := (Same.up (o := .lst []) nl0) _ _ e7
      have eR8 := (Same.up (o := .lst []) nl0) _ _ eR7
      have eD8 := (Same.up (o := .lst []) nl0) _ _ eD7
      have el0 : upd H' l0 (.lst []) l0 = _ := upd_same
      generalize upd H' l0 (.lst []) = H8 at s8 e8 eR8 eD8 el0
      refine ⟨.list (hs.map .int), .list [], .lst (SqL.of e8) (ints_dp _ _ _), .lst (SqL.of el0) .nil, shaped_ints _, rfl, _, rfl, ?_⟩
      rw [emp_eqv]
      by_cases hn : hs = []
      · have hin : i = ns.length := Nat.le_antisymm hi (Nat.le_of_not_lt fun q => held_ne hr1 q (by rw [hn] at hp; exact hp.symm.eq_nil))
        rw [decide_eq_true hn]
        subst hin
        exact iteF ⟨_, _, _, _, _, rfl, s8, eD8⟩
      have hil : i < ns.length := by
        refine Nat.lt_of_le_of_ne hi fun q => hn ?_
        have hl := held_len hr1 hi (r := r) (ns := ns)
        refine List.length_eq_zero_iff.mp ?_
        rw [hp.length_eq, hl]
        omega
      rw [decide_eq_false hn]
      refine iteT ⟨fun σ' H' => INV (i + 1) σ' H', fun σ' H' h => ⟨_, by omega, i + 1, rfl, hil, h⟩, ?_⟩
      have hW : (writeL r ns).take i = (stW r ns i).2 := stW_take r ns ns.length i (by omega)
      have hiw : i < (writeL r ns).length := by rw [hwl]; exact hil
      have hkk := write_at (r := r) hil
      rw [List.getElem?_eq_getElem hiw] at hkk
      have hkk := Option.some.inj hkk
      rw [← hW] at hkk
      have hgd : (writeL r ns).getD i 0 = (writeL r ns)[i] := by rw [List.getD_eq_getElem?_getD, List.getElem?_eq_getElem hiw]; rfl
      have hns := num_step hr1 hil hp
      refine ⟨_, rfl, hA, rfl, ⟨_, SqL.of e8⟩, fun D7 nD7 => ?_⟩
      refine lc_it (walk_list (xs := hs.map V.int)) (fun j H' => Acc H8 D7 ((fitL (hs.take j) ((writeL r ns).take i)).map V.int) H') (Acc.start nD7) (fun j H' _ ac => SqL.of (ac.s _ _ e8)) ?_ ?_
      · rintro j y Ho H9 hj ac ⟨rfl, hy⟩
        obtain ⟨hj2, rfl⟩ := ints_at hy
        have hf : fitL (hs.take (j + 1)) ((writeL r ns).take i) = fitL (hs.take j) ((writeL r ns).take i) ++ [hs[j]].filter fun k => decide ((writeL r ns).take i = []) || decide (lastI ((writeL r ns).take i) < k) := by
          unfold fitL
          rw [List.take_succ_eq_append_getElem hj2, List.filter_append]
        have hle : (fitL (hs.take j) ((writeL r ns).take i)).length ≤ 12 := by
          have h1 := List.length_filter_le (fun k => decide ((writeL r ns).take i = []) || decide (lastI ((writeL r ns).take i) < k)) (hs.take j)
          have h2 := held_len hr1 hi (r := r) (ns := ns)
          have h3 := hp.length_eq
          rw [List.length_take] at h1
          unfold fitL
          omega
        rw [hf]
        generalize hs[j] = y
        have yes : (decide ((writeL r ns).take i = []) || decide (lastI ((writeL r ns).take i) < y)) = true → Acc H8 D7 ((fitL (hs.take j) ((writeL r ns).take i) ++ [y].filter fun k => decide ((writeL r ns).take i = []) || decide (lastI ((writeL r ns).take i) < k)).map V.int) (upd H9 D7 (.lst ((fitL (hs.take j) ((writeL r ns).take i)).map V.int ++ [V.int y]))) := fun ht => by
          rw [List.filter_cons_of_pos (p := fun k => decide ((writeL r ns).take i = []) || decide (lastI ((writeL r ns).take i) < k)) ht, List.filter_nil, List.map_append]
          exact ac.push
        have no : (decide ((writeL r ns).take i = []) || decide (lastI ((writeL r ns).take i) < y)) = false → Acc H8 D7 ((fitL (hs.take j) ((writeL r ns).take i) ++ [y].filter fun k => decide ((writeL r ns).take i = []) || decide (lastI ((writeL r ns).take i) < k)).map V.int) H9 := fun ht => by
          rw [List.filter_cons_of_neg (p := fun k => decide ((writeL r ns).take i = []) || decide (lastI ((writeL r ns).take i) < k)) (by rw [ht]; exact Bool.false_ne_true), List.filter_nil, List.append_nil]
          exact ac
        refine ⟨rfl, _, rfl, rfl, _, rfl, ?_⟩
        by_cases h0 : i = 0
        · have hw0 : (writeL r ns).take i = [] := by rw [h0]; rfl
          refine ite_b (c := true) (by unfold lastV; rw [if_pos h0]; rfl) (iteT (iteT ⟨_, rfl, _, ac.a, by rw [List.length_map, sizeLine_eq]; omega, yes (by rw [decide_eq_true hw0, Bool.true_or])⟩))
        · have hw0 : ¬ (writeL r ns).take i = [] := fun q => by
            have := congrArg List.length q
            rw [List.length_take, List.length_nil] at this
            omega
          have hl0 : lastV (writeL r ns) i = .int (lastI ((writeL r ns).take i)) := by unfold lastV; rw [if_neg h0]
          rw [hl0]
          refine ite_b (c := false) rfl (iteF ⟨_, rfl, _, rfl, _, _, rfl, rfl, _, rfl, ?_⟩)
          by_cases c : lastI ((writeL r ns).take i) < y
          · rw [decide_eq_true c]
            exact iteT ⟨_, rfl, _, ac.a, by rw [List.length_map, sizeLine_eq]; omega, yes (by rw [decide_eq_false hw0, Bool.false_or, decide_eq_true c])⟩
          · rw [decide_eq_false c]
            exact iteF (no (by rw [decide_eq_false hw0, Bool.false_or, decide_eq_false c]))
      · intro H9 ac
        rw [List.length_map, List.take_length] at ac
        have s9 := s8.trans ac.s
        have e9 := ac.s _ _ e8
        have eR9 := ac.s _ _ eR8
        have eD9 := ac.s _ _ eD8
        have ea9 := ac.a
        refine ⟨fun σ' H' => ∃ (aA : Addr) (t : List Int), σ' = [some (.int r), some (.ref g), some (.ref hA), some (.ref rA), some (lastV (writeL r ns) i), some (.int ((rhoP (writeL r ns) i : Nat) : Int)), some (.ref d), some (.ref aA), none] ∧ Same H9 H' ∧ H' aA = some (.lst (((writeL r ns)[i] :: t).map V.int)), ?_, ?_⟩
        · refine ⟨_, rfl, Nat.zero_le _, fun l1 nl1 => ?_⟩
          have s10 := Same.up (o := .lst []) nl1
          refine ⟨.list ((fitL hs ((writeL r ns).take i)).map .int), .list [], .lst (SqL.of (s10 _ _ ea9)) (ints_dp _ _ _), .lst (SqL.of upd_same) .nil, shaped_ints _, rfl, _, rfl, ?_⟩
          rw [emp_eqv]
          by_cases hf : fitL hs ((writeL r ns).take i) = []
          · rw [decide_eq_true hf]
            rw [if_pos hf] at hns
            obtain ⟨a, t, ht⟩ := List.exists_cons_of_ne_nil hn
            have ea : a = (writeL r ns)[i] := by
              rw [hkk]
              exact pick_none hp hw hf ht
            refine iteT ⟨_, rfl, _, _, rfl, rfl, _, rfl, _, _, rfl, hA, t, ?_, s10, ?_⟩
            · rw [hns]
              rfl
            · rw [← ea, ← ht]
              exact s10 _ _ e9
          · rw [decide_eq_false hf]
            rw [if_neg hf] at hns
            obtain ⟨a, t, ht⟩ := List.exists_cons_of_ne_nil hf
            have ea : a = (writeL r ns)[i] := by
              rw [hkk]
              exact pick_fit hp hw ht
            refine iteF ⟨D7, t, ?_, s10, ?_⟩
            · rw [hns]
              rfl
            · rw [← ea, ← ht]
              exact s10 _ _ ea9
        rintro σ' H10 ⟨aA, t, rfl, s10, ea10⟩
        have e10 := s10 _ _ e9
        have eR10 := s10 _ _ eR9
        have eD10 := s10 _ _ eD9
        have s10' := s9.trans s10
        refine ⟨_, rfl, aA, _, _, _, rfl, rfl, SqL.of ea10, (show atI (((writeL r ns)[i] :: t).map V.int) 0 = some (V.int (writeL r ns)[i]) from atV_nat V.int 0 (i := 0) (xs := (writeL r ns)[i] :: t) (by simp)), ?_⟩
        have hno : (writeL r ns)[i] ∉ (ruL (writeL r ns) i).map (·.1) := fun q => by
          rw [ruL_keys (by omega)] at q
          obtain ⟨j, hj, ej⟩ := List.getElem_of_mem q
          rw [List.length_take] at hj
          rw [List.getElem_take] at ej
          have := (List.getElem_inj hwd).mp ej
          omega
        refine ⟨_, rfl, _, rfl, _, rfl, d, _, rfl, DPut.k (k := .inl (writeL r ns)[i]) eD10 (by rw [dI_len, ruL_len, sizeLine_eq]; omega), ?_⟩
        rw [dI_new hno, ← hgd, ← ruL_succ]
        have hhn : ∀ {G2 : Hp} {o : HO}, Same H G2 → Same H (upd G2 d o) := fun s b o e => by
          rw [upd_ne (ne_of_none e ndH)]
          exact s _ _ e
        have keep : ∀ {c : Addr} {xs : List V}, H10 c = some (.lst xs) → upd H10 d (.dK (dI (ruL (writeL r ns) (i + 1)))) c = some (.lst xs) := fun {c xs} e => (upd_ne (ne_of e eD10 (by intro z; cases z))).trans e
        have s11 := hhn (o := .dK (dI (ruL (writeL r ns) (i + 1)))) s10'
        have e11 := keep e10
        have eR11 := keep eR10
        have eD11 : upd H10 d (.dK (dI (ruL (writeL r ns) (i + 1)))) d = _ := upd_same
        generalize upd H10 d (.dK (dI (ruL (writeL r ns) (i + 1)))) = H11 at s11 e11 eR11 eD11
        have hhl := held_len hr1 hi (r := r) (ns := ns)
        have hpl := hp.length_eq
        rw [hgd]
        generalize hkq : (writeL r ns)[i] = k at hkk
        refine ⟨_, rfl, hA, rfl, ⟨_, SqL.of e11⟩, fun D8 nD8 => ?_⟩
        refine lc_it (walk_list (xs := hs.map V.int)) (fun j H' => Acc H11 D8 (((hs.take j).filter fun x => decide (x ≠ k)).map V.int) H') (Acc.start nD8) (fun j H' _ ac => SqL.of (ac.s _ _ e11)) ?_ ?_
        · rintro j y Hp H12 hj ac ⟨rfl, hy⟩
          obtain ⟨hj2, rfl⟩ := ints_at hy
          have hfl := List.length_filter_le (fun x => decide (x ≠ k)) (hs.take j)
          rw [List.length_take] at hfl
          rw [List.take_succ_eq_append_getElem hj2, List.filter_append]
          refine ⟨rfl, _, rfl, _, rfl, rfl, _, rfl, ?_⟩
          by_cases hb : hs[j] = k
          · rw [List.filter_cons_of_neg (p := fun x => decide (x ≠ k)) (by rw [decide_eq_true_eq]; exact fun z => z hb), List.filter_nil, List.append_nil]
            exact ite_b (c := false) (by rw [hb, decide_eq_true rfl]; rfl) (iteF ac)
          · rw [List.filter_cons_of_pos (p := fun x => decide (x ≠ k)) (decide_eq_true hb), List.filter_nil, List.map_append]
            exact ite_b (c := true) (by rw [decide_eq_false (fun z => hb (by injection z))]; rfl) (iteT ⟨_, rfl, _, ac.a, by rw [List.length_map, sizeLine_eq]; omega, ac.push⟩)
        · intro H12 ac12
          rw [List.length_map, List.take_length] at ac12
          refine ⟨_, rfl, _, rfl, rA, _, rfl, SqL.of (ac12.s _ _ eR11), fun p5 np5 => ?_⟩
          rw [show cutV ((ns.drop (r + i)).map V.int) none (some (1 : Int)) = ((ns.drop (r + i)).take 1).map V.int from (cut_to _ 1).trans List.map_take.symm]
          have s13 := ac12.s.trans (Same.up (o := .lst (((ns.drop (r + i)).take 1).map V.int)) np5)
          have ea13 := (Same.up (o := .lst (((ns.drop (r + i)).take 1).map V.int)) np5) _ _ ac12.a
          have ep13 : upd H12 p5 (.lst (((ns.drop (r + i)).take 1).map V.int)) p5 = _ := upd_same
          generalize upd H12 p5 (.lst (((ns.drop (r + i)).take 1).map V.int)) = H13 at s13 ea13 ep13
          have hfl := List.length_filter_le (fun x => decide (x ≠ k)) hs
          refine ⟨D8, p5, _, _, rfl, rfl, ea13, ep13, by rw [List.length_map, List.length_map, List.length_take, sizeLine_eq]; omega, fun p6 np6 => ?_⟩
          rw [← List.map_append]
          have s14 := s13.trans (Same.up (o := .lst ((hs.filter (fun x => decide (x ≠ k)) ++ (ns.drop (r + i)).take 1).map V.int)) np6)
          refine ⟨p6, _, rfl, SqL.of upd_same, fun z2 hA2 hz2 hw2 nA2 => ?_⟩
          have s15 := s14.trans (Same.up (o := .lst (z2.map V.int)) nA2)
          have eA15 : upd (upd H13 p6 (.lst ((hs.filter (fun x => decide (x ≠ k)) ++ (ns.drop (r + i)).take 1).map V.int))) hA2 (.lst (z2.map V.int)) hA2 = _ := upd_same
          generalize upd (upd H13 p6 (.lst ((hs.filter (fun x => decide (x ≠ k)) ++ (ns.drop (r + i)).take 1).map V.int))) hA2 (.lst (z2.map V.int)) = H15 at s15 eA15
          refine ⟨_, rfl, _, rfl, rA, _, rfl, SqL.of (s15 _ _ eR11), fun rA2 nrA2 => ?_⟩
          rw [show cutV ((ns.drop (r + i)).map V.int) (some (1 : Int)) none = (ns.drop (r + (i + 1))).map V.int by
            rw [show cutV ((ns.drop (r + i)).map V.int) (some (1 : Int)) none = ((ns.drop (r + i)).map V.int).drop 1 from cutv_from _ 1, ← List.map_drop, List.drop_drop]
            rfl]
          have s16 := s15.trans (Same.up (o := .lst ((ns.drop (r + (i + 1))).map V.int)) nrA2)
          refine ⟨hA2, rA2, z2, some (.ref aA), ?_, s11.trans s16, (Same.up nrA2) _ _ eA15, ?_, hw2, upd_same, s16 _ _ eD11⟩
          · have hlv : lastV (writeL r ns) (i + 1) = .int k := by
              unfold lastV
              rw [if_neg (by omega), List.take_succ_eq_append_getElem hiw, last_snoc, hkq]
            rw [hlv]
            rfl
          · refine hz2.trans ?_
            show List.Perm _ ((stW r ns i).1.erase (pickL (stW r ns i).1 (stW r ns i).2) ++ (ns.drop (r + i)).take 1)
            rw [← hW, ← hkk, ← filter_erase (List.nodup_append.mp (st_nodup hr1 hk.2.2 hi)).2.1]
            exact (hp.filter _).append_right _
    rintro σ' H7 ⟨x2, x3, x4, x5, x7, rfl, s7, eD7⟩
    exact ⟨_, rfl, q H7 d s7 eD7⟩
theorem b_lru (T : Tx K mg A) : L2.Binds K A.d__law_runs ["room", "given"] [] := T.F__law_runs.binds fun _ _ _ _ _ _ us hl => match us, hl with | [_, _], _ => rfl

end
end Tw

set_option Elab.async false
set_option linter.all false
set_option maxRecDepth 100000
set_option maxHeartbeats 2000000
namespace Tw
open PySem PySem.Spec PyProof.Rows L2
section
variable {P : Program} {w : World} {K : PySem.W.Frag} {mg : Str → Option Value} {base : Heap} {A : Ad}
open LamX (ExtN Tabs TabS)
theorem b_num (T : Tx K mg A) : L2.Binds K A.d__law_number ["script", "index"] [] := T.F__law_number.binds fun _ _ _ _ _ _ us hl => match us, hl with | [_, _], _ => rfl
def lvD (f : Int → Nat) (ks : List Int) : List (Key × V) := ks.map fun k => (Sum.inl k, V.int (f k : Nat))
theorem cut63 (xs : List V) (h : xs.length ≤ 63) : cutV xs none (some 63) = xs := by
  unfold cutV
  rw [HT.sIx_none, show (63 : Int) = ((63 : Nat) : Int) from rfl, HT.sIx_nat, List.drop_zero, Nat.min_eq_right h, Nat.sub_zero, List.take_length]
def spNum (K : PySem.W.Frag) : Sp := fun vs H Q _ => ∃ (a : Addr) (ns : List Int) (i : Nat), vs = [.ref a, .int i] ∧ SqL K H a (ns.map V.int) ∧ ns.length ≤ 63 ∧ i < 1000000 ∧ ∀ H' r, Same H H' → Q (.int r) H'
theorem ok_num (T : Tx K mg A) : FnOk P w K mg base CX0 2 A.f__law_number A.d__law_number ["script", "index"] (spNum K) := by
  refine T.F__law_number.ok sc__law_number (fun vs H Q E h => ?_) (fun cdv B outer s H vs Q E hr h => ?_)
  · obtain ⟨a, ns, i, rfl, _⟩ := h
    rfl
  · obtain ⟨a, ns, i, rfl, ha, hl, hi, q⟩ := h
    have nd := sc__law_number.nd
    have hu := hr.units
    refine ⟨_, C8.pss_cut (ps_set (i := 2) nd rfl (Or.inl rfl) (pe_ifExp (pt_cmpR (op_neD hu) (pv 0) (pe_lst pa_nil) (nomark _)) (pe_slice sl_list (pv 0) po_none (po_some pe_int)) (pe_lst (pa_cons pe_int pa_nil))))
      (pss_cons (ps_set (i := 3) nd rfl (Or.inl rfl) (pe_op op_add
        (pe_ix ix_list (pv 2) (pe_op op_mod (pe_callTy call_int1 (by rfl) T.g_int (by decide +kernel) (pa_cons (pv 1) pa_nil)) (pe_callB call_len_seq (by rfl) T.g_len PySem.boot_len (pa_cons (pv 2) pa_nil))) (fun _ _ => rfl))
        (pe_op op_mul pe_int (pe_op op_fdivN (pv 1) (pe_callB call_len_seq (by rfl) T.g_len PySem.boot_len (pa_cons (pv 2) pa_nil))))))
      (pss_cons (ps_par (i := 4) (j := 5) rfl nd rfl rfl (by decide) rfl rfl (pa_cons (pe_op op_mod (pe_callTy call_int1 (by rfl) T.g_int (by decide +kernel) (pa_cons (pv 3) pa_nil)) pe_int)
          (pa_cons (pe_op op_mod (pe_callTy call_int1 (by rfl) T.g_int (by decide +kernel) (pa_cons (pe_op op_fdivN (pv 3) pe_int) pa_nil)) pe_int) pa_nil)) rfl)
      (pss_cons (ps_set (i := 6) nd rfl (Or.inl rfl) (pe_op op_mod (pe_callTy call_int1 (by rfl) T.g_int (by decide +kernel) (pa_cons (pe_callB (cr_sum rfl) (by rfl) T.g_sum (by decide +kernel) (pa_cons (pv 2) pa_nil)) pa_nil)) pe_int))
      (pss_cons (ps_set (i := 7) nd rfl (Or.inl rfl) (pe_op op_mod (pe_callTy call_int1 (by rfl) T.g_int (by decide +kernel) (pa_cons
          (pe_op op_add (pe_op op_add (pe_op op_mul (pe_op op_add (pv 4) (pe_op op_mul pe_int (pv 1))) pe_int) (pe_op op_mul pe_int (pv 5))) (pv 6)) pa_nil)) pe_int))
      (pss_one (ps_ret (pe_op op_add (pe_op op_mul (pe_op op_mod (pe_callTy call_int1 (by rfl) T.g_int (by decide +kernel) (pa_cons
          (pe_op op_mul (pv 7) (pe_op op_add (pe_op op_add (pv 7) (pe_op op_mul pe_int (pv 1))) pe_int)) pa_nil)) pe_int) pe_int) (pv 5)))))))), ?_⟩
    refine ⟨fun σ H1 => ∃ (c : Addr) (cs : List Int), σ = [some (.ref a), some (.int i), some (.ref c), none, none, none, none, none] ∧ Same H H1 ∧ H1 c = some (.lst (cs.map V.int)) ∧ 0 < cs.length ∧ cs.length ≤ 63, ?_, ?_⟩
    · refine ⟨_, rfl, Nat.zero_le _, fun l0 hl0 => ?_⟩
      have hs0 : Same H (upd H l0 (.lst [])) := Same.up hl0
      refine ⟨.list (ns.map PyData.int), .list [], .lst (hs0.seq ha) (ints_dp _ _ _), .lst (SqL.of upd_same) .nil, ?_, rfl, _, rfl, ?_⟩
      · exact shaped_ints _
      · rw [emp_eqv]
        by_cases e : ns = []
        · rw [decide_eq_true e]
          refine iteF ⟨by show 1 ≤ sizeLine; decide, fun l1 hl1 => ⟨l1, [5], rfl, hs0.trans (Same.up hl1), upd_same, by decide, by decide⟩⟩
        · rw [decide_eq_false e]
          refine iteT ⟨_, rfl, _, rfl, a, _, rfl, hs0.seq ha, fun l1 hl1 => ⟨l1, ns, rfl, hs0.trans (Same.up hl1), ?_, ?_, hl⟩⟩
          · rw [upd_same]
            exact congrArg (fun z => some (HO.lst z)) (cut63 _ (by rw [List.length_map]; exact hl))
          · exact List.length_pos_iff.mpr e
    · rintro σ H1 ⟨c, cs, rfl, s1, hc, h0, h63⟩
      have hq := SqL.of (K := K) hc
      have hL : ((cs.map V.int).length : Int) = (cs.length : Int) := by rw [List.length_map]
      have hm0 : 0 ≤ (i : Int) % (cs.length : Int) := Int.emod_nonneg _ (by omega)
      have hm1 : (i : Int) % (cs.length : Int) < (cs.length : Int) := Int.emod_lt_of_pos _ (by omega)
      obtain ⟨j, hj⟩ : ∃ j : Nat, (i : Int) % (cs.length : Int) = (j : Int) := ⟨_, (Int.toNat_of_nonneg hm0).symm⟩
      have hjl : j < cs.length := by omega
      have hat : atI (cs.map V.int) ((i : Int) % ((cs.map V.int).length : Int)) = some (V.int cs[j]) := by
        rw [hL, hj]
        exact atI_nat (by rw [List.getElem?_map, List.getElem?_eq_getElem hjl]; rfl)
      refine ⟨_, rfl, _, rfl, .inl ⟨_, rfl, _, rfl, c, _, rfl, .inl hq, _, _, rfl, rfl, ?_, c, _, _, _, rfl, rfl, hq, hat, _, rfl, _, rfl, c, _, rfl, .inl hq, _, _, rfl, rfl, ⟨?_, ?_⟩, _, _, rfl, rfl, .inl ⟨by decide, by decide⟩, _, _, rfl, rfl, ?_⟩⟩
      · show (0 : Int) < ((cs.map V.int).length : Int)
        omega
      · omega
      · omega
      · refine ⟨_, rfl, .inl ⟨_, rfl, _, _, rfl, rfl, by show (0 : Int) < 1000003; decide, ?_⟩⟩
        refine ⟨_, rfl, _, _, rfl, rfl, ⟨by decide, by decide⟩, .inl ⟨_, rfl, _, _, rfl, rfl, by show (0 : Int) < 999983; decide, _, _, rfl, ?_⟩⟩
        refine ⟨_, rfl, c, cs, rfl, hq, .inl ⟨_, rfl, _, _, rfl, rfl, by show (0 : Int) < 65521; decide, ?_⟩⟩
        refine ⟨_, rfl, _, rfl, _, _, rfl, rfl, .inl ⟨by decide, by decide⟩, _, _, rfl, rfl, _, _, rfl, rfl, .inr ⟨by decide, by decide⟩, ?_⟩
        refine ⟨_, rfl, _, _, rfl, rfl, .inl ⟨by decide, by decide⟩, _, _, rfl, rfl, _, rfl, _, _, rfl, rfl, .inl ⟨_, rfl, _, _, rfl, rfl, by show (0 : Int) < 2147483647; decide, ?_⟩⟩
        refine ⟨_, rfl, _, rfl, _, rfl, _, _, rfl, rfl, .inl ⟨by decide, by decide⟩, _, _, rfl, rfl, _, _, rfl, rfl, _, _, rfl, rfl, .inl ⟨?_, ?_⟩, .inl ⟨_, rfl, _, _, rfl, rfl, by show (0 : Int) < 2147483629; decide, ?_⟩⟩
        · have := Int.emod_nonneg ((((cs[j] + 13 * Int.fdiv (i : Int) ((cs.map V.int).length : Int)) % 1000003 + 977 * (i : Int)) * 48271 + 31 * (Int.fdiv (cs[j] + 13 * Int.fdiv (i : Int) ((cs.map V.int).length : Int)) 1000003 % 999983)) + cs.sum % 65521) (show (2147483647 : Int) ≠ 0 by decide)
          omega
        · have := Int.emod_lt_of_pos ((((cs[j] + 13 * Int.fdiv (i : Int) ((cs.map V.int).length : Int)) % 1000003 + 977 * (i : Int)) * 48271 + 31 * (Int.fdiv (cs[j] + 13 * Int.fdiv (i : Int) ((cs.map V.int).length : Int)) 1000003 % 999983)) + cs.sum % 65521) (show (0 : Int) < 2147483647 by decide)
          omega
        · exact ⟨_, _, rfl, rfl, .inr ⟨by decide, by decide⟩, _, rfl, _, _, rfl, rfl, q _ _ s1⟩
end
end Tw

set_option Elab.async false
set_option linter.all false
set_option maxRecDepth 100000
set_option maxHeartbeats 2000000
namespace Tw
open PySem PySem.Spec PyProof.Rows L2
section
variable {P : Program} {w : World} {K : PySem.W.Frag} {mg : Str → Option Value} {base : Heap} {A : Ad}
open LamX (ExtN Tabs TabS)
/-! the levels that the law makes: ok_lru ruL ruL_keys ruL_len dI dI_len dI_at dI_get dI_keys dI_none dI_val dI_new DGet DPut KeysIn ok_num walk_tup walk_list walk_enum ints_at Acc neInt write_perm write_len atV_nat -/
def setI (l : List (Int × Int)) (k v : Int) : List (Int × Int) := if k ∈ l.map (·.1) then l.map (fun p => if p.1 = k then (p.1, v) else p) else l ++ [(k, v)]
theorem dI_put (l : List (Int × Int)) (k v : Int) : putK (dI l) (.inl k) (.int v) = dI (setI l k v) := by
  unfold setI
  by_cases h : k ∈ l.map (·.1)
  · rw [if_pos h]
    unfold putK
    have ha : ((dI l).any fun kv => decide (kv.1 = Sum.inl k)) = true := by
      obtain ⟨p, hp, rfl⟩ := List.mem_map.mp h
      exact List.any_eq_true.mpr ⟨(Sum.inl p.1, V.int p.2), List.mem_map.mpr ⟨p, hp, rfl⟩, decide_eq_true rfl⟩
    rw [if_pos ha]
    unfold dI
    rw [List.map_map, List.map_map]
    refine List.map_congr_left fun p _ => ?_
    show (if (Sum.inl p.1 : Key) = Sum.inl k then ((Sum.inl p.1 : Key), V.int v) else (Sum.inl p.1, V.int p.2)) = _
    by_cases e : p.1 = k
    · rw [if_pos (by rw [e])]
      show _ = ((Sum.inl (if p.1 = k then (p.1, v) else p).1 : Key), V.int (if p.1 = k then (p.1, v) else p).2)
      rw [if_pos e]
    · rw [if_neg (fun z => e (Sum.inl.inj z))]
      show _ = ((Sum.inl (if p.1 = k then (p.1, v) else p).1 : Key), V.int (if p.1 = k then (p.1, v) else p).2)
      rw [if_neg e]
  · rw [if_neg h]
    exact dI_new h
theorem setI_nd {l : List (Int × Int)} (k v : Int) (hd : (l.map (·.1)).Nodup) : ((setI l k v).map (·.1)).Nodup := by
  unfold setI
  by_cases h : k ∈ l.map (·.1)
  · rw [if_pos h, List.map_map, show ((fun p : Int × Int => p.1) ∘ fun p => if p.1 = k then (p.1, v) else p) = (fun p => p.1) from funext fun p => by
      show (if p.1 = k then (p.1, v) else p).1 = p.1
      split <;> rfl]
    exact hd
  · rw [if_neg h, List.map_append]
    exact List.nodup_append.mpr ⟨hd, List.pairwise_singleton _ _, fun x hx y hy z => h (by
      have e : y = k := List.mem_singleton.mp hy
      rw [← e, ← z]
      exact hx)⟩
theorem setI_len (l : List (Int × Int)) (k v : Int) : (setI l k v).length ≤ l.length + 1 := by
  unfold setI
  split
  · rw [List.length_map]
    omega
  · rw [List.length_append]
    exact Nat.le_refl _
theorem dI_drop (l : List (Int × Int)) (k : Int) : dropK (dI l) (.inl k) = dI (l.filter fun p => decide (p.1 ≠ k)) := by
  unfold dropK dI
  rw [List.filter_map]
  congr 1
  refine List.filter_congr fun p _ => ?_
  show decide ((Sum.inl p.1 : Key) ≠ Sum.inl k) = decide (p.1 ≠ k)
  exact decide_eq_decide.mpr ⟨fun z e => z (by rw [e]), fun z e => z (Sum.inl.inj e)⟩
theorem merge_dI : ∀ (b a : List (Int × Int)), ((a ++ b).map (·.1)).Nodup → mergeK (dI a) (dI b) = dI (a ++ b)
  | [], a, _ => by rw [List.append_nil]; rfl
  | p :: b, a, h => by
    have hn : p.1 ∉ a.map (·.1) := fun z => by
      rw [List.map_append] at h
      exact (List.nodup_append.mp h).2.2 _ z _ (List.mem_map.mpr ⟨p, List.mem_cons_self, rfl⟩) rfl
    show mergeK (putK (dI a) (.inl p.1) (.int p.2)) (dI b) = _
    rw [dI_new hn, merge_dI b (a ++ [(p.1, p.2)]) (by rw [List.append_assoc]; exact h), List.append_assoc]
    rfl
abbrev LvOk (H : Hp) (x : V) : Prop := ∃ (d : Addr) (l : List (Int × Int)), x = .ref d ∧ H d = some (.dK (dI l)) ∧ (l.map (·.1)).Nodup ∧ l.length ≤ 20
theorem LvOk.same {H H' : Hp} {x : V} (h : LvOk H x) (s : Same H H') : LvOk H' x := let ⟨d, l, e, q, r⟩ := h; ⟨d, l, e, s _ _ q, r⟩
theorem LvOk.put {H : Hp} {x : V} {a : Addr} {xs ys : List V} (h : LvOk H x) (e : H a = some (.lst xs)) : LvOk (upd H a (.lst ys)) x := let ⟨d, l, e1, q, r⟩ := h; ⟨d, l, e1, (upd_ne (ne_of q e (by intro z; cases z))).trans q, r⟩
/-- the list of levels, as it grows -/
structure LvL (H1 : Hp) (D : Addr) (c : Nat) (H : Hp) : Prop where
  s : Same H1 H
  n : H1 D = none
  a : ∃ xs : List V, H D = some (.lst xs) ∧ xs.length ≤ c ∧ ∀ x ∈ xs, LvOk H x
theorem LvL.same {H1 H H' : Hp} {D : Addr} {c : Nat} (h : LvL H1 D c H) (s : Same H H') : LvL H1 D c H' := ⟨h.s.trans s, h.n, let ⟨xs, e, l, z⟩ := h.a; ⟨xs, s _ _ e, l, fun x hx => (z x hx).same s⟩⟩
theorem LvL.push {H1 H : Hp} {D : Addr} {c : Nat} {x : V} (h : LvL H1 D c H) (hx : LvOk H x) (hn : c < 1000) : ∃ acc, H D = some (.lst acc) ∧ acc.length < sizeLine ∧ LvL H1 D (c + 1) (upd H D (.lst (acc ++ [x]))) := by
  obtain ⟨xs, e, l, z⟩ := h.a
  refine ⟨xs, e, by rw [sizeLine_eq]; omega, fun b o k => ?_, h.n, xs ++ [x], upd_same, by rw [List.length_append]; show _ + 1 ≤ _; omega, fun y hy => ?_⟩
  · rw [upd_ne (ne_of_none k h.n)]
    exact h.s _ _ k
  · rcases List.mem_append.mp hy with hy | hy
    · exact (z y hy).put e
    · rw [List.mem_singleton.mp hy]
      exact hx.put e
theorem LvL.dput {H1 H : Hp} {D : Addr} {c : Nat} {o : Addr} {l : List (Int × Int)} (h : LvL H1 D c H) (hn : H1 o = none) (e : H o = some (.dK (dI l))) (l2 : List (Int × Int)) (hd : (l2.map (·.1)).Nodup) (h20 : l2.length ≤ 20) : LvL H1 D c (upd H o (.dK (dI l2))) := by
  refine ⟨fun b x k => ?_, h.n, ?_⟩
  · rw [upd_ne (ne_of_none k hn)]
    exact h.s _ _ k
  · obtain ⟨xs, ex, lx, z⟩ := h.a
    refine ⟨xs, (upd_ne (ne_of ex e (by intro z; cases z))).trans ex, lx, fun x hx => ?_⟩
    obtain ⟨d, l0, e1, q, r, r2⟩ := z x hx
    by_cases hdo : d = o
    · subst hdo
      exact ⟨d, l2, e1, upd_same, hd, h20⟩
    · exact ⟨d, l0, e1, (upd_ne hdo).trans q, r, r2⟩
theorem paired_snoc {α β : Type} {F : α → β → Prop} {x : α} {y : β} (h : F x y) : ∀ {xs : List α} {ys : List β}, Paired F xs ys → Paired F (xs ++ [x]) (ys ++ [y])
  | _, _, .nil => .cons h .nil
  | _, _, .cons a b => .cons a (paired_snoc h b)
theorem paired_rev {α β : Type} {F : α → β → Prop} : ∀ {xs : List α} {ys : List β}, Paired F xs ys → Paired F xs.reverse ys.reverse
  | _, _, .nil => .nil
  | _, _, .cons a b => by
    rw [List.reverse_cons, List.reverse_cons]
    exact paired_snoc a (paired_rev b)
def spLle (K : PySem.W.Frag) : Sp := fun vs H Q _ => ∃ (a r g : Nat) (zs ns : List Int), vs = [.ref a, .int r, .ref g] ∧ SqL K H a (zs.map V.int) ∧ zs.length ≤ 63 ∧ 1 ≤ r ∧ H g = some (.lst (ns.map V.int)) ∧ KeysIn ns ∧ 1 ≤ ns.length ∧
  ∀ (H' : Hp) (q : Addr) (xs : List V), Same H H' → H' q = some (.lst xs) → xs.length ≤ 200 → (∀ x ∈ xs, LvOk H' x) → Q (.ref q) H'
theorem ok_lle (T : Tx K mg A) : FnOk P w K mg base CX0 4 A.f__law_levels A.d__law_levels ["script", "room", "given"] (spLle K) := by
  refine T.F__law_levels.ok sc__law_levels (fun vs H Q E h => ?_) (fun cdv B outer s H vs Q E hr h => ?_)
  · obtain ⟨a, r, g, zs, ns, rfl, _⟩ := h
    rfl
  · obtain ⟨a, r, g, zs, ns, rfl, ha, h63, hr1, eg, hk, hl1, q⟩ := h
    have nd := sc__law_levels.nd
    have hu := hr.units
    have hd1 := Nat.lt_of_le_of_lt (Nat.add_le_add_left (show 1 ≤ 64 by decide) _) hr.units
    refine ⟨_, (C8.pss_cut (ps_set (i := 3) nd rfl (Or.inl rfl) (pe_call (ok_lru T) (hr.mono (by decide)) (by rfl) T.m__law_runs T.F__law_runs.kp (b_lru T) .nil pass0 (pa_cons (pv 1) (pa_cons (pv 2) pa_nil))))
      (C8.pss_cut (ps_set (i := 4) nd rfl (Or.inl rfl) (pe_lst (pa_cons (pv 3) (pa_cons (pe_callTy (r := rDictP K) (call_dictPK rfl) (by rfl) T.g_dict (by decide +kernel) (pa_cons (pe_revL (LiI.pe_listItems rfl (pv 3) (by rfl) T.g_list (by decide +kernel))) pa_nil)) (pa_cons pe_dnewK pa_nil)))))
      (C8.pss_cut (ps_set (i := 4) nd rfl (Or.inl rfl) (pe_op op_cat (pv 4) (pe_lc (own := [("level", 12)]) (g := gName 12) (tt := tYes) rfl nd (pi_tup (pe_tup (pa_cons pe_int (pa_cons pe_int pa_nil)))) (blkOk_by (own := [("level", 12)]) (N := ["script", "room", "given", "base", "found", "key", "at", "change", "other", "less", "late", "more", "level"]) (sc := defScope s__law_levels) (by decide +kernel)) (fun _ _ _ _ _ => pg_name (i := 12) nd rfl (Or.inr rfl)) (fun _ _ _ _ _ => pts_nil) (fun _ _ _ _ _ => (pe_callTy (r := rDictP K) (call_dictPK rfl) (by rfl) T.g_dict (by decide +kernel) (pa_cons (pe_lc (own := [("key", 5)]) (g := gName 5) (tt := tYes) rfl nd (pi_listK (K := K) rfl (pv 2)) (blkOk_in (own := [("key", 5)]) (N := ["script", "room", "given", "base", "found", "key", "at", "change", "other", "less", "late", "more", "level"]) (sc0 := defScope s__law_levels) rfl rfl (by decide +kernel)) (fun _ _ _ _ _ => pg_name (i := 5) nd rfl (Or.inl rfl)) (fun _ _ _ _ _ => pts_nil) (fun _ _ _ _ _ => (pe_tup (pa_cons (pv 5) (pa_cons (pv 12) pa_nil))))) pa_nil))))))
      (C8.pss_cut (ps_for PassesOwn.never rfl (pi_enS (by rfl) T.g_enumerate (pa_cons (pv 2) pa_nil)) (pg_tup rfl (pgs_cons (pg_name (i := 6) nd rfl (Or.inl rfl)) (pgs_cons (pg_name (i := 5) nd rfl (Or.inl rfl)) pgs_nil))) (C8.pss_cut (ps_for PassesOwn.never rfl (pi_tup (pe_tup (pa_cons (pe_un un_neg pe_int) (pa_cons pe_int pa_nil)))) (pg_name (i := 7) nd rfl (Or.inl rfl)) (C8.pss_cut (ps_set (i := 8) nd rfl (Or.inl rfl) (pe_callTy call_dictD (by rfl) T.g_dict (by decide +kernel) (pa_cons (pv 3) pa_nil)))
      (pss_cons (ps_dput hd1 (pv 8) (pv 5) (pe_op op_add (pe_dget hd1 (pv 8) (pv 5) (fun _ _ => rfl)) (pv 7)) rfl)
      (pss_one (ps_expr (pe_bm PySem.F.plainAttrs_list PySem.F.slot_list_append PySem.F.type_list_append mt_append (pv 4) (pa_cons (pv 8) pa_nil)))))))
      (pss_cons (ps_set (i := 9) nd rfl (Or.inl rfl) (pe_callTy call_dictD (by rfl) T.g_dict (by decide +kernel) (pa_cons (pv 3) pa_nil)))
      (pss_cons (ps_expr (pe_dpop1 (pv 9) (pv 5) ⟨by rfl, by rfl, by rfl, by rfl⟩))
      (pss_cons (ps_expr (pe_bm PySem.F.plainAttrs_list PySem.F.slot_list_append PySem.F.type_list_append mt_append (pv 4) (pa_cons (pv 9) pa_nil)))
      (pss_cons (ps_set (i := 10) nd rfl (Or.inl rfl) (pe_callTy call_dictD (by rfl) T.g_dict (by decide +kernel) (pa_cons (pv 3) pa_nil)))
      (pss_cons (ps_dput hd1 (pv 10) (pv 5) (pe_dget hd1 (pv 3) (pe_ix (r := rIxL K) ix_list (pv 2) (pe_op op_mod (pe_callTy call_int1 (by rfl) T.g_int (by decide +kernel) (pa_cons (pe_call (ok_num T) (hr.mono (by decide)) (by rfl) T.m__law_number T.F__law_number.kp (b_num T) .nil pass0 (pa_cons (pv 0) (pa_cons (pe_op op_add pe_int (pv 6)) pa_nil))) pa_nil)) (pe_callB (r := rLn K) call_len_seq (by rfl) T.g_len PySem.boot_len (pa_cons (pv 2) pa_nil))) (fun _ _ => rfl)) (fun _ _ => rfl)) rfl)
      (pss_one (ps_expr (pe_bm PySem.F.plainAttrs_list PySem.F.slot_list_append PySem.F.type_list_append mt_append (pv 4) (pa_cons (pv 10) pa_nil)))))))))))
      (C8.pss_cut (ps_set (i := 11) nd rfl (Or.inl rfl) (pe_callTy call_dictD (by rfl) T.g_dict (by decide +kernel) (pa_cons (pv 3) pa_nil)))
      (pss_cons (ps_dput hd1 (pv 11) pe_int pe_int rfl)
      (pss_one (ps_ret (pe_op op_cat (pv 4) (pe_lst (pa_cons (pv 11) pa_nil))))))))))), ?_⟩
    have hwl : (writeL r ns).length = ns.length := write_len
    have hbk : (ruL (writeL r ns) ns.length).map (·.1) = writeL r ns := by rw [ruL_keys (by omega), List.take_of_length_le (by omega)]
    have hbn : ((ruL (writeL r ns) ns.length).map (·.1)).Nodup := by rw [hbk]; exact (write_perm hr1).nodup_iff.mpr hk.2.2
    have hbl : (ruL (writeL r ns) ns.length).length ≤ 12 := by rw [ruL_len]; exact hk.1
    have hbm : ∀ k ∈ ns, k ∈ (ruL (writeL r ns) ns.length).map (·.1) := fun k h => by rw [hbk]; exact (write_perm hr1).mem_iff.mpr h
    refine ⟨fun σ' H' => ∃ d : Addr, σ' = [some (.ref a), some (.int r), some (.ref g), some (.ref d), none, none, none, none, none, none, none, none, none] ∧ Same H H' ∧ H' d = some (.dK (dI (ruL (writeL r ns) ns.length))), ?_, ?_⟩
    · exact ⟨_, rfl, _, rfl, r, g, ns, rfl, hr1, eg, hk, fun H1 d s1 ed => ⟨d, rfl, s1, ed⟩⟩
    rintro σ' H1 ⟨d, rfl, s1, ed⟩
    generalize ruL (writeL r ns) ns.length = bs at hbn hbl hbm ed
    refine ⟨fun σ' H' => ∃ fA : Addr, σ' = [some (.ref a), some (.int r), some (.ref g), some (.ref d), some (.ref fA), none, none, none, none, none, none, none, none] ∧ LvL H1 fA 3 H', ?_, ?_⟩
    · refine ⟨_, rfl, _, rfl, d, _, rfl, ed, fun H2 p ts s2 np nts hpts ep hpair => ?_⟩
      refine ⟨p, _, rfl, SqL.of ep, fun p2 np2 => ?_⟩
      rw [← List.map_reverse]
      have s3 : Same H1 (upd H2 p2 (.lst (ts.reverse.map V.ref))) := fun b o e => (Same.up np2) _ _ (s2 _ _ e)
      have f3 := Same.up (o := .lst (ts.reverse.map V.ref)) np2
      have ep3 : upd H2 p2 (.lst (ts.reverse.map V.ref)) p2 = _ := upd_same
      generalize upd H2 p2 (.lst (ts.reverse.map V.ref)) = H3 at s3 f3 ep3
      have hrev : (dI bs).reverse = dI bs.reverse := by unfold dI; rw [List.map_reverse]
      refine ⟨p2, ts.reverse, dI bs.reverse, rfl, SqL.of ep3, ?_, fun d2 nd2 => ?_⟩
      · rw [← hrev]
        exact paired_rev (L2.Paired.mapP hpair fun _ _ h => SqT.of (f3 _ _ h))
      have hrn : (bs.reverse.map (·.1)).Nodup := by
        rw [List.map_reverse]
        exact (List.reverse_perm _).nodup_iff.mpr hbn
      rw [show mergeK [] (dI bs.reverse) = dI bs.reverse from merge_dI bs.reverse [] hrn]
      have s4 := s3.trans (Same.up (o := .dK (dI bs.reverse)) nd2)
      have ed2 : upd H3 d2 (.dK (dI bs.reverse)) d2 = _ := upd_same
      generalize upd H3 d2 (.dK (dI bs.reverse)) = H4 at s4 ed2
      refine fun d3 nd3 => ?_
      have f5 := Same.up (o := .dK []) nd3
      have ed3 : upd H4 d3 (.dK []) d3 = _ := upd_same
      generalize upd H4 d3 (.dK []) = H5 at f5 ed3
      refine ⟨by show 3 ≤ sizeLine; decide, fun fA nfA => ⟨fA, rfl, ?_⟩⟩
      have f6 := Same.up (o := .lst [.ref d, .ref d2, .ref d3]) nfA
      refine ⟨s4.trans (f5.trans f6), (s4.trans f5).free nfA, _, upd_same, Nat.le_refl _, fun x hx => ?_⟩
      simp only [List.mem_cons, List.not_mem_nil, or_false] at hx
      rcases hx with rfl | rfl | rfl
      · exact ⟨d, bs, rfl, f6 _ _ (f5 _ _ (s4 _ _ ed)), hbn, by omega⟩
      · exact ⟨d2, bs.reverse, rfl, f6 _ _ (f5 _ _ ed2), hrn, by rw [List.length_reverse]; omega⟩
      · exact ⟨d3, [], rfl, f6 _ _ ed3, List.nodup_nil, by simp⟩
    rintro σ' H2 ⟨fA, rfl, lv2⟩
    refine ⟨fun σ' H' => ∃ fA : Addr, σ' = [some (.ref a), some (.int r), some (.ref g), some (.ref d), some (.ref fA), none, none, none, none, none, none, none, none] ∧ LvL H1 fA 5 H', ?_, ?_⟩
    · refine ⟨_, rfl, by show 2 ≤ sizeLine; decide, fun t nt => ?_⟩
      have lv3 := lv2.same (Same.up (o := .tup [V.int 1, V.int 2]) nt)
      have et : upd H2 t (.tup [V.int 1, V.int 2]) t = _ := upd_same
      generalize upd H2 t (.tup [V.int 1, V.int 2]) = H3 at lv3 et
      have eg3 := lv3.s _ _ (s1 _ _ eg)
      refine ⟨t, rfl, ⟨_, SqT.of et⟩, fun D nD => ?_⟩
      have hD : LvL H3 D 0 (upd H3 D (.lst [])) := ⟨Same.up nD, nD, [], upd_same, Nat.le_refl _, fun x hx => nomatch hx⟩
      refine lc_it (walk_tup (xs := [V.int 1, V.int 2])) (fun i H' => LvL H3 D i H') hD (fun i H' _ h => SqT.of (h.s _ _ et)) ?_ ?_
      · rintro i y Ho H4 hi lvD ⟨rfl, hy⟩
        obtain ⟨c, rfl⟩ : ∃ c : Int, y = .int c := by
          have hi : i < 2 := hi
          rcases (show i = 0 ∨ i = 1 by omega) with rfl | rfl
          · exact ⟨1, (Option.some.inj hy).symm⟩
          · exact ⟨2, (Option.some.inj hy).symm⟩
        have hi2 : i < 2 := hi
        have eg4 := lvD.s _ _ eg3
        refine ⟨rfl, iteT (B := LvL H3 D (i + 1) H4) ?_⟩
        refine ⟨_, rfl, g, rfl, ⟨_, SqL.of eg4⟩, fun D2 nD2 => ?_⟩
        refine lc_it (walk_list (xs := ns.map V.int)) (fun j H' => Same H4 H' ∧ ∃ ps : List Addr, H' D2 = some (.lst (ps.map V.ref)) ∧ Paired (fun p kv => H' p = some (.tup [kV kv.1, kv.2])) ps (dI ((ns.take j).map fun k => (k, c)))) ⟨Same.up nD2, [], upd_same, .nil⟩ (fun j H' _ h => SqL.of (h.1 _ _ eg4)) ?_ ?_
        · rintro j y Hp H5 hj ⟨s5, ps, e5, hps⟩ ⟨rfl, hy⟩
          obtain ⟨hj2, rfl⟩ := ints_at hy
          have h12 := hk.1
          have hpl : ps.length ≤ 12 := by
            rw [Paired.length hps, dI_len, List.length_map, List.length_take]
            omega
          rw [List.take_succ_eq_append_getElem hj2]
          generalize ns[j] = k
          refine ⟨rfl, iteT (B := Same H4 H5 ∧ ∃ ps : List Addr, H5 D2 = some (.lst (ps.map V.ref)) ∧ Paired (fun p kv => H5 p = some (.tup [kV kv.1, kv.2])) ps (dI ((ns.take j ++ [k]).map fun k => (k, c)))) ?_⟩
          refine ⟨_, rfl, _, rfl, by show 2 ≤ sizeLine; decide, fun u nu => ?_⟩
          have f6 := Same.up (o := .tup [V.int k, V.int c]) nu
          have eu : upd H5 u (.tup [V.int k, V.int c]) u = _ := upd_same
          generalize upd H5 u (.tup [V.int k, V.int c]) = H6 at f6 eu
          have e6 := f6 _ _ e5
          refine ⟨_, e6, by rw [List.length_map, sizeLine_eq]; omega, fun b o e => ?_, ps ++ [u], ?_, ?_⟩
          · rw [upd_ne (ne_of_none e nD2)]
            exact f6 _ _ (s5 _ _ e)
          · rw [upd_same, List.map_append]
            rfl
          · rw [List.map_append]
            show Paired _ _ (dI (_ ++ [(k, c)]))
            have e2 : dI ((ns.take j).map (fun k => (k, c)) ++ [(k, c)]) = dI ((ns.take j).map fun k => (k, c)) ++ [(Sum.inl k, V.int c)] := by unfold dI; rw [List.map_append]; rfl
            rw [e2]
            have hps' : Paired (fun p kv => upd H6 D2 (.lst (ps.map V.ref ++ [.ref u])) p = some (.tup [kV kv.1, kv.2])) ps (dI ((ns.take j).map fun k => (k, c))) :=
              L2.Paired.mapP hps fun p kv h => (upd_ne (ne_of (f6 _ _ h) e6 (by intro z; cases z))).trans (f6 _ _ h)
            exact paired_snoc (F := fun (p : Addr) (kv : Key × V) => upd H6 D2 (.lst (ps.map V.ref ++ [.ref u])) p = some (.tup [kV kv.1, kv.2])) (x := u) (y := (Sum.inl k, V.int c)) ((upd_ne (ne_of eu e6 (by intro z; cases z))).trans eu) hps'
        · rintro H5 ⟨s5, ps, e5, hps⟩
          rw [List.length_map, List.take_length] at hps
          refine ⟨D2, ps, _, rfl, SqL.of e5, L2.Paired.mapP hps fun _ _ h => SqT.of h, fun d4 nd4 => ?_⟩
          have hkn : ((ns.map fun k => (k, c)).map (·.1)) = ns := by rw [List.map_map]; exact List.map_id ns
          rw [show mergeK [] (dI (ns.map fun k => (k, c))) = dI (ns.map fun k => (k, c)) from merge_dI _ [] (by rw [List.nil_append, hkn]; exact hk.2.2)]
          have lvD6 := (lvD.same s5).same (Same.up (o := .dK (dI (ns.map fun k => (k, c)))) nd4)
          exact lvD6.push ⟨d4, _, rfl, upd_same, by rw [hkn]; exact hk.2.2, by rw [List.length_map]; have := hk.1; omega⟩ (by omega)
      · intro H4 lvD
        have lv4 := lv3.same lvD.s
        obtain ⟨xs, ex, lx, zx⟩ := lv4.a
        obtain ⟨ys, ey, ly, zy⟩ := lvD.a
        have ly : ys.length ≤ 2 := ly
        refine ⟨fA, D, xs, ys, rfl, rfl, ex, ey, by rw [sizeLine_eq]; omega, fun fB nfB => ⟨fB, rfl, ?_⟩⟩
        have f5 := Same.up (o := .lst (xs ++ ys)) nfB
        refine ⟨lv4.s.trans f5, lv4.s.free nfB, xs ++ ys, upd_same, by rw [List.length_append]; omega, fun x hx => ?_⟩
        rcases List.mem_append.mp hx with hx | hx
        · exact (zx x hx).same f5
        · exact (zy x hx).same f5
    rintro σ' H3 ⟨fA, rfl, lv3⟩
    have eg1 := s1 _ _ eg
    refine ⟨fun σ' H' => ∃ (x5 x6 x7 x8 x9 x10 : Option V), σ' = [some (.ref a), some (.int r), some (.ref g), some (.ref d), some (.ref fA), x5, x6, x7, x8, x9, x10, none, none] ∧ LvL H1 fA (5 + 4 * ns.length) H', ?_, ?_⟩
    · refine ⟨_, rfl, g, _, rfl, .inl ⟨SqL.of (lv3.s _ _ eg1), ?_⟩⟩
      refine for_it (walk_enum (xs := ns.map V.int)) (fun i σ' H' => ∃ (x5 x6 x7 x8 x9 x10 : Option V), σ' = [some (.ref a), some (.int r), some (.ref g), some (.ref d), some (.ref fA), x5, x6, x7, x8, x9, x10, none, none] ∧ LvL H1 fA (5 + 4 * i) H') ⟨none, none, none, none, none, none, rfl, lv3⟩ (fun i σ' H' _ ⟨_, _, _, _, _, _, _, h⟩ => SqL.of (h.s _ _ eg1)) ?_ (fun σ' H' h => by rw [List.length_map] at h; exact h)
      rintro i v σ' Ho H4 hi ⟨x5, x6, x7, x8, x9, x10, rfl, lv4⟩ ⟨T', x, x2, rfl, hT, rfl, e1, e2⟩
      obtain ⟨hi', rfl⟩ := ints_at e2
      cases e1
      have h12 := hk.1
      have hi12 : i < 12 := by omega
      refine ⟨_, _, rfl, SqT.of upd_same, rfl, _, _, rfl, _, _, rfl, rfl, ?_⟩
      have lv5 := lv4.same (Same.up (o := .tup [V.int (i : Nat), V.int ns[i]]) hT)
      generalize upd Ho T' (.tup [V.int (i : Nat), V.int ns[i]]) = H5 at lv5
      have hkm := hbm _ (List.getElem_mem hi')
      generalize ns[i] = k at hkm
      refine ⟨fun σ' H' => ∃ (x7 x8 : Option V), σ' = [some (.ref a), some (.int r), some (.ref g), some (.ref d), some (.ref fA), some (.int k), some (.int i), x7, x8, x9, x10, none, none] ∧ LvL H1 fA (5 + 4 * i + 2) H', ?_, ?_⟩
      · refine ⟨_, rfl, by show 2 ≤ sizeLine; decide, fun t nt => ?_⟩
        have lv6 := lv5.same (Same.up (o := .tup [V.int (-1), V.int 1]) nt)
        have et : upd H5 t (.tup [V.int (-1), V.int 1]) t = _ := upd_same
        generalize upd H5 t (.tup [V.int (-1), V.int 1]) = H6 at lv6 et
        refine ⟨t, rfl, ⟨_, SqT.of et⟩, ?_⟩
        refine for_it (walk_tup (xs := [V.int (-1), V.int 1])) (fun j σ' H' => ∃ (x7 x8 : Option V), σ' = [some (.ref a), some (.int r), some (.ref g), some (.ref d), some (.ref fA), some (.int k), some (.int i), x7, x8, x9, x10, none, none] ∧ LvL H1 fA (5 + 4 * i + j) H' ∧ H' t = some (.tup [V.int (-1), V.int 1])) ⟨x7, x8, rfl, lv6, et⟩ (fun j σ' H' _ ⟨_, _, _, _, h⟩ => SqT.of h) ?_ (fun σ' H' ⟨y7, y8, e, h, _⟩ => ⟨y7, y8, e, h⟩)
        rintro j y σ' Hp H7 hj ⟨y7, y8, rfl, lv7, et7⟩ ⟨rfl, hy⟩
        have hj2 : j < 2 := hj
        obtain ⟨c, rfl⟩ : ∃ c : Int, y = .int c := by
          rcases (show j = 0 ∨ j = 1 by omega) with rfl | rfl
          · exact ⟨-1, (Option.some.inj hy).symm⟩
          · exact ⟨1, (Option.some.inj hy).symm⟩
        have ed7 := lv7.s _ _ ed
        refine ⟨fun σ' H' => ∃ o : Addr, σ' = [some (.ref a), some (.int r), some (.ref g), some (.ref d), some (.ref fA), some (.int k), some (.int i), some (.int c), some (.ref o), x9, x10, none, none] ∧ H7 o = none ∧ Same H7 H' ∧ H' o = some (.dK (dI bs)), ?_, ?_⟩
        · exact ⟨_, rfl, d, _, rfl, .inl ed7, fun o no => ⟨o, rfl, no, Same.up no, upd_same⟩⟩
        rintro σ' H8 ⟨o, rfl, no, s8, eo⟩
        refine ⟨_, rfl, _, rfl, o, _, rfl, (dI_val hkm) ▸ DGet.k (k := .inl k) eo, _, rfl, _, _, rfl, rfl, _, rfl, _, rfl, o, _, rfl, DPut.k (k := .inl k) eo (by rw [dI_len, sizeLine_eq]; omega), ?_⟩
        rw [dI_put]
        obtain ⟨acc, eac, hac, lv9⟩ := ((lv7.same s8).dput (Same.free lv7.s no) eo (setI bs k (lev bs k + c)) (setI_nd _ _ hbn) (by have := setI_len bs k (lev bs k + c); omega)).push (x := .ref o) ⟨o, setI bs k (lev bs k + c), rfl, upd_same, setI_nd _ _ hbn, by have := setI_len bs k (lev bs k + c); omega⟩ (by omega)
        exact ⟨_, rfl, .inl ⟨rfl, _, SqL.of eac⟩, _, rfl, fA, acc, _, rfl, rfl, eac, hac, _, _, rfl, lv9, (upd_ne (ne_of ((upd_ne (ne_of (s8 _ _ et7) eo (by intro z; cases z))).trans (s8 _ _ et7)) eac (by intro z; cases z))).trans ((upd_ne (ne_of (s8 _ _ et7) eo (by intro z; cases z))).trans (s8 _ _ et7))⟩
      rintro σ' H6 ⟨y7, y8, rfl, lv6⟩
      have ed6 := lv6.s _ _ ed
      refine ⟨_, rfl, d, _, rfl, .inl ed6, fun o no => ?_⟩
      have f7 := Same.up (o := .dK (dI bs)) no
      have eo : upd H6 o (.dK (dI bs)) o = some (.dK (dI bs)) := upd_same
      have lv7 := lv6.same f7
      generalize upd H6 o (.dK (dI bs)) = H7 at f7 eo lv7
      refine ⟨_, rfl, o, rfl, .inl ⟨_, .inl eo⟩, _, rfl, _, .inl k, _, eo, rfl, dI_val hkm, ?_⟩
      rw [dI_drop]
      have hfn : ((bs.filter fun p => decide (p.1 ≠ k)).map (·.1)).Nodup := hbn.sublist (List.Sublist.map _ List.filter_sublist)
      have hfl : (bs.filter fun p => decide (p.1 ≠ k)).length ≤ 12 := Nat.le_trans (List.length_filter_le _ _) hbl
      obtain ⟨acc, eac, hac, lv9⟩ := (lv7.dput (Same.free lv6.s no) eo (bs.filter fun p => decide (p.1 ≠ k)) hfn (by omega)).push (x := .ref o) ⟨o, _, rfl, upd_same, hfn, by omega⟩ (by omega)
      refine ⟨_, rfl, .inl ⟨rfl, _, SqL.of eac⟩, _, rfl, fA, acc, _, rfl, rfl, eac, hac, ?_⟩
      generalize upd (upd H7 o (.dK (dI (bs.filter fun p => decide (p.1 ≠ k))))) fA (.lst (acc ++ [.ref o])) = H9 at lv9
      have ed9 := lv9.s _ _ ed
      have eg9 := lv9.s _ _ eg1
      refine ⟨_, rfl, d, _, rfl, .inl ed9, fun o2 no2 => ?_⟩
      have f10 := Same.up (o := .dK (dI bs)) no2
      have eo2 : upd H9 o2 (.dK (dI bs)) o2 = some (.dK (dI bs)) := upd_same
      have lv10 := lv9.same f10
      generalize upd H9 o2 (.dK (dI bs)) = H10 at f10 eo2 lv10
      have s10 := s1.trans lv10.s
      refine ⟨_, rfl, _, rfl, _, rfl, _, rfl, _, _, rfl, rfl, a, zs, 20 + i, rfl, LamX.ExtN.sqL (fun b o e _ => s10 b o e) ha, h63, by omega, fun H11 v s11 => .inl ⟨v, rfl, ?_⟩⟩
      have eg11 := s11 _ _ (f10 _ _ eg9)
      obtain ⟨j, hj, ej⟩ : ∃ j : Nat, j < ns.length ∧ v % ((ns.map V.int).length : Int) = (j : Int) := by
        have h1 := Int.emod_nonneg v (show ((ns.map V.int).length : Int) ≠ 0 by rw [List.length_map]; omega)
        have h2 := Int.emod_lt_of_pos v (show (0 : Int) < ((ns.map V.int).length : Int) by rw [List.length_map]; omega)
        rw [List.length_map] at h2
        exact ⟨(v % ((ns.map V.int).length : Int)).toNat, by rw [List.length_map] at h1 ⊢; omega, by omega⟩
      have hat : atI (ns.map V.int) (v % ((ns.map V.int).length : Int)) = some (V.int (ns.getD j 0)) := by
        rw [ej]
        exact atV_nat V.int 0 hj
      have hgm : ns.getD j 0 ∈ ns := by
        rw [List.getD_eq_getElem?_getD, List.getElem?_eq_getElem hj]
        exact List.getElem_mem hj
      have hg := DGet.k (k := .inl (ns.getD j 0)) (s11 _ _ (f10 _ _ ed9))
      rw [dI_val (hbm _ hgm)] at hg
      generalize ns.getD j 0 = k2 at hat hg
      have eo11 := s11 _ _ eo2
      refine ⟨_, rfl, g, _, rfl, .inl (SqL.of eg11), v, _, rfl, rfl, (by rw [List.length_map]; omega), g, _, _, _, rfl, rfl, SqL.of eg11, hat, d, _, rfl, hg, _, rfl, _, rfl, o2, _, rfl, DPut.k (k := .inl k) eo11 (by rw [dI_len, sizeLine_eq]; omega), ?_⟩
      rw [dI_put]
      have hln := setI_len bs k (lev bs k2)
      obtain ⟨acc2, eac2, hac2, lv12⟩ := ((lv10.same s11).dput (Same.free lv9.s no2) eo11 (setI bs k (lev bs k2)) (setI_nd _ _ hbn) (by omega)).push (x := .ref o2) ⟨o2, _, rfl, upd_same, setI_nd _ _ hbn, by omega⟩ (by omega)
      exact ⟨_, rfl, .inl ⟨rfl, _, SqL.of eac2⟩, _, rfl, fA, acc2, _, rfl, rfl, eac2, hac2, _, _, _, _, _, _, rfl, lv12⟩
    rintro σ' H4 ⟨x5, x6, x7, x8, x9, x10, rfl, lv4⟩
    have h12 := hk.1
    refine ⟨fun σ' H' => ∃ o : Addr, σ' = [some (.ref a), some (.int r), some (.ref g), some (.ref d), some (.ref fA), x5, x6, x7, x8, x9, x10, some (.ref o), none] ∧ H4 o = none ∧ Same H4 H' ∧ H' o = some (.dK (dI bs)), ?_, ?_⟩
    · exact ⟨_, rfl, d, _, rfl, .inl (lv4.s _ _ ed), fun o no => ⟨o, rfl, no, Same.up no, upd_same⟩⟩
    rintro σ' H5 ⟨o, rfl, no, s5, eo⟩
    refine ⟨_, rfl, o, _, rfl, DPut.k (k := .inl 99) eo (by rw [dI_len, sizeLine_eq]; omega), ?_⟩
    rw [dI_put]
    have hln := setI_len bs 99 1
    have lv6 := (lv4.same s5).dput (Same.free lv4.s no) eo (setI bs 99 1) (setI_nd _ _ hbn) (by omega)
    have eo6 : upd H5 o (.dK (dI (setI bs 99 1))) o = _ := upd_same
    generalize upd H5 o (.dK (dI (setI bs 99 1))) = H6 at lv6 eo6
    obtain ⟨xs, ex, lx, zx⟩ := lv6.a
    refine ⟨_, rfl, _, rfl, by show 1 ≤ sizeLine; decide, fun u nu => ?_⟩
    have f7 := Same.up (o := .lst [V.ref o]) nu
    refine ⟨fA, u, xs, [V.ref o], rfl, rfl, f7 _ _ ex, upd_same, by rw [sizeLine_eq]; show _ + 1 ≤ _; omega, fun z nz => ?_⟩
    have f8 := f7.trans (Same.up (o := .lst (xs ++ [V.ref o])) nz)
    refine q _ z _ (s1.trans (lv6.s.trans f8)) upd_same (by rw [List.length_append]; show _ + 1 ≤ _; omega) fun x hx => ?_
    rcases List.mem_append.mp hx with hx | hx
    · exact (zx x hx).same f8
    · rw [List.mem_singleton.mp hx]
      exact ⟨o, _, rfl, f8 _ _ eo6, setI_nd _ _ hbn, by omega⟩
theorem b_lle (T : Tx K mg A) : L2.Binds K A.d__law_levels ["script", "room", "given"] [] := T.F__law_levels.binds fun _ _ _ _ _ _ us hl => match us, hl with | [_, _, _], _ => rfl

end
end Tw

set_option Elab.async false
set_option linter.all false
set_option maxRecDepth 100000
set_option maxHeartbeats 2000000
namespace Tw
open PySem PySem.Spec PyProof.Rows L2
section
variable {P : Program} {w : World} {K : PySem.W.Frag} {mg : Str → Option Value} {base : Heap} {A : Ad}
open LamX (ExtN Tabs TabS)
theorem ixN_nat {n p : Nat} (h : p < n) : ixN n (p : Int) = some p := by
  unfold ixN
  rw [if_pos (by omega), if_pos (by omega), Int.toNat_natCast]
theorem n1 : ¬ (("many" : Str) = "arms") := by decide +kernel
theorem n2 : ¬ (("many" : Str) = "_places") := by decide +kernel
theorem n3 : ¬ (("arms" : Str) = "_places") := by decide +kernel
end
end Tw

set_option Elab.async false
set_option linter.all false
set_option maxRecDepth 100000
set_option maxHeartbeats 2000000
namespace Tw
open PySem PySem.Spec PyProof.Rows L2
section
variable {P : Program} {w : World} {K : PySem.W.Frag} {mg : Str → Option Value} {base : Heap} {A : Ad}
open LamX (ExtN Tabs TabS)
/-! what the law writes of a way: ok_lle ok_num cr_sortedI KeysIn atV_nat cutv_from SqL.of neInt ixN_nat -/
abbrev WrL (H : Hp) (x : V) : Prop := ∃ (t : Addr) (ws : List Int), x = .ref t ∧ H t = some (.lst (ws.map V.int)) ∧ ws.length ≤ 13
theorem WrL.same {H H' : Hp} {x : V} (h : WrL H x) (s : Same H H') : WrL H' x := let ⟨t, ws, e, q, l⟩ := h; ⟨t, ws, e, s _ _ q, l⟩
def spLwr (K : PySem.W.Frag) : Sp := fun vs H Q _ => ∃ (a g t : Nat) (zs ns ws : List Int), vs = [.ref a, .ref g, .ref t] ∧ SqL K H a (zs.map V.int) ∧ zs.length ≤ 63 ∧ H g = some (.lst (ns.map V.int)) ∧ KeysIn ns ∧ 1 ≤ ns.length ∧ H t = some (.tup (ws.map V.int)) ∧ ws.length = ns.length ∧
  ∀ (H' : Hp) (q : Addr) (xs : List V), Same H H' → H' q = some (.lst xs) → xs.length ≤ 20 → (∀ x ∈ xs, WrL H' x) → Q (.ref q) H'
theorem ok_lwr (T : Tx K mg A) : FnOk P w K mg base CX0 4 A.f__law_written A.d__law_written ["script", "given", "told"] (spLwr K) := by
  refine T.F__law_written.ok sc__law_written (fun vs H Q E h => ?_) (fun cdv B outer s H vs Q E hr h => ?_)
  · obtain ⟨a, g, t, zs, ns, ws, rfl, _⟩ := h
    rfl
  · obtain ⟨a, g, t, zs, ns, ws, rfl, ha, h63, eg, hk, hl1, et, hwl, q⟩ := h
    have nd := sc__law_written.nd
    have hu := hr.units
    have hd1 := Nat.lt_of_le_of_lt (Nat.add_le_add_left (show 1 ≤ 64 by decide) _) hr.units
    have h12 := hk.1
    refine ⟨_, (C8.pss_cut (ps_set (i := 3) nd rfl (Or.inl rfl) (pe_lst (pa_cons (pe_callTy (r := rListK K) call_listK (by rfl) T.g_list (by decide +kernel) (pa_cons (pv 2) pa_nil)) (pa_cons (pe_callTy (r := rListK K) call_listK (by rfl) T.g_list (by decide +kernel) (pa_cons (pv 1) pa_nil)) (pa_cons (pe_callB cr_sortedI (by rfl) T.g_sorted (by decide +kernel) (pa_cons (pv 1) pa_nil)) (pa_cons (pe_revL (pe_callB cr_sortedI (by rfl) T.g_sorted (by decide +kernel) (pa_cons (pv 1) pa_nil))) (pa_cons (pe_slice (r := rSlL K) sl_list (pe_callTy (r := rListK K) call_listK (by rfl) T.g_list (by decide +kernel) (pa_cons (pv 2) pa_nil)) (po_some pe_int) po_none) (pa_cons (pe_op op_cat (pe_callTy (r := rListK K) call_listK (by rfl) T.g_list (by decide +kernel) (pa_cons (pv 2) pa_nil)) (pe_lst (pa_cons pe_int pa_nil))) (pa_cons (pe_lst pa_nil) pa_nil)))))))))
      (pss_cons (ps_set (i := 4) nd rfl (Or.inl rfl) (pe_op op_mod (pe_callTy call_int1 (by rfl) T.g_int (by decide +kernel) (pa_cons (pe_call (ok_num T) (hr.mono (by decide)) (by rfl) T.m__law_number T.F__law_number.kp (b_num T) .nil pass0 (pa_cons (pv 0) (pa_cons pe_int pa_nil))) pa_nil)) (pe_callB (r := rLn K) call_len_seq (by rfl) T.g_len PySem.boot_len (pa_cons (pv 1) pa_nil))))
      (pss_cons (ps_set (i := 5) nd rfl (Or.inl rfl) (pe_op op_mod (pe_callTy call_int1 (by rfl) T.g_int (by decide +kernel) (pa_cons (pe_call (ok_num T) (hr.mono (by decide)) (by rfl) T.m__law_number T.F__law_number.kp (b_num T) .nil pass0 (pa_cons (pv 0) (pa_cons pe_int pa_nil))) pa_nil)) (pe_callB (r := rLn K) call_len_seq (by rfl) T.g_len PySem.boot_len (pa_cons (pv 1) pa_nil))))
      (pss_cons (ps_par (i := 6) (j := 7) rfl nd rfl rfl (by decide) rfl rfl (pa_cons (pe_callTy (r := rListK K) call_listK (by rfl) T.g_list (by decide +kernel) (pa_cons (pv 2) pa_nil)) (pa_cons (pe_callTy (r := rListK K) call_listK (by rfl) T.g_list (by decide +kernel) (pa_cons (pv 2) pa_nil)) pa_nil)) rfl)
      (pss_cons (ps_asg (pe_ix (r := rIxT K) ix_tup (pv 2) (pv 5) (fun _ _ => rfl)) (pg_sub (pv 6) (pv 4) set_list))
      (pss_cons (ps_asg (pe_ix (r := rIxT K) ix_tup (pv 2) (pv 4) (fun _ _ => rfl)) (pg_sub (pv 6) (pv 5) set_list))
      (pss_cons (ps_asg (pe_ix (r := rIxT K) ix_tup (pv 2) (pv 5) (fun _ _ => rfl)) (pg_sub (pv 7) (pv 4) set_list))
      (pss_one (ps_ret (pe_op op_cat (pv 3) (pe_lst (pa_cons (pv 6) (pa_cons (pv 7) pa_nil))))))))))))), ?_⟩
    refine ⟨fun σ' H' => ∃ (D : Addr) (xs : List V), σ' = [some (.ref a), some (.ref g), some (.ref t), some (.ref D), none, none, none, none] ∧ Same H H' ∧ H' D = some (.lst xs) ∧ xs.length ≤ 7 ∧ ∀ x ∈ xs, WrL H' x, ?_, ?_⟩
    · refine ⟨_, rfl, t, _, rfl, .inr (SqT.of et), fun p1 n1 => ?_⟩
      have s1 := Same.up (o := .lst (ws.map V.int)) n1
      have e1 : upd H p1 (.lst (ws.map V.int)) p1 = some (.lst (ws.map V.int)) := upd_same
      generalize upd H p1 (.lst (ws.map V.int)) = H1 at s1 e1
      refine ⟨_, rfl, g, _, rfl, .inl (SqL.of (s1 _ _ eg)), fun p2 n2 => ?_⟩
      have s2 := Same.up (o := .lst (ns.map V.int)) n2
      have e2 : upd H1 p2 (.lst (ns.map V.int)) p2 = some (.lst (ns.map V.int)) := upd_same
      generalize upd H1 p2 (.lst (ns.map V.int)) = H2 at s2 e2
      have w2 : ∀ b o, H1 b = some o → H2 b = some o := s2
      refine ⟨_, rfl, g, ns, rfl, SqL.of (s2 _ _ (s1 _ _ eg)), fun z1 p3 hz1 _ n3 => ?_⟩
      have s3 := Same.up (o := .lst (z1.map V.int)) n3
      have e3 : upd H2 p3 (.lst (z1.map V.int)) p3 = some (.lst (z1.map V.int)) := upd_same
      generalize upd H2 p3 (.lst (z1.map V.int)) = H3 at s3 e3
      have t3 := s1.trans (s2.trans s3)
      refine ⟨_, rfl, g, ns, rfl, SqL.of (t3 _ _ eg), fun z2 p4 hz2 _ n4 => ?_⟩
      have s4 := Same.up (o := .lst (z2.map V.int)) n4
      have e4 : upd H3 p4 (.lst (z2.map V.int)) p4 = some (.lst (z2.map V.int)) := upd_same
      generalize upd H3 p4 (.lst (z2.map V.int)) = H4 at s4 e4
      refine ⟨p4, _, rfl, SqL.of e4, fun p5 n5 => ?_⟩
      rw [← List.map_reverse]
      have s5 := s4.trans (Same.up (o := .lst (z2.reverse.map V.int)) n5)
      have e5 : upd H4 p5 (.lst (z2.reverse.map V.int)) p5 = some (.lst (z2.reverse.map V.int)) := upd_same
      generalize upd H4 p5 (.lst (z2.reverse.map V.int)) = H5 at s5 e5
      have t5 := t3.trans s5
      refine ⟨_, rfl, t, _, rfl, .inr (SqT.of (t5 _ _ et)), fun p6 n6 => ?_⟩
      have s6 := Same.up (o := .lst (ws.map V.int)) n6
      have e6 : upd H5 p6 (.lst (ws.map V.int)) p6 = some (.lst (ws.map V.int)) := upd_same
      generalize upd H5 p6 (.lst (ws.map V.int)) = H6 at s6 e6
      unfold tNoPart
      refine ⟨_, rfl, p6, _, rfl, SqL.of e6, fun p7 n7 => ?_⟩
      rw [show cutV (ws.map V.int) (some 1) none = (ws.drop 1).map V.int from by rw [List.map_drop]; exact cutv_from _ 1]
      have s7 := s6.trans (Same.up (o := .lst ((ws.drop 1).map V.int)) n7)
      have e7 : upd H6 p7 (.lst ((ws.drop 1).map V.int)) p7 = some (.lst ((ws.drop 1).map V.int)) := upd_same
      generalize upd H6 p7 (.lst ((ws.drop 1).map V.int)) = H7 at s7 e7
      have t7 := t5.trans s7
      refine ⟨_, rfl, t, _, rfl, .inr (SqT.of (t7 _ _ et)), fun p8 n8 => ⟨by show 1 ≤ sizeLine; decide, fun p9 n9 => ?_⟩⟩
      have s8 := Same.up (o := .lst (ws.map V.int)) n8
      have e8 : upd H7 p8 (.lst (ws.map V.int)) p8 = some (.lst (ws.map V.int)) := upd_same
      generalize upd H7 p8 (.lst (ws.map V.int)) = H8 at s8 e8 n9
      have s9 := s8.trans (Same.up (o := .lst [V.int 99]) n9)
      have e89 := (Same.up (o := .lst [V.int 99]) n9) _ _ e8
      have e9 : upd H8 p9 (.lst [V.int 99]) p9 = some (.lst [V.int 99]) := upd_same
      generalize upd H8 p9 (.lst [V.int 99]) = H9 at s9 e9 e89
      refine ⟨p8, p9, _, _, rfl, rfl, e89, e9, by rw [List.length_map, sizeLine_eq]; show _ + 1 ≤ _; omega, fun p10 n10 => ?_⟩
      rw [show ws.map V.int ++ [V.int 99] = (ws ++ [99]).map V.int by rw [List.map_append]; rfl]
      have s10 := s9.trans (Same.up (o := .lst ((ws ++ [99]).map V.int)) n10)
      have e10 : upd H9 p10 (.lst ((ws ++ [99]).map V.int)) p10 = some (.lst ((ws ++ [99]).map V.int)) := upd_same
      generalize upd H9 p10 (.lst ((ws ++ [99]).map V.int)) = H10 at s10 e10
      refine ⟨by show 0 ≤ sizeLine; decide, fun p11 n11 => ?_⟩
      have s11 := Same.up (o := .lst []) n11
      have e11 : upd H10 p11 (.lst []) p11 = some (.lst []) := upd_same
      generalize upd H10 p11 (.lst []) = H11 at s11 e11
      refine ⟨by show 7 ≤ sizeLine; decide, fun D nD => ⟨D, _, rfl, ?_, upd_same, Nat.le_refl _, fun x hx => ?_⟩⟩
      · exact t7.trans (s10.trans (s11.trans (Same.up nD)))
      have s12 := s11.trans (Same.up (o := .lst [V.ref p1, V.ref p2, V.ref p3, V.ref p5, V.ref p7, V.ref p10, V.ref p11]) nD)
      have f7 := s10.trans s12
      have f5 := s7.trans f7
      have f3 := s5.trans f5
      have l1 := hz1.length_eq
      have l2 := hz2.length_eq
      simp only [List.mem_cons, List.not_mem_nil, or_false] at hx
      rcases hx with rfl | rfl | rfl | rfl | rfl | rfl | rfl
      · exact ⟨p1, ws, rfl, f3 _ _ (s3 _ _ (s2 _ _ e1)), by omega⟩
      · exact ⟨p2, ns, rfl, f3 _ _ (s3 _ _ e2), by omega⟩
      · exact ⟨p3, z1, rfl, f3 _ _ e3, by omega⟩
      · exact ⟨p5, z2.reverse, rfl, f5 _ _ e5, by rw [List.length_reverse]; omega⟩
      · exact ⟨p7, ws.drop 1, rfl, f7 _ _ e7, by rw [List.length_drop]; omega⟩
      · exact ⟨p10, ws ++ [99], rfl, s12 _ _ e10, by rw [List.length_append]; show _ + 1 ≤ _; omega⟩
      · exact ⟨p11, [], rfl, (Same.up nD) _ _ e11, Nat.zero_le _⟩
    rintro σ' H1 ⟨D, xs, rfl, s1, eD, lx, zx⟩
    have hnum : ∀ {H' : Hp} (v : Int), ∃ j : Nat, j < ns.length ∧ v % ((ns.map V.int).length : Int) = (j : Int) := fun v => by
      have h1 := Int.emod_nonneg v (show ((ns.map V.int).length : Int) ≠ 0 by rw [List.length_map]; omega)
      have h2 := Int.emod_lt_of_pos v (show (0 : Int) < ((ns.map V.int).length : Int) by rw [List.length_map]; omega)
      rw [List.length_map] at h2
      exact ⟨(v % ((ns.map V.int).length : Int)).toNat, by rw [List.length_map] at h1 ⊢; omega, by omega⟩
    refine ⟨_, rfl, a, zs, 30, rfl, LamX.ExtN.sqL (fun b o e _ => s1 b o e) ha, h63, by decide, fun H2 v s2 => .inl ⟨v, rfl, ?_⟩⟩
    have s12 := s1.trans s2
    obtain ⟨i, hi, ei⟩ := hnum (H' := H) v
    refine ⟨_, rfl, g, _, rfl, .inl (SqL.of (s12 _ _ eg)), v, _, rfl, rfl, (by rw [List.length_map]; omega), ?_⟩
    show gName 4 (V.int (v % ((ns.map V.int).length : Int))) _ _ _
    rw [ei]
    refine ⟨_, rfl, a, zs, 31, rfl, LamX.ExtN.sqL (fun b o e _ => s12 b o e) ha, h63, by decide, fun H3 v s3 => .inl ⟨v, rfl, ?_⟩⟩
    have s13 := s12.trans s3
    obtain ⟨j, hj, ej⟩ := hnum (H' := H) v
    refine ⟨_, rfl, g, _, rfl, .inl (SqL.of (s13 _ _ eg)), v, _, rfl, rfl, (by rw [List.length_map]; omega), ?_⟩
    show gName 5 (V.int (v % ((ns.map V.int).length : Int))) _ _ _
    rw [ej]
    have s23 := s2.trans s3
    have eD3 := s23 _ _ eD
    have zx3 : ∀ x ∈ xs, WrL H3 x := fun x hx => (zx x hx).same s23
    refine ⟨_, rfl, t, _, rfl, .inr (SqT.of (s13 _ _ et)), fun p1 n1 => ?_⟩
    have s4 := Same.up (o := .lst (ws.map V.int)) n1
    have e1 : upd H3 p1 (.lst (ws.map V.int)) p1 = some (.lst (ws.map V.int)) := upd_same
    generalize upd H3 p1 (.lst (ws.map V.int)) = H4 at s4 e1
    refine ⟨_, rfl, t, _, rfl, .inr (SqT.of (s4 _ _ (s13 _ _ et))), fun p2 n2 => ?_⟩
    have s5 := Same.up (o := .lst (ws.map V.int)) n2
    have e2 : upd H4 p2 (.lst (ws.map V.int)) p2 = some (.lst (ws.map V.int)) := upd_same
    generalize upd H4 p2 (.lst (ws.map V.int)) = H5 at s5 e2
    have hat : ∀ {m : Nat}, m < ns.length → atI (ws.map V.int) (m : Int) = some (V.int (ws.getD m 0)) := fun hm => atV_nat V.int 0 (by omega)
    have hix : ∀ {m : Nat} {l : List Int}, m < ns.length → l.length = ns.length → ixN (l.map V.int).length (m : Int) = some m := fun hm hl => ixN_nat (by rw [List.length_map]; omega)
    have t5 : Same H3 H5 := s4.trans s5
    have et5 := t5 _ _ (s13 _ _ et)
    have e15 := s5 _ _ e1
    have h12p : p1 ≠ p2 := ne_of_none e1 n2
    have nt : ∀ {b : Addr} {G : Hp} {o : HO}, H3 b = none → G t = some (.tup (ws.map V.int)) → upd G b o t = some (.tup (ws.map V.int)) := fun hb e => (upd_ne (ne_of_none (s13 _ _ et) hb)).trans e
    refine ⟨_, _, rfl, _, rfl, _, rfl, t, _, _, _, rfl, rfl, SqT.of et5, hat hj, _, rfl, _, rfl, p1, _, _, i, rfl, rfl, e15, hix hi hwl, ?_⟩
    have et6 := nt (o := .lst ((ws.map V.int).set i (V.int (ws.getD j 0)))) n1 et5
    have e16 : upd H5 p1 (.lst ((ws.map V.int).set i (V.int (ws.getD j 0)))) p1 = some (.lst ((ws.set i (ws.getD j 0)).map V.int)) := by rw [upd_same, List.map_set]
    have e26 := (upd_ne (o := .lst ((ws.map V.int).set i (V.int (ws.getD j 0)))) (fun z => h12p z.symm)).trans e2
    have b6 : ∀ b o, H3 b = some o → upd H5 p1 (.lst ((ws.map V.int).set i (V.int (ws.getD j 0)))) b = some o := fun b o e => (upd_ne (ne_of_none e n1)).trans (t5 _ _ e)
    generalize upd H5 p1 (.lst ((ws.map V.int).set i (V.int (ws.getD j 0)))) = H6 at et6 e16 e26 b6
    have hw6 : (ws.set i (ws.getD j 0)).length = ns.length := by rw [List.length_set]; exact hwl
    generalize ws.set i (ws.getD j 0) = w6 at e16 hw6
    refine ⟨_, rfl, _, rfl, t, _, _, _, rfl, rfl, SqT.of et6, hat hi, _, rfl, _, rfl, p1, _, _, j, rfl, rfl, e16, hix hj hw6, ?_⟩
    have et7 := nt (o := .lst ((w6.map V.int).set j (V.int (ws.getD i 0)))) n1 et6
    have e17 : upd H6 p1 (.lst ((w6.map V.int).set j (V.int (ws.getD i 0)))) p1 = some (.lst ((w6.set j (ws.getD i 0)).map V.int)) := by rw [upd_same, List.map_set]
    have e27 := (upd_ne (o := .lst ((w6.map V.int).set j (V.int (ws.getD i 0)))) (fun z => h12p z.symm)).trans e26
    have b7 : ∀ b o, H3 b = some o → upd H6 p1 (.lst ((w6.map V.int).set j (V.int (ws.getD i 0)))) b = some o := fun b o e => (upd_ne (ne_of_none e n1)).trans (b6 _ _ e)
    generalize upd H6 p1 (.lst ((w6.map V.int).set j (V.int (ws.getD i 0)))) = H7 at et7 e17 e27 b7
    have hw7 : (w6.set j (ws.getD i 0)).length = ns.length := by rw [List.length_set]; exact hw6
    generalize w6.set j (ws.getD i 0) = w7 at e17 hw7
    have n2' : H3 p2 = none := s4.free n2
    refine ⟨_, rfl, _, rfl, t, _, _, _, rfl, rfl, SqT.of et7, hat hj, _, rfl, _, rfl, p2, _, _, i, rfl, rfl, e27, hix hi hwl, ?_⟩
    have e18 := (upd_ne (o := .lst ((ws.map V.int).set i (V.int (ws.getD j 0)))) h12p).trans e17
    have e28 : upd H7 p2 (.lst ((ws.map V.int).set i (V.int (ws.getD j 0)))) p2 = some (.lst ((ws.set i (ws.getD j 0)).map V.int)) := by rw [upd_same, List.map_set]
    have b8 : ∀ b o, H3 b = some o → upd H7 p2 (.lst ((ws.map V.int).set i (V.int (ws.getD j 0)))) b = some o := fun b o e => (upd_ne (ne_of_none e n2')).trans (b7 _ _ e)
    generalize upd H7 p2 (.lst ((ws.map V.int).set i (V.int (ws.getD j 0)))) = H8 at e18 e28 b8
    have hw8 : (ws.set i (ws.getD j 0)).length = ns.length := by rw [List.length_set]; exact hwl
    generalize ws.set i (ws.getD j 0) = w8 at e28 hw8
    refine ⟨_, rfl, _, rfl, _, rfl, by show 2 ≤ sizeLine; decide, fun u nu => ?_⟩
    have f9 := Same.up (o := .lst [V.ref p1, V.ref p2]) nu
    refine ⟨D, u, xs, [V.ref p1, V.ref p2], rfl, rfl, f9 _ _ (b8 _ _ eD3), upd_same, by rw [sizeLine_eq]; show _ + 2 ≤ _; omega, fun z nz => ?_⟩
    have f10 := f9.trans (Same.up (o := .lst (xs ++ [V.ref p1, V.ref p2])) nz)
    refine q _ z _ (s13.trans fun b o e => f10 _ _ (b8 _ _ e)) upd_same (by rw [List.length_append]; show _ + 2 ≤ _; omega) fun x hx => ?_
    rcases List.mem_append.mp hx with hx | hx
    · exact (zx3 x hx).same fun b o e => f10 _ _ (b8 _ _ e)
    · simp only [List.mem_cons, List.not_mem_nil, or_false] at hx
      rcases hx with rfl | rfl
      · exact ⟨p1, w7, rfl, f10 _ _ e18, by omega⟩
      · exact ⟨p2, w8, rfl, f10 _ _ e28, by omega⟩
theorem b_lwr (T : Tx K mg A) : L2.Binds K A.d__law_written ["script", "given", "told"] [] := T.F__law_written.binds fun _ _ _ _ _ _ us hl => match us, hl with | [_, _, _], _ => rfl

end
end Tw

set_option Elab.async false
set_option linter.all false
set_option maxRecDepth 100000
set_option maxHeartbeats 2000000
namespace Tw
open PySem PySem.Spec PyProof.Rows L2
section
variable {P : Program} {w : World} {K : PySem.W.Frag} {mg : Str → Option Value} {base : Heap} {A : Ad}
open LamX (ExtN Tabs TabS)
theorem cnt_drop {l : List Int} {k : Int} (h : k ∈ l) : l.countP (fun x => decide (k + 1 ≤ x)) < l.countP (fun x => decide (k ≤ x)) := by
  induction l with
  | nil => cases h
  | cons a l ih =>
    have mono : l.countP (fun x => decide (k + 1 ≤ x)) ≤ l.countP (fun x => decide (k ≤ x)) := List.countP_mono_left fun x _ hx => by
      rw [decide_eq_true_eq] at hx ⊢
      omega
    rw [List.countP_cons, List.countP_cons]
    by_cases e : a = k
    · subst e
      rw [if_neg (by rw [decide_eq_true_eq]; omega), if_pos (by rw [decide_eq_true_eq]; omega)]
      omega
    · have hm : k ∈ l := (List.mem_cons.mp h).resolve_left fun z => e z.symm
      have := ih hm
      by_cases c : k ≤ a
      · rw [if_pos (by rw [decide_eq_true_eq]; omega), if_pos (by rw [decide_eq_true_eq]; omega)]
        omega
      · rw [if_neg (by rw [decide_eq_true_eq]; omega), if_neg (by rw [decide_eq_true_eq]; omega)]
        omega
def muK (os : List Int) (o : Option (Option V)) : Nat := match o with
  | some (some (.int k)) => os.countP (fun x => decide (k ≤ x))
  | _ => 0
end
end Tw

set_option Elab.async false
set_option linter.all false
set_option maxRecDepth 100000
set_option maxHeartbeats 2000000
namespace Tw
open PySem PySem.Spec PyProof.Rows L2
section
variable {P : Program} {w : World} {K : PySem.W.Frag} {mg : Str → Option Value} {base : Heap} {A : Ad}
open LamX (ExtN Tabs TabS)
/-! the input, so many keys: ok_num cnt_drop muK inV_ints ints_flat map_one while_by ne_of_none KeysIn -/
def spLiB (K : PySem.W.Frag) : Sp := fun vs H Q _ => ∃ (a m : Nat) (ns : List Int), vs = [.ref a, .int 1, .int m] ∧ SqL K H a (ns.map V.int) ∧ ns.length ≤ 63 ∧ m ≤ 12 ∧
  ∀ (H' : Hp) (q : Addr) (ks : List Int), Same H H' → H q = none → H' q = some (.lst (ks.map V.int)) → KeysIn ks → ks.length = m → (∀ k ∈ ks, k ≤ 60) → Q (.ref q) H'
theorem ok_liB (T : Tx K mg A) : FnOk P w K mg base CX0 3 A.f__law_input A.d__law_input ["script", "at", "many"] (spLiB K) := by
  refine T.F__law_input.ok sc__law_input (fun vs H Q E h => ?_) (fun cdv B outer s H vs Q E hr h => ?_)
  · obtain ⟨a, m, ns, rfl, _⟩ := h
    rfl
  · obtain ⟨a, m, ns, rfl, ha, h63, hm, q⟩ := h
    have nd := sc__law_input.nd
    refine ⟨_, (pss_cons (ps_set (i := 3) nd rfl (Or.inl rfl) (pe_lst pa_nil))
      (C8.pss_cut (ps_for PassesOwn.never rfl (pi_range1 rfl T.g_range (pa_cons (pv 2) pa_nil)) (pg_name (i := 4) nd rfl (Or.inl rfl)) (C8.pss_cut (ps_set (i := 5) nd rfl (Or.inl rfl) (pe_op op_sub (pe_op op_mod (pe_callTy call_int1 (by rfl) T.g_int (by decide +kernel) (pa_cons (pe_call (ok_num T) (hr.mono (by decide)) (by rfl) T.m__law_number T.F__law_number.kp (b_num T) .nil pass0 (pa_cons (pv 0) (pa_cons (pe_op op_add (pv 1) (pv 4)) pa_nil))) pa_nil)) (pe_op op_add (pe_op op_mul pe_int (pv 2)) pe_int)) (pv 2)))
      (C8.pss_cut (ps_while PassesOwn.never (pt_cmpR (r := L2.rIn K false) op_in_seq (pv 5) (pv 3) (by rfl)) (pss_one (ps_set (i := 5) nd rfl (Or.inl rfl) (pe_op op_add (pv 5) pe_int))))
      (pss_one (ps_expr (pe_bm PySem.F.plainAttrs_list PySem.F.slot_list_append PySem.F.type_list_append mt_append (pv 3) (pa_cons (pv 5) pa_nil)))))))
      (pss_one (ps_ret (pv 3))))), ?_⟩
    refine ⟨Nat.zero_le _, fun D nD => ?_⟩
    have s0 := Same.up (o := .lst []) nD
    refine ⟨fun σ' H' => ∃ (x4 x5 : Option V) (ks : List Int), σ' = [some (.ref a), some (.int 1), some (.int m), some (.ref D), x4, x5] ∧ Same H H' ∧ H' D = some (.lst (ks.map V.int)) ∧ KeysIn ks ∧ ks.length = m ∧ (∀ k ∈ ks, k ≤ 60), ?_, ?_⟩
    · refine ⟨_, rfl, _, rfl, by omega, by omega, ?_⟩
      rw [Int.toNat_natCast]
      refine for_it (walk_range (lo := 0) (n := m)) (fun i σ' H' => ∃ (x4 x5 : Option V) (ks : List Int), σ' = [some (.ref a), some (.int 1), some (.int m), some (.ref D), x4, x5] ∧ Same H H' ∧ H' D = some (.lst (ks.map V.int)) ∧ ks.length = i ∧ ks.Nodup ∧ ∀ k ∈ ks, -12 ≤ k ∧ k ≤ 40 + (i : Int))
        ⟨none, none, [], rfl, s0, upd_same, rfl, List.nodup_nil, fun k hk => nomatch hk⟩ (fun _ _ _ _ _ => trivial) ?_ ?_
      · rintro i y σ' H2 H3 hi ⟨x4, x5, ks, rfl, s3, e3, hkl, hkd, hkb⟩ ⟨rfl, ey⟩
        obtain rfl : y = V.int (i : Nat) := by
          rw [ey]
          show V.int (0 + (i : Int)) = _
          rw [Int.zero_add]
        refine ⟨fun σ' H' => ∃ k : Int, σ' = [some (.ref a), some (.int 1), some (.int m), some (.ref D), some (.int i), some (.int k)] ∧ Same H H' ∧ H' D = some (.lst (ks.map V.int)) ∧ -12 ≤ k ∧ k ≤ 24, ?_, ?_⟩
        · refine ⟨_, rfl, _, rfl, _, rfl, _, _, rfl, rfl, a, ns, 1 + i, congrArg (fun z => [V.ref a, V.int z]) (by omega), s3.seq ha, h63, by omega, fun H4 r s4 => ?_⟩
          refine .inl ⟨_, rfl, _, rfl, _, _, rfl, rfl, .inl ⟨by decide, by decide⟩, _, _, rfl, rfl, _, _, rfl, rfl, by omega, _, rfl, _, _, rfl, rfl, _, rfl, s3.trans s4, s4 _ _ e3, ?_, ?_⟩
          · have := Int.emod_nonneg r (show (3 : Int) * (m : Nat) + 1 ≠ 0 by omega)
            omega
          · have := Int.emod_lt_of_pos r (show (0 : Int) < 3 * (m : Nat) + 1 by omega)
            omega
        rintro σ' H4 ⟨k, rfl, s4, e4, hk1, hk2⟩
        refine ⟨fun σ' H' => ∃ k : Int, σ' = [some (.ref a), some (.int 1), some (.int m), some (.ref D), some (.int i), some (.int k)] ∧ H' = H4 ∧ -12 ≤ k ∧ k ≤ 40 + (i : Int) + 1 ∧ k ∉ ks, ?_, ?_⟩
        · refine while_by (fun σ' H' => ∃ k : Int, σ' = [some (.ref a), some (.int 1), some (.int m), some (.ref D), some (.int i), some (.int k)] ∧ H' = H4 ∧ -12 ≤ k ∧ k ≤ 40 + (i : Int) + 1) (fun σ' _ => muK ks σ'[5]?) ⟨k, rfl, rfl, hk1, by omega⟩ ?_ ?_
          · rintro σ' H5 ⟨k, rfl, rfl, hk1, hk2⟩
            refine ⟨_, rfl, _, rfl, D, _, rfl, .inl (SqL.of e4), rfl, ints_flat _, _, rfl, ?_⟩
            rw [if_neg Bool.false_ne_true, inV_ints]
            by_cases hin : k ∈ ks
            · rw [decide_eq_true hin]
              refine iteT ?_
              have := (hkb k hin).2
              refine ⟨_, rfl, _, _, rfl, rfl, ⟨k + 1, rfl, rfl, by omega, by omega⟩, ?_⟩
              exact cnt_drop hin
            · rw [decide_eq_false hin]
              exact iteF ⟨k, rfl, rfl, hk1, hk2, hin⟩
          · rintro σ' H1 Q1 Q2 mono ⟨v, hv, u, hu, p, xs, e1, e2, e3, e4, b, e5, z⟩
            exact ⟨v, hv, u, hu, p, xs, e1, e2, e3, e4, b, e5, mono _ _ z⟩
        rintro σ' H5 ⟨k, rfl, rfl, hk1, hk2, hin⟩
        refine ⟨_, rfl, .inl ⟨rfl, _, SqL.of e4⟩, _, rfl, D, _, _, rfl, rfl, e4, by rw [List.length_map, sizeLine_eq]; omega, _, _, ks ++ [k], rfl, fun b o e => ?_, ?_, by rw [List.length_append, hkl]; rfl, ?_, fun x hx => ?_⟩
        · rw [upd_ne (ne_of_none e nD)]
          exact s4 _ _ e
        · rw [upd_same, map_one]
        · rw [List.nodup_append]
          exact ⟨hkd, List.pairwise_singleton _ _, fun x hx y hy z => hin (by rw [← List.mem_singleton.mp hy, ← z]; exact hx)⟩
        · rcases List.mem_append.mp hx with z | z
          · have := hkb x z
            omega
          · rw [List.mem_singleton.mp z]
            omega
      · rintro σ' H2 ⟨x4, x5, ks, rfl, s3, e3, hkl, hkd, hkb⟩
        exact ⟨x4, x5, ks, rfl, s3, e3, ⟨by omega, fun x hx => by have := hkb x hx; omega, hkd⟩, hkl, fun x hx => by have := hkb x hx; omega⟩
    · rintro σ' H2 ⟨x4, x5, ks, rfl, s3, e3, hk, hkl, hkB⟩
      exact ⟨_, rfl, q _ D ks s3 nD e3 hk hkl hkB⟩
theorem b_liB (T : Tx K mg A) : L2.Binds K A.d__law_input ["script", "at", "many"] [] := T.F__law_input.binds fun _ _ _ _ _ _ us hl => match us, hl with | [_, _, _], _ => rfl

end
end Tw

set_option Elab.async false
set_option linter.all false
set_option maxRecDepth 100000
set_option maxHeartbeats 2000000
namespace Tw
open PySem PySem.Spec PyProof.Rows L2
section
variable {P : Program} {w : World} {K : PySem.W.Frag} {mg : Str → Option Value} {base : Heap} {A : Ad}
open LamX (ExtN Tabs TabS)
def cntB (ps : List (Nat × Int)) (l : Nat) (k : Int) : Nat := ps.countP (behB l k)
def lstF (r : Nat) (ps : List (Nat × Int)) (k : Int) : Nat → Nat → Nat
  | 0, l => l
  | f + 1, l => if cntB ps l k < r then l else lstF r ps k f (l + 1)
/-- levels of the keys, the last of the input ahead -/
def lvR (r : Nat) : List Int → List (Nat × Int)
  | [] => []
  | k :: p => (lstF r (lvR r p) k ((lvR r p).length + 1) 1, k) :: lvR r p
def lvF (r : Nat) (ns : List Int) (k : Int) : Nat := (((lvR r ns.reverse).find? fun q => decide (q.2 = k)).map (·.1)).getD 0
def JrAt (A : Ad) (H : Hp) (o r n : Nat) (ns : List Int) : Prop := ((runsL (writeL r ns)).length ≤ n ∧ AtC A.CC H o (writeL r ns)) ∨ (n < (runsL (writeL r ns)).length ∧ AtE A.CE H o (lvD (lvF r ns) (writeL r ns)))
theorem b_jr (T : Tx K mg A) : L2.Binds K A.d_judge_runs ["room", "row", "number"] [] := T.F_judge_runs.binds fun _ _ _ _ _ _ us hl => match us, hl with | [_, _, _], _ => rfl
theorem b_lcut (T : Tx K mg A) : L2.Binds K A.d__law_cut ["written"] [] := T.F__law_cut.binds fun _ _ _ _ _ _ us hl => match us, hl with | [_], _ => rfl
theorem b_lcB (T : Tx K mg A) : L2.Binds K A.d__law_cut ["written"] [] := b_lcut T
theorem m1 : ¬ (("row" : Str) = "way") := by decide +kernel
/-- what stood before an instance was made stands behind its making -/
theorem new_same {C x dx : Addr} {H H' : Hp} (nx : H x = none) (ndx : H dx = none) (k : ∀ b o, (upd (upd H dx (.own x)) x (.ins C dx [])) b = some o → b ≠ x → H' b = some o) : Same H H' := fun b o e => by
  refine k b o ?_ (ne_of_none e nx)
  rw [upd_ne (ne_of_none e nx), upd_ne (ne_of_none e ndx)]
  exact e
theorem lvD_len (f : Int → Nat) (ks : List Int) : (lvD f ks).length = ks.length := by unfold lvD; rw [List.length_map]
theorem pickI_map (l : List Int) (b : Int → Bool) : (l.filterMap fun z => if b z = true then some (V.int z) else none) = (l.filter b).map V.int := by
  induction l with
  | nil => rfl
  | cons a l ih =>
    by_cases h : b a = true
    · rw [List.filterMap_cons, if_pos h, List.filter_cons_of_pos h, List.map_cons, ih]
    · rw [List.filterMap_cons, if_neg h, List.filter_cons_of_neg h, ih]
theorem empB (l : List Int) : (!(l.map V.int).isEmpty) = !decide (l = []) := by
  cases l with
  | nil => rfl
  | cons a l => rfl
def spWr : Sp := fun vs H Q _ => ∃ (r g : Nat) (ns : List Int), vs = [.int r, .ref g] ∧ 1 ≤ r ∧ H g = some (.tup (ns.map V.int)) ∧ ns.length ≤ 12 ∧ r ≤ 12 ∧ ∀ (H' : Hp) (t : Addr), Same H H' → H' t = some (.tup ((writeL r ns).map V.int)) → Q (.ref t) H'
theorem ok_wr (T : Tx K mg A) : FnOk P w K mg base CX0 1 A.f_written_by_replacement A.d_written_by_replacement ["room", "given"] spWr := by
  refine T.F_written_by_replacement.ok sc_written_by_replacement (fun vs H Q E h => ?_) (fun cdv B outer s H vs Q E hr h => ?_)
  · obtain ⟨r, g, ns, rfl, _⟩ := h
    rfl
  · obtain ⟨r, g, ns, rfl, hr1, hg, h12, hr12, q⟩ := h
    have nd := sc_written_by_replacement.nd
    refine ⟨_, (C8.pss_cut (ps_set (i := 2) nd rfl (Or.inl rfl) (pe_callTy call_list_of (by rfl) T.g_list (by decide +kernel) (pa_cons (pe_slice (r := rSlA K) sl_tupA (pv 1) po_none (po_some (pv 0))) pa_nil)))
      (pss_cons (ps_set (i := 3) nd rfl (Or.inr rfl) (pe_lst pa_nil))
      (C8.pss_cut (ps_for PassesOwn.never rfl (pi_range1 rfl T.g_range (pa_cons (pe_callB call_len_seq (by rfl) T.g_len PySem.boot_len (pa_cons (pv 1) pa_nil)) pa_nil)) (pg_name (i := 4) nd rfl (Or.inl rfl)) (C8.pss_cut (ps_setLc (i := 5) (own := [("key", 6)]) (g := gName 6) rfl nd rfl rfl (sw_true rfl rfl rfl (by decide +kernel)) (pi_list (pv 2)) (blkOk_by (own := [("key", 6)]) (N := ["room", "given", "held", "written", "at", "fitting", "key"]) (sc := (defScope s_written_by_replacement)) (by decide +kernel)) (fun _ _ _ _ _ => pg_name (i := 6) nd rfl (Or.inl rfl)) (fun _ _ _ _ _ => pts_one (PW.pt (pw_or (pt_not (pt_truK (K := K) rfl (pv 3) (fun _ => rfl))) (pw_or1 (pt_cmpR op_gt (pv 6) (pe_ix (r := rIxL K) ix_list (pv 3) (pe_un un_neg pe_int) (fun _ _ => rfl)) (nomark _)))))) (fun _ _ _ _ _ => (pv 6)))
      (C8.pss_cut (ps_expr (pe_bm PySem.F.plainAttrs_list PySem.F.slot_list_append PySem.F.type_list_append mt_append (pv 3) (pa_cons (pe_callB (cr_min rfl) (by rfl) T.g_min (by decide +kernel) (pa_cons (pe_orT (pv 5) (pe_one (pv 2))) pa_nil)) pa_nil)))
      (C8.pss_cut (ps_expr (pe_bm PySem.F.plainAttrs_list PySem.F.slot_list_remove PySem.F.type_list_remove mt_remove (pv 2) (pa_cons (pe_ix (r := rIxL K) ix_list (pv 3) (pe_un un_neg pe_int) (fun _ _ => rfl)) pa_nil)))
      (pss_one (ps_expr (pe_bm PySem.F.plainAttrs_list PySem.F.slot_list_extend PySem.F.type_list_extend mt_extend (pv 2) (pa_cons (pe_callTy call_list_of (by rfl) T.g_list (by decide +kernel) (pa_cons (pe_slice (r := rSlT K) sl_tup (pv 1) (po_some (pe_op op_add (pv 0) (pv 4))) (po_some (pe_op op_add (pe_op op_add (pv 0) (pv 4)) pe_int))) pa_nil)) pa_nil))))))))
      (pss_one (ps_ret (pe_callTy call_tuple_of (by rfl) T.g_tuple (by decide +kernel) (pa_cons (pv 3) pa_nil))))))), ?_⟩
    refine ⟨fun σ' H' => ∃ h : Addr, σ' = [some (.int r), some (.ref g), some (.ref h), none, none, none, none] ∧ Same H H' ∧ H h = none ∧ H' h = some (.lst ((ns.take r).map V.int)), ?_, ?_⟩
    · refine ⟨_, rfl, _, rfl, _, rfl, g, _, rfl, SqT.of hg, fun z => ?_, fun z p np => ?_⟩
      · refine ⟨g, _, rfl, .inr (SqT.of hg), fun h nh => ⟨h, rfl, Same.up nh, nh, ?_⟩⟩
        rw [upd_same, whole_take z]
      · rw [icut]
        refine ⟨p, _, rfl, .inr (SqT.of upd_same), fun h nh => ⟨h, rfl, (Same.up np).trans (Same.up nh), (Same.up np).free nh, upd_same⟩⟩
    rintro σ' H1 ⟨h, rfl, s1, nh, eh⟩
    refine ⟨Nat.zero_le _, fun W nW => ?_⟩
    have hWh : W ≠ h := fun z => by rw [z, eh] at nW; cases nW
    have s2 := s1.trans (Same.up (o := .lst []) nW)
    have nW0 := s1.free nW
    have eh2 : upd H1 W (.lst []) h = some (.lst ((ns.take r).map V.int)) := (Same.up nW) _ _ eh
    have eW2 : upd H1 W (.lst []) W = some (.lst []) := upd_same
    generalize upd H1 W (.lst []) = G at s2 eh2 eW2
    refine ⟨fun σ' H' => ∃ x4 x5 : Option V, σ' = [some (.int r), some (.ref g), some (.ref h), some (.ref W), x4, x5, none] ∧ Same H H' ∧ H' W = some (.lst ((writeL r ns).map V.int)), ?_, ?_⟩
    · refine ⟨_, rfl, g, _, rfl, .inr (SqT.of (s2 _ _ hg)), _, rfl, ?_⟩
      rw [List.length_map]
      refine ⟨by omega, by omega, ?_⟩
      rw [Int.toNat_natCast]
      refine for_it (walk_range (lo := 0) (n := ns.length)) (fun i σ' H' => ∃ x4 x5 : Option V, σ' = [some (.int r), some (.ref g), some (.ref h), some (.ref W), x4, x5, none] ∧ Same H H' ∧ H' h = some (.lst ((stW r ns i).1.map V.int)) ∧ H' W = some (.lst ((stW r ns i).2.map V.int)))
        ⟨none, none, rfl, s2, eh2, eW2⟩ (fun _ _ _ _ _ => trivial) ?_ ?_
      · rintro i y σ' H2 H3 hi ⟨x4, x5, rfl, s3, eh3, eW3⟩ ⟨rfl, ey⟩
        obtain rfl : y = V.int (i : Nat) := by
          rw [ey]
          show V.int (0 + (i : Int)) = _
          rw [Int.zero_add]
        have hne := held_ne hr1 hi
        have hhl := held_len hr1 (Nat.le_of_lt hi) (ns := ns) (r := r)
        have hwl := stW_len r ns i
        have e1 : (stW r ns (i + 1)).1 = (stW r ns i).1.erase (pickL (stW r ns i).1 (stW r ns i).2) ++ (ns.drop (r + i)).take 1 := rfl
        have e2 : (stW r ns (i + 1)).2 = (stW r ns i).2 ++ [pickL (stW r ns i).1 (stW r ns i).2] := rfl
        rw [e1, e2]
        have hkm := pick_in (stW r ns i).2 hne
        have hpk : pickL (stW r ns i).1 (stW r ns i).2 = minI (if fitL (stW r ns i).1 (stW r ns i).2 = [] then (stW r ns i).1 else fitL (stW r ns i).1 (stW r ns i).2) := rfl
        have hfd : fitL (stW r ns i).1 (stW r ns i).2 = (stW r ns i).1.filter fun k => decide ((stW r ns i).2 = []) || decide (lastI (stW r ns i).2 < k) := rfl
        generalize (stW r ns i).1 = hd at *
        generalize (stW r ns i).2 = wr at *
        generalize pickL hd wr = k at *
        refine ⟨fun σ' H' => ∃ F : Addr, σ' = [some (.int r), some (.ref g), some (.ref h), some (.ref W), some (.int i), some (.ref F), none] ∧ Same H H' ∧ H' h = some (.lst (hd.map V.int)) ∧ H' W = some (.lst (wr.map V.int)) ∧ H' F = some (.lst ((fitL hd wr).map V.int)), ?_, ?_⟩
        · refine ⟨_, rfl, h, rfl, ⟨_, SqL.of eh3⟩, fun D nD => ?_⟩
          refine lc_it (walk_list (xs := hd.map V.int)) (PickI H3 D hd fun z => if (decide (wr = []) || decide (lastI wr < z)) = true then some (V.int z) else none) (pick_start nD) (fun j H' _ p => SqL.of (p.s _ _ eh3)) ?_ ?_
          · rintro j x H5 H6 hj pk ⟨rfl, ex⟩
            obtain ⟨hj2, rfl⟩ := map_at ex
            by_cases hw : wr = []
            · refine ⟨rfl, _, rfl, false, .inl ⟨_, SqL.of (pk.s _ _ eW3), by rw [hw]; rfl⟩, ?_⟩
              refine iteT (iteT ⟨_, rfl, pick_yes hj2 (by omega) (by rw [decide_eq_true hw, Bool.true_or]; rfl) (Same.refl _) pk⟩)
            · refine ⟨rfl, _, rfl, true, .inl ⟨_, SqL.of (pk.s _ _ eW3), by rw [empB, decide_eq_false hw]; rfl⟩, ?_⟩
              rw [decide_eq_false hw] at pk ⊢
              refine iteF ?_
              refine ⟨_, rfl, _, rfl, _, rfl, W, _, _, _, rfl, rfl, SqL.of (pk.s _ _ eW3), lastI_at hw, _, _, rfl, rfl, _, rfl, ?_⟩
              by_cases hf : lastI wr < hd[j]
              · rw [decide_eq_true hf]
                exact iteT ⟨_, rfl, pick_yes hj2 (by omega) (by rw [decide_eq_true hf, Bool.or_true]; rfl) (Same.refl _) pk⟩
              · rw [decide_eq_false hf]
                exact iteF (pick_no hj2 (by rw [decide_eq_false hf]; rfl) (Same.refl _) pk)
          · intro H5 pk
            have aL := pick_end (by rw [List.length_map]) pk
            rw [pickI_map, ← hfd] at aL
            exact ⟨D, rfl, s3.trans aL.s, aL.s _ _ eh3, aL.s _ _ eW3, aL.a⟩
        rintro σ' H4 ⟨F, rfl, s4, eh4, eW4, eF4⟩
        have hWn : ∀ {G : Hp} {zs : List V}, Same H G → Same H (upd G W (.lst zs)) := fun s b o e => by
          rw [upd_ne (ne_of_none e nW0)]
          exact s _ _ e
        have hhn : ∀ {G : Hp} {zs : List V}, Same H G → Same H (upd G h (.lst zs)) := fun s b o e => by
          rw [upd_ne (ne_of_none e nh)]
          exact s _ _ e
        refine ⟨fun σ' H' => σ' = [some (.int r), some (.ref g), some (.ref h), some (.ref W), some (.int i), some (.ref F), none] ∧ Same H H' ∧ H' h = some (.lst (hd.map V.int)) ∧ H' W = some (.lst ((wr ++ [k]).map V.int)), ?_, ?_⟩
        · have fin : ∀ m : Int, m = k → ∃ l xs y, (V.ref W : V) = .ref l ∧ [V.int m] = [y] ∧ H4 l = some (.lst xs) ∧ xs.length < sizeLine ∧
              ([some (V.int r), some (V.ref g), some (V.ref h), some (V.ref W), some (V.int i), some (V.ref F), none] : L2.St) = [some (.int r), some (.ref g), some (.ref h), some (.ref W), some (.int i), some (.ref F), none] ∧ Same H (upd H4 l (.lst (xs ++ [y]))) ∧ upd H4 l (.lst (xs ++ [y])) h = some (.lst (hd.map V.int)) ∧ upd H4 l (.lst (xs ++ [y])) W = some (.lst ((wr ++ [k]).map V.int)) := fun m hm => by
            subst hm
            refine ⟨W, _, _, rfl, rfl, eW4, by rw [List.length_map, sizeLine_eq]; omega, rfl, hWn s4, ?_, ?_⟩
            · rw [upd_ne hWh.symm]
              exact eh4
            · rw [upd_same, map_one]
          refine ⟨_, rfl, .inl ⟨rfl, _, SqL.of eW4⟩, _, rfl, !((fitL hd wr).map V.int).isEmpty, .inl ⟨_, SqL.of eF4, rfl⟩, ?_⟩
          rw [empB]
          by_cases hz : fitL hd wr = []
          · rw [decide_eq_true hz]
            refine iteF ⟨_, rfl, h, hd, rfl, SqL.of eh4, List.length_pos_iff.mpr hne, fun m hm hle => fin m ?_⟩
            rw [hpk, if_pos hz]
            exact minI_eq hm hle
          · rw [decide_eq_false hz]
            refine iteT ⟨F, fitL hd wr, rfl, SqL.of eF4, List.length_pos_iff.mpr hz, fun m hm hle => fin m ?_⟩
            rw [hpk, if_neg hz]
            exact minI_eq hm hle
        rintro σ' H5 ⟨rfl, s5, eh5, eW5⟩
        refine ⟨fun σ' H' => σ' = [some (.int r), some (.ref g), some (.ref h), some (.ref W), some (.int i), some (.ref F), none] ∧ Same H H' ∧ H' h = some (.lst ((hd.erase k).map V.int)) ∧ H' W = some (.lst ((wr ++ [k]).map V.int)), ?_, ?_⟩
        · obtain ⟨j, j1, j2, j3⟩ := pos_of_mem hkm
          have hla := lastI_at (l := wr ++ [k]) (by simp)
          rw [last_snoc] at hla
          refine ⟨_, rfl, .inl ⟨rfl, _, SqL.of eh5⟩, _, rfl, _, rfl, W, _, _, _, rfl, rfl, SqL.of eW5, hla, h, hd, k, j, rfl, rfl, eh5, j1, j2, rfl, hhn s5, ?_, ?_⟩
          · rw [upd_same, j3]
          · rw [upd_ne hWh]
            exact eW5
        rintro σ' H6 ⟨rfl, s6, eh6, eW6⟩
        refine ⟨_, rfl, .inl ⟨rfl, _, SqL.of eh6⟩, _, rfl, _, rfl, _, rfl, _, _, rfl, rfl, _, rfl, _, rfl, _, rfl, _, _, rfl, rfl, _, _, rfl, rfl, _, rfl, g, _, rfl, SqT.of (s6 _ _ hg), not_whole hr1 (by omega), fun p np => ?_⟩
        rw [cut_next]
        have sp := Same.up (o := .tup (((ns.drop (r + i)).take 1).map V.int)) np
        have hel : (hd.erase k).length ≤ 12 := by
          have := List.length_erase_le (a := k) (l := hd)
          omega
        refine ⟨p, _, rfl, .inr (SqT.of upd_same), fun l nl => ?_⟩
        have sl := sp.trans (Same.up (o := .lst (((ns.drop (r + i)).take 1).map V.int)) nl)
        refine ⟨h, l, _, _, rfl, rfl, sl _ _ eh6, upd_same, Nat.le_of_lt (small1000 (by rw [List.length_map, List.length_map, List.length_take]; omega)), _, _, rfl, hhn (s6.trans sl), ?_, ?_⟩
        · rw [upd_same, List.map_append]
        · rw [upd_ne hWh]
          exact sl _ _ eW6
      · rintro σ' H2 ⟨x4, x5, rfl, s3, eh3, eW3⟩
        exact ⟨x4, x5, rfl, s3, eW3⟩
    · rintro σ' H2 ⟨x4, x5, rfl, s3, eW3⟩
      exact ⟨_, rfl, W, _, rfl, .inl ⟨SqL.of eW3, fun t nt => q _ t (s3.trans (Same.up nt)) upd_same⟩⟩
theorem b_wr (T : Tx K mg A) : L2.Binds K A.d_written_by_replacement ["room", "given"] [] := T.F_written_by_replacement.binds fun _ _ _ _ _ _ us hl => match us, hl with | [_, _], _ => rfl
theorem lvR_keys (r : Nat) : ∀ p, (lvR r p).map (·.2) = p
  | [] => rfl
  | k :: p => by
    show k :: (lvR r p).map (·.2) = _
    rw [lvR_keys r p]
/-- what lstF finds -/
theorem lstF_ok {r : Nat} {ps : List (Nat × Int)} {k : Int} (hz : ∀ q ∈ ps, q.1 ≤ ps.length) (hr : 1 ≤ r) : ∀ (f l : Nat), ps.length < l + f →
    l ≤ lstF r ps k f l ∧ lstF r ps k f l ≤ l + f ∧ cntB ps (lstF r ps k f l) k < r ∧ ∀ m, l ≤ m → m < lstF r ps k f l → r ≤ cntB ps m k
  | 0, l, h => by
    have e : cntB ps l k = 0 := List.countP_eq_zero.mpr fun q hq z => by
      have := hz q hq
      rcases beh_iff.mp z with z | z <;> omega
    refine ⟨Nat.le_refl _, Nat.le_refl _, ?_, fun m h1 h2 => ?_⟩
    · show cntB ps l k < r
      omega
    · have h2 : m < l := h2
      omega
  | f + 1, l, h => by
    unfold lstF
    by_cases c : cntB ps l k < r
    · rw [if_pos c]
      exact ⟨Nat.le_refl _, by omega, c, fun m h1 h2 => by omega⟩
    · rw [if_neg c]
      obtain ⟨a, b, d, e⟩ := lstF_ok hz hr f (l + 1) (by omega) (k := k)
      refine ⟨by omega, by omega, d, fun m h1 h2 => ?_⟩
      by_cases x : m = l
      · rw [x]; omega
      · exact e m (by omega) h2
theorem lvR_le {r : Nat} (hr : 1 ≤ r) : ∀ p, ∀ q ∈ lvR r p, 1 ≤ q.1 ∧ q.1 ≤ (lvR r p).length
  | [], q, h => nomatch h
  | k :: p, q, h => by
    have ih := lvR_le hr p
    obtain ⟨a, b, c, d⟩ := lstF_ok (k := k) (fun q hq => (ih q hq).2) hr ((lvR r p).length + 1) 1 (by omega)
    rcases List.mem_cons.mp h with e | e
    · subst e
      refine ⟨a, ?_⟩
      show lstF r (lvR r p) k ((lvR r p).length + 1) 1 ≤ (lvR r p).length + 1
      refine Nat.le_of_not_lt fun z => ?_
      have := d ((lvR r p).length + 1) (by omega) z
      have e0 : cntB (lvR r p) ((lvR r p).length + 1) k = 0 := List.countP_eq_zero.mpr fun q hq z => by
        have := (ih q hq).2
        rcases beh_iff.mp z with z | z <;> omega
      omega
    · have := ih q e
      refine ⟨this.1, ?_⟩
      show q.1 ≤ (lvR r p).length + 1
      omega
/-- a level is the least that has room -/
theorem lvR_least {r : Nat} (hr : 1 ≤ r) (k : Int) (p : List Int) : ∃ l, lvR r (k :: p) = (l, k) :: lvR r p ∧ 1 ≤ l ∧ cntB (lvR r p) l k < r ∧ ∀ m, 1 ≤ m → m < l → r ≤ cntB (lvR r p) m k := by
  obtain ⟨a, b, c, d⟩ := lstF_ok (k := k) (fun q hq => (lvR_le hr p q hq).2) hr ((lvR r p).length + 1) 1 (by omega)
  exact ⟨_, rfl, a, c, d⟩
/-- f tells the levels of ns -/
def IsLv (r : Nat) (ns : List Int) (f : Int → Nat) : Prop := ∀ (m : Nat) (k : Int), ns[m]? = some k → 1 ≤ f k ∧ cntF f (ns.take m) (f k) k < r ∧ ∀ l, 1 ≤ l → l < f k → r ≤ cntF f (ns.take m) l k
theorem lvR_app (r : Nat) (b : List Int) : ∀ a : List Int, ∃ c : List (Nat × Int), lvR r (a ++ b) = c ++ lvR r b
  | [] => ⟨[], rfl⟩
  | k :: a => by
    obtain ⟨c, h⟩ := lvR_app r b a
    refine ⟨(lstF r (lvR r (a ++ b)) k ((lvR r (a ++ b)).length + 1) 1, k) :: c, ?_⟩
    exact congrArg (List.cons (lstF r (lvR r (a ++ b)) k ((lvR r (a ++ b)).length + 1) 1, k)) h
theorem find_key : ∀ {ps : List (Nat × Int)} {q : Nat × Int}, (ps.map (·.2)).Nodup → q ∈ ps → ps.find? (fun x => decide (x.2 = q.2)) = some q
  | [], _, _, h => nomatch h
  | a :: ps, q, hd, h => by
    have hd : (a.2 :: ps.map (·.2)).Nodup := hd
    obtain ⟨h1, h2⟩ := List.nodup_cons.mp hd
    by_cases e : a.2 = q.2
    · rw [List.find?_cons_of_pos (by rw [decide_eq_true e])]
      rcases List.mem_cons.mp h with z | z
      · rw [z]
      · exact absurd (by rw [e]; exact List.mem_map.mpr ⟨q, z, rfl⟩) h1
    · rw [List.find?_cons_of_neg (by rw [decide_eq_true_eq]; exact e)]
      rcases List.mem_cons.mp h with z | z
      · exact absurd (by rw [z]) e
      · exact find_key h2 z
theorem lvF_mem {r : Nat} {ns : List Int} (hd : ns.Nodup) {q : Nat × Int} (h : q ∈ lvR r ns.reverse) : lvF r ns q.2 = q.1 := by
  unfold lvF
  rw [find_key (by rw [lvR_keys]; exact (List.reverse_perm ns).nodup_iff.mpr hd) h]
  rfl
theorem rev_split {ns : List Int} {m : Nat} {k : Int} (h : ns[m]? = some k) : ns.reverse = (ns.drop (m + 1)).reverse ++ (k :: (ns.take m).reverse) := by
  obtain ⟨hm, e⟩ := List.getElem?_eq_some_iff.mp h
  have : ns = ns.take m ++ (k :: ns.drop (m + 1)) := by
    rw [← e, ← List.drop_eq_getElem_cons hm, List.take_append_drop]
  calc ns.reverse = (ns.take m ++ (k :: ns.drop (m + 1))).reverse := by rw [← this]
    _ = _ := by rw [List.reverse_append, List.reverse_cons, List.append_assoc]; rfl
theorem lvF_sub {r : Nat} {ns : List Int} (hd : ns.Nodup) {m : Nat} {k : Int} (h : ns[m]? = some k) {q : Nat × Int} (hq : q ∈ lvR r (k :: (ns.take m).reverse)) : lvF r ns q.2 = q.1 := by
  refine lvF_mem hd ?_
  rw [rev_split h]
  obtain ⟨c, e⟩ := lvR_app r (k :: (ns.take m).reverse) (ns.drop (m + 1)).reverse
  rw [e]
  exact List.mem_append_right _ hq
theorem isLv {r : Nat} {ns : List Int} (hr : 1 ≤ r) (hd : ns.Nodup) : IsLv r ns (lvF r ns) := by
  intro m k hk
  obtain ⟨l, e, l1, lc, ll⟩ := lvR_least hr k (ns.take m).reverse
  have hl : lvF r ns k = l := lvF_sub hd hk (q := (l, k)) (by rw [e]; exact List.mem_cons_self)
  have hc : ∀ x, cntF (lvF r ns) (ns.take m) x k = cntB (lvR r (ns.take m).reverse) x k := fun x => by
    unfold cntF cntB
    rw [← (List.reverse_perm (ns.take m)).countP_eq]
    conv => lhs; rw [← lvR_keys r (ns.take m).reverse]
    rw [List.countP_map]
    refine List.countP_congr fun q hq => ?_
    have := lvF_sub hd hk (q := q) (by rw [e]; exact List.mem_cons_of_mem _ hq)
    show behB x k (lvF r ns q.2, q.2) = true ↔ behB x k q = true
    rw [this]
  rw [hl]
  refine ⟨l1, by rw [hc]; exact lc, fun x x1 x2 => by rw [hc]; exact ll x x1 x2⟩
structure RInv (f : Int → Nat) (r : Nat) (ns : List Int) (i : Nat) : Prop where
  e : (stW r ns i).2 = [] → ∀ h ∈ (stW r ns i).1, f h = 1
  d : (stW r ns i).2 ≠ [] → ∀ h ∈ (stW r ns i).1, f h = if lastI (stW r ns i).2 < h then f (lastI (stW r ns i).2) else f (lastI (stW r ns i).2) + 1
  w : ∀ x ∈ (stW r ns i).2, f x < f (lastI (stW r ns i).2) ∨ (f x = f (lastI (stW r ns i).2) ∧ x ≤ lastI (stW r ns i).2)
  n : (stW r ns i).2 ≠ [] → (runsL (stW r ns i).2).length = f (lastI (stW r ns i).2)
  g : ∀ (j : Nat) (run : List Int), (runsL (stW r ns i).2)[j]? = some run → ∀ k ∈ run, f k = j + 1
theorem rinv_zero {f : Int → Nat} {r : Nat} {ns : List Int} (hf : IsLv r ns f) : RInv f r ns 0 := by
  refine ⟨fun _ h hh => ?_, fun z => absurd rfl z, fun x hx => (nomatch hx), fun z => absurd rfl z, fun j run e => ?_⟩
  · obtain ⟨m, hm, em⟩ := List.getElem_of_mem (show h ∈ ns.take r from hh)
    rw [List.length_take] at hm
    have e : ns[m]? = some h := by
      rw [← em, List.getElem_take]
      exact List.getElem?_eq_getElem (by omega)
    obtain ⟨a, b, c⟩ := hf m h e
    refine Nat.le_antisymm (Nat.le_of_not_lt fun z => ?_) a
    have := c 1 (Nat.le_refl _) z
    have hle : cntF f (ns.take m) 1 h ≤ (ns.take m).length := List.countP_le_length
    rw [List.length_take] at hle
    omega
  · have : (runsL ([] : List Int))[j]? = some run := e
    exact nomatch this
theorem fit_nil {f : Int → Nat} {r : Nat} {ns : List Int} {i : Nat} (I : RInv f r ns i) (hne : (stW r ns i).1 ≠ []) (hd : ((stW r ns i).2 ++ (stW r ns i).1).Nodup) (hW : (stW r ns i).2 ≠ []) :
    (lastI (stW r ns i).2 < pickL (stW r ns i).1 (stW r ns i).2 ∧ f (pickL (stW r ns i).1 (stW r ns i).2) = f (lastI (stW r ns i).2) ∧ ∀ h ∈ (stW r ns i).1, lastI (stW r ns i).2 < h → pickL (stW r ns i).1 (stW r ns i).2 ≤ h) ∨
    (¬ lastI (stW r ns i).2 < pickL (stW r ns i).1 (stW r ns i).2 ∧ f (pickL (stW r ns i).1 (stW r ns i).2) = f (lastI (stW r ns i).2) + 1 ∧ (∀ h ∈ (stW r ns i).1, ¬ lastI (stW r ns i).2 < h) ∧ ∀ h ∈ (stW r ns i).1, pickL (stW r ns i).1 (stW r ns i).2 ≤ h) := by
  have hp := pick_in (stW r ns i).2 hne
  have hdd := I.d hW _ hp
  by_cases hf : fitL (stW r ns i).1 (stW r ns i).2 = []
  · have hno : ∀ h ∈ (stW r ns i).1, ¬ lastI (stW r ns i).2 < h := fun h hh z => by
      have : h ∈ fitL (stW r ns i).1 (stW r ns i).2 := List.mem_filter.mpr ⟨hh, by rw [decide_eq_true z, Bool.or_true]⟩
      rw [hf] at this
      exact nomatch this
    refine .inr ⟨hno _ hp, by rw [hdd, if_neg (hno _ hp)], hno, fun h hh => ?_⟩
    have := (minI_ok _ hne).2 h hh
    unfold pickL
    rw [if_pos hf]
    exact this
  · have hm := minI_ok _ hf
    have ep : pickL (stW r ns i).1 (stW r ns i).2 = minI (fitL (stW r ns i).1 (stW r ns i).2) := by
      unfold pickL
      rw [if_neg hf]
    have hl : lastI (stW r ns i).2 < pickL (stW r ns i).1 (stW r ns i).2 := by
      rw [ep]
      have := (List.mem_filter.mp hm.1).2
      rw [decide_eq_false hW, Bool.false_or, decide_eq_true_eq] at this
      exact this
    refine .inl ⟨hl, by rw [hdd, if_pos hl], fun h hh z => ?_⟩
    rw [ep]
    exact hm.2 h (List.mem_filter.mpr ⟨hh, by rw [decide_eq_true z, Bool.or_true]⟩)
/-- the picked key is the least by level and key -/
theorem pick_least {f : Int → Nat} {r : Nat} {ns : List Int} {i : Nat} (I : RInv f r ns i) (hne : (stW r ns i).1 ≠ []) (hd : ((stW r ns i).2 ++ (stW r ns i).1).Nodup) (h : Int) (hh : h ∈ (stW r ns i).1) (hn : h ≠ pickL (stW r ns i).1 (stW r ns i).2) :
    f h = (if pickL (stW r ns i).1 (stW r ns i).2 < h then f (pickL (stW r ns i).1 (stW r ns i).2) else f (pickL (stW r ns i).1 (stW r ns i).2) + 1) := by
  have hp := pick_in (stW r ns i).2 hne
  by_cases hW : (stW r ns i).2 = []
  · have e1 := I.e hW h hh
    have e2 := I.e hW _ hp
    have hf : fitL (stW r ns i).1 (stW r ns i).2 = (stW r ns i).1 := by
      unfold fitL
      exact List.filter_eq_self.mpr fun a _ => by rw [decide_eq_true hW, Bool.true_or]
    have ep : pickL (stW r ns i).1 (stW r ns i).2 = minI (stW r ns i).1 := by
      unfold pickL
      rw [hf, if_neg hne]
    have := (minI_ok _ hne).2 h hh
    rw [if_pos (by rw [ep] at hn ⊢; omega), e1, e2]
  · have e1 := I.d hW h hh
    rcases fit_nil I hne hd hW with ⟨a, b, c⟩ | ⟨a, b, c, c2⟩
    · by_cases z : lastI (stW r ns i).2 < h
      · rw [if_pos z] at e1
        have := c h hh z
        rw [if_pos (by omega), e1, b]
      · rw [if_neg z] at e1
        rw [if_neg (by omega), e1, b]
    · rw [if_neg (c h hh)] at e1
      have := c2 h hh
      rw [if_pos (by omega), e1, b]
theorem rinv_succ {f : Int → Nat} {r : Nat} {ns : List Int} (hr : 1 ≤ r) (hf : IsLv r ns f) (hd : ns.Nodup) {i : Nat} (hi : i < ns.length) (I : RInv f r ns i) : RInv f r ns (i + 1) := by
  have hne := held_ne hr hi
  have hnd := st_nodup hr hd (Nat.le_of_lt hi)
  have hp := pick_in (stW r ns i).2 hne
  have hpl := pick_least I hne hnd
  have hperm := stW_perm hr i (Nat.le_of_lt hi)
  have hlen := held_len hr (Nat.le_of_lt hi) (ns := ns)
  have e2 : (stW r ns (i + 1)).2 = (stW r ns i).2 ++ [pickL (stW r ns i).1 (stW r ns i).2] := rfl
  have e1 : (stW r ns (i + 1)).1 = (stW r ns i).1.erase (pickL (stW r ns i).1 (stW r ns i).2) ++ (ns.drop (r + i)).take 1 := rfl
  have hfn : (stW r ns i).2 ≠ [] → _ := fit_nil I hne hnd
  have hI := I
  generalize hwd : pickL (stW r ns i).1 (stW r ns i).2 = w' at *
  have hdH : (stW r ns i).1.Nodup := (List.nodup_append.mp hnd).2.1
  have hmemE : ∀ h ∈ (stW r ns i).1.erase w', h ∈ (stW r ns i).1 ∧ h ≠ w' := fun h hh => by
    have := (List.Nodup.mem_erase_iff hdH).mp hh
    exact ⟨this.2, this.1⟩
  have hlx : ∀ x ∈ (stW r ns i).2, f x < f w' ∨ (f x = f w' ∧ x ≤ w') := fun x hx => by
    have hW : (stW r ns i).2 ≠ [] := List.ne_nil_of_mem hx
    have a := hI.w x hx
    rcases hfn hW with ⟨b1, b2, _⟩ | ⟨b1, b2, _⟩ <;> omega
  have hsnoc : lastI (stW r ns (i + 1)).2 = w' := by rw [e2]; exact last_snoc _ _
  have hne2 : (stW r ns (i + 1)).2 ≠ [] := by rw [e2]; simp
  refine ⟨fun z => absurd z hne2, fun _ h hh => ?_, fun x hx => ?_, fun _ => ?_, ?_⟩
  · rw [hsnoc]
    rw [e1] at hh
    rcases List.mem_append.mp hh with hh | hh
    · obtain ⟨a, b⟩ := hmemE h hh
      exact hpl h a b
    · -- the key that enters
      have hk : ns[r + i]? = some h := by
        cases e : ns.drop (r + i) with
        | nil => rw [e] at hh; exact nomatch hh
        | cons a l =>
          rw [e] at hh
          have : h = a := List.mem_singleton.mp hh
          subst this
          have := congrArg List.head? e
          rw [List.head?_drop] at this
          exact this
      have hin : r + i < ns.length := by
        refine Nat.lt_of_not_le fun z => ?_
        rw [List.getElem?_eq_none z] at hk
        exact nomatch hk
      obtain ⟨f1, f2, f3⟩ := hf (r + i) h hk
      have hnw : h ≠ w' := fun z => by
        have h1 : w' ∈ ns.take (r + i) := hperm.mem_iff.mp (List.mem_append_right _ hp)
        rw [← z] at h1
        obtain ⟨m, hm, em⟩ := List.getElem_of_mem h1
        rw [List.length_take] at hm
        rw [List.getElem_take] at em
        have h3 := (List.getElem?_eq_some_iff.mp hk).2
        have := (List.getElem_inj hd).mp (em.trans h3.symm)
        omega
      have key : ∀ l, cntF f (ns.take (r + i)) l h < r ↔ behB l h (f w', w') = false := fun l => by
        have ec : cntF f (ns.take (r + i)) l h = cntF f (stW r ns i).2 l h + (cntF f [w'] l h + cntF f ((stW r ns i).1.erase w') l h) := by
          unfold cntF
          rw [← hperm.countP_eq, List.countP_append, (List.perm_cons_erase hp).countP_eq]
          exact congrArg _ (List.countP_append (l₁ := [w']))
        have hel : ((stW r ns i).1.erase w').length = r - 1 := by
          rw [List.length_erase_of_mem hp, hlen]
          omega
        have hle : cntF f ((stW r ns i).1.erase w') l h ≤ ((stW r ns i).1.erase w').length := List.countP_le_length
        by_cases z : behB l h (f w', w') = true
        · have hall : cntF f ((stW r ns i).1.erase w') l h = ((stW r ns i).1.erase w').length := List.countP_eq_length.mpr fun y hy => by
            obtain ⟨y1, y2⟩ := hmemE y hy
            have := hpl y y1 y2
            rw [beh_iff] at z ⊢
            by_cases c : w' < y
            · rw [if_pos c] at this
              show l < f y ∨ (l = f y ∧ h < y)
              have z : l < f w' ∨ (l = f w' ∧ h < w') := z
              omega
            · rw [if_neg c] at this
              show l < f y ∨ (l = f y ∧ h < y)
              have z : l < f w' ∨ (l = f w' ∧ h < w') := z
              omega
          have h1 : cntF f [w'] l h = 1 := by
            unfold cntF
            rw [List.countP_cons, if_pos z]
            rfl
          rw [z]
          refine ⟨fun y => ?_, fun y => nomatch y⟩
          omega
        · have h0 : cntF f (stW r ns i).2 l h = 0 := List.countP_eq_zero.mpr fun y hy y2 => z (by
            have := hlx y hy
            rw [beh_iff] at y2 ⊢
            have y2 : l < f y ∨ (l = f y ∧ h < y) := y2
            show l < f w' ∨ (l = f w' ∧ h < w')
            omega)
          have h1 : cntF f [w'] l h = 0 := by
            unfold cntF
            rw [List.countP_cons, if_neg z]
            rfl
          rw [Bool.not_eq_true] at z
          refine ⟨fun _ => z, fun _ => ?_⟩
          omega
      have a := (key (f h)).mp f2
      have b : ∀ l, 1 ≤ l → l < f h → l < f w' ∨ (l = f w' ∧ h < w') := fun l l1 l2 => by
        have c := f3 l l1 l2
        refine (beh_iff (q := (f w', w'))).mp ?_
        cases z : behB l h (f w', w') with
        | true => rfl
        | false =>
          have := (key l).mpr z
          omega
      have a : ¬ (f h < f w' ∨ (f h = f w' ∧ h < w')) := fun z => by
        have := beh_iff.mpr (show f h < (f w', w').1 ∨ (f h = (f w', w').1 ∧ h < (f w', w').2) from z)
        rw [a] at this
        exact nomatch this
      have w1 : 1 ≤ f w' := by
        have h1 : w' ∈ ns.take (r + i) := hperm.mem_iff.mp (List.mem_append_right _ hp)
        obtain ⟨m, hm, em⟩ := List.getElem_of_mem (List.mem_of_mem_take h1)
        exact (hf m w' (by rw [← em]; exact List.getElem?_eq_getElem hm)).1
      by_cases c : w' < h
      · rw [if_pos c]
        refine Nat.le_antisymm (Nat.le_of_not_lt fun z => ?_) (by omega)
        have := b (f w') w1 z
        omega
      · rw [if_neg c]
        refine Nat.le_antisymm (Nat.le_of_not_lt fun z => ?_) (by omega)
        have := b (f w' + 1) (by omega) z
        omega
  · rw [hsnoc]
    rw [e2] at hx
    rcases List.mem_append.mp hx with hx | hx
    · exact hlx x hx
    · rw [List.mem_singleton.mp hx]
      exact .inr ⟨rfl, Int.le_refl _⟩
  · rw [hsnoc, e2, runs_snoc]
    by_cases hW : (stW r ns i).2 = []
    · rw [hW]
      have := hI.e hW _ hp
      rw [this]
      rfl
    · obtain ⟨q1, q2⟩ := runs_last _ _ rfl hW
      have hn := hI.n hW
      unfold stepR
      rcases hfn hW with ⟨b1, b2, _⟩ | ⟨b1, b2, _⟩
      · rw [if_pos ⟨q1, by rw [q2]; exact b1⟩, List.length_append, List.length_dropLast, hn, b2]
        have := List.length_pos_iff.mpr q1
        show _ - 1 + 1 = _
        omega
      · rw [if_neg (fun z => b1 (by rw [← q2]; exact z.2)), List.length_append, hn, b2]
        rfl
  · intro j run ej k hk
    rw [e2, runs_snoc] at ej
    by_cases hW : (stW r ns i).2 = []
    · rw [hW] at ej
      have ej : ([[w']] : List (List Int))[j]? = some run := ej
      cases j with
      | zero =>
        have : [w'] = run := Option.some.inj ej
        rw [← this] at hk
        rw [List.mem_singleton.mp hk]
        exact hI.e hW _ hp
      | succ j => exact nomatch ej
    · obtain ⟨q1, q2⟩ := runs_last _ _ rfl hW
      have hn := hI.n hW
      have hg := hI.g
      unfold stepR at ej
      rcases hfn hW with ⟨b1, b2, _⟩ | ⟨b1, b2, _⟩
      · rw [if_pos ⟨q1, by rw [q2]; exact b1⟩] at ej
        have hpos := List.length_pos_iff.mpr q1
        by_cases hj : j < (runsL (stW r ns i).2).length - 1
        · rw [List.getElem?_append_left (by rw [List.length_dropLast]; exact hj), List.getElem?_dropLast, if_pos hj] at ej
          exact hg j run ej k hk
        · have hj2 : j = (runsL (stW r ns i).2).length - 1 := by
            have : j < ((runsL (stW r ns i).2).dropLast ++ [lastL (runsL (stW r ns i).2) ++ [w']]).length := by
              refine Nat.lt_of_not_le fun z => ?_
              rw [List.getElem?_eq_none z] at ej
              exact nomatch ej
            rw [List.length_append, List.length_dropLast, List.length_singleton] at this
            omega
          rw [List.getElem?_append_right (by rw [List.length_dropLast]; omega), List.length_dropLast, hj2, Nat.sub_self] at ej
          have er : lastL (runsL (stW r ns i).2) ++ [w'] = run := Option.some.inj ej
          rw [← er] at hk
          rcases List.mem_append.mp hk with hk | hk
          · refine hg j (lastL (runsL (stW r ns i).2)) ?_ k hk
            unfold lastL
            rw [List.getLastD_eq_getLast?, List.getLast?_eq_getElem?, hj2, List.getElem?_eq_getElem (by omega)]
            rfl
          · rw [List.mem_singleton.mp hk, b2, ← hn]
            omega
      · rw [if_neg (fun z => b1 (by rw [← q2]; exact z.2))] at ej
        by_cases hj : j < (runsL (stW r ns i).2).length
        · rw [List.getElem?_append_left hj] at ej
          exact hg j run ej k hk
        · rw [List.getElem?_append_right (by omega)] at ej
          have hj2 : j - (runsL (stW r ns i).2).length = 0 := by
            refine Nat.eq_zero_of_not_pos fun z => ?_
            rw [List.getElem?_eq_none (by show 1 ≤ _; omega)] at ej
            exact nomatch ej
          rw [hj2] at ej
          have er : [w'] = run := Option.some.inj ej
          rw [← er] at hk
          rw [List.mem_singleton.mp hk, b2, ← hn]
          omega
end
end Tw

set_option Elab.async false
set_option linter.all false
set_option maxRecDepth 100000
set_option maxHeartbeats 2000000
namespace Tw
open PySem PySem.Spec PyProof.Rows L2
section
variable {P : Program} {w : World} {K : PySem.W.Frag} {mg : Str → Option Value} {base : Heap} {A : Ad}
open LamX (ExtN Tabs TabS)
theorem rinv {f : Int → Nat} {r : Nat} {ns : List Int} (hr : 1 ≤ r) (hf : IsLv r ns f) (hd : ns.Nodup) : ∀ i, i ≤ ns.length → RInv f r ns i
  | 0, _ => rinv_zero hf
  | i + 1, hi => rinv_succ hr hf hd hi (rinv hr hf hd i (by omega))
/-- the run that a key stands in -/
theorem runs_at {r : Nat} {ns : List Int} (hr : 1 ≤ r) (hd : ns.Nodup) {j : Nat} {run : List Int} (h : (runsL (writeL r ns))[j]? = some run) : ∀ k ∈ run, lvF r ns k = j + 1 :=
  (rinv hr (isLv hr hd) hd ns.length (Nat.le_refl _)).g j run h
theorem new_up {C x dx : Addr} {H : Hp} (nx : H x = none) (ndx : H dx = none) (nex : dx ≠ x) : Same H (upd (upd H dx (.own x)) x (.ins C dx [])) :=
  (Same.up ndx).trans (Same.up (by rw [upd_ne nex.symm]; exact nx))
theorem step_flat (rs : List (List Int)) (k : Int) : (stepR rs k).flatten = rs.flatten ++ [k] := by
  unfold stepR
  split
  · rename_i h
    have hne := h.1
    have e : rs = rs.dropLast ++ [lastL rs] := by
      unfold lastL
      rw [List.getLastD_eq_getLast?, List.getLast?_eq_some_getLast hne]
      exact (List.dropLast_concat_getLast hne).symm
    conv => rhs; rw [e]
    rw [List.flatten_append, List.flatten_append, List.flatten_singleton, List.flatten_singleton, List.append_assoc]
  · rw [List.flatten_append, List.flatten_singleton]
theorem fold_flat : ∀ (w : List Int) (rs : List (List Int)), (w.foldl stepR rs).flatten = rs.flatten ++ w
  | [], rs => by rw [List.append_nil]; rfl
  | k :: w, rs => by
    show (w.foldl stepR (stepR rs k)).flatten = _
    rw [fold_flat w, step_flat, List.append_assoc]
    rfl
theorem runs_flat (w : List Int) : (runsL w).flatten = w := fold_flat w []
theorem take_flat {α : Type} {rs : List (List α)} {i : Nat} (h : i < rs.length) : (rs.take (i + 1)).flatten = (rs.take i).flatten ++ rs[i] := by
  rw [List.take_succ_eq_append_getElem h, List.flatten_append, List.flatten_singleton]
theorem flat_split {α : Type} {rs : List (List α)} {i : Nat} (h : i < rs.length) : ∃ z, rs.flatten = (rs.take i).flatten ++ (rs[i] ++ z) := ⟨(rs.drop (i + 1)).flatten, by
  conv => lhs; rw [← List.take_append_drop (i + 1) rs]
  rw [List.flatten_append, take_flat h, List.append_assoc]⟩
theorem lvD_none {f : Int → Nat} : ∀ {ks : List Int} {k : Int}, k ∉ ks → valV (lvD f ks) (.inl k) = none
  | [], _, _ => rfl
  | a :: ks, k, h => by
    show valV ((Sum.inl a, V.int (f a : Nat)) :: lvD f ks) (.inl k) = none
    rw [valV_neg (fun z => h (by rw [Sum.inl.inj z]; exact List.mem_cons_self))]
    exact lvD_none fun z => h (List.mem_cons_of_mem _ z)
theorem lvD_app (f : Int → Nat) (a b : List Int) : lvD f (a ++ b) = lvD f a ++ lvD f b := by
  unfold lvD
  rw [List.map_append]
theorem lvD_put {f : Int → Nat} {ks : List Int} {k : Int} (h : k ∉ ks) : putK (lvD f ks) (.inl k) (.int (f k : Nat)) = lvD f (ks ++ [k]) := by
  rw [putK_new _ (lvD_none h), lvD_app]
  rfl
def spJr (A : Ad) : Sp := fun vs H Q _ => ∃ (r a n : Nat) (ns : List Int), vs = [.int r, .ref a, .int n] ∧ (1 ≤ r ∧ r ≤ 12) ∧ Sq H a (ns.map V.int) ∧ KeysIn ns ∧ ∀ (H' : Hp) (o : Addr), Same H H' → JrAt A H' o r n ns → Q (.ref o) H'
theorem ok_jr (T : Tx K mg A) : FnOk P w K mg base CX0 7 A.f_judge_runs A.d_judge_runs ["room", "row", "number"] (spJr A) := by
  refine T.F_judge_runs.ok sc_judge_runs (fun vs H Q E h => ?_) (fun cdv B outer s H vs Q E hr h => ?_)
  · obtain ⟨r, a, n, ns, rfl, _⟩ := h
    rfl
  · obtain ⟨r, a, n, ns, rfl, hr1, ha, hk, q⟩ := h
    have nd := sc_judge_runs.nd
    refine ⟨_, PSs.nox (C8.pss_cut (ps_set (i := 3) nd rfl (Or.inl rfl) (pe_call (ok_gof T) (hr.mono (by decide)) (by rfl) T.m_given_of T.F_given_of.kp (b_gof T) .nil pass0 (pa_cons (pv 0) (pa_cons (pv 1) (pa_cons (pv 2) pa_nil)))))
      (C8.pss_cut (ps_set (i := 4) nd rfl (Or.inl rfl) (pe_call (ok_wr T) (hr.mono (by decide)) (by rfl) T.m_written_by_replacement T.F_written_by_replacement.kp (b_wr T) .nil pass0 (pa_cons (pv 0) (pa_cons (pv 3) pa_nil))))
      (C8.pss_cut (ps_set (i := 5) nd rfl (Or.inl rfl) (pe_call (ok_ri T) (hr.mono (by decide)) (by rfl) T.m_runs_in T.F_runs_in.kp (b_ri T) .nil pass0 (pa_cons (pv 4) pa_nil)))
      (C8.pss_cut (ps_if (pt_cmpR op_le (pe_callB (r := rLn K) call_len_seq (by rfl) T.g_len PySem.boot_len (pa_cons (pv 5) pa_nil)) (pv 2) (nomark _)) (pss_one (ps_ret (pe_make T.mkCC (ok_iC T) (hr.mono (by decide)) (by rfl) T.mCC (b_iC T) .nil pass0 (pa_cons (pv 4) pa_nil)))) pss_nil)
      (pss_one (ps_ret (pe_make T.mkCE (ok_iE T) (hr.mono (by decide)) (by rfl) T.mCE (b_iE T) .nil pass0 (pa_cons (D2.pe_dc2 (own := [("at", 6), ("run", 7), ("key", 8)]) (vb := [8]) (wb := iTup K (tVar 7)) (ga := gTup K 2 (gCons (gName 6) (gCons (gName 7) (gNil)))) (gb := gName 8) (qa := tYes) (qb := tYes) rfl nd (pi_enS (by rfl) T.g_enumerate (pa_cons (pv 5) pa_nil)) (blkOk_by (own := [("at", 6), ("run", 7), ("key", 8)]) (N := ["room", "row", "number", "given", "written", "runs", "at", "run", "key"]) (sc := defScope s_judge_runs) (by decide +kernel)) (by decide) (fun _ _ _ _ _ => (pg_tup rfl (pgs_cons (pg_name (i := 6) nd rfl (Or.inl rfl)) (pgs_cons (pg_name (i := 7) nd rfl (Or.inl rfl)) pgs_nil)))) (fun _ _ _ _ _ => pts_nil) (fun _ _ _ _ _ => (pi_tupK (K := K) rfl (pv 7))) (fun _ _ _ _ _ => pg_name (i := 8) nd rfl (Or.inl rfl)) (fun _ _ _ _ _ => pts_nil) (fun _ _ _ _ _ => (pv 8)) (fun _ _ _ _ _ => (pe_op op_add (pv 6) pe_int))) pa_nil)))))))), ?_⟩
    refine ⟨fun σ' H' => ∃ p : Addr, σ' = [some (.int r), some (.ref a), some (.int n), some (.ref p), none, none, none, none, none] ∧ Same H H' ∧ H' p = some (.tup (ns.map V.int)), ⟨_, rfl, _, rfl, _, rfl, r, a, n, ns, rfl, hr1, ha, hk, fun H1 p s1 ep => ⟨p, rfl, s1, ep⟩⟩, ?_⟩
    rintro σ' H1 ⟨p, rfl, s1, ep⟩
    refine ⟨fun σ' H' => ∃ t : Addr, σ' = [some (.int r), some (.ref a), some (.int n), some (.ref p), some (.ref t), none, none, none, none] ∧ Same H1 H' ∧ H' t = some (.tup ((writeL r ns).map V.int)), ⟨_, rfl, _, rfl, r, p, ns, rfl, hr1.1, ep, hk.1, hr1.2, fun H2 t s2 et => ⟨t, rfl, s2, et⟩⟩, ?_⟩
    rintro σ' H2 ⟨t, rfl, s2, et⟩
    have hwl : (writeL r ns).length ≤ 12 := by rw [write_len]; exact hk.1
    have hwp := write_perm hr1.1 (ns := ns)
    have hwd : (writeL r ns).Nodup := hwp.nodup_iff.mpr hk.2.2
    refine ⟨fun σ' H' => ∃ (u : Addr) (xs : List V), σ' = [some (.int r), some (.ref a), some (.int n), some (.ref p), some (.ref t), some (.ref u), none, none, none] ∧ Same H2 H' ∧ H' u = some (.lst xs) ∧ RowsAt H' xs (runsL (writeL r ns)), ⟨_, rfl, t, writeL r ns, rfl, .inr et, hwl, fun H3 u xs s3 _ eu ru => ⟨u, xs, rfl, s3, eu, ru⟩⟩, ?_⟩
    rintro σ' H3 ⟨u, xs, rfl, s3, eu, ru⟩
    have hx : xs.length = (runsL (writeL r ns)).length := Paired.length ru
    have et3 := s3 _ _ et
    have s13 := s1.trans (s2.trans s3)
    refine ⟨fun σ' H' => σ' = [some (.int r), some (.ref a), some (.int n), some (.ref p), some (.ref t), some (.ref u), none, none, none] ∧ H' = H3 ∧ n < (runsL (writeL r ns)).length, ?_, ?_⟩
    · refine ⟨_, rfl, u, _, rfl, .inl (SqL.of eu), _, rfl, _, _, rfl, rfl, _, rfl, ?_⟩
      by_cases hle : (runsL (writeL r ns)).length ≤ n
      · rw [decide_eq_true (by omega)]
        refine iteT ⟨_, rfl, fun x dx nx ndx nex => ?_⟩
        exact ⟨x, dx, t, writeL r ns, rfl, upd_same, .inr (new_up (C := A.CC) nx ndx nex _ _ et3), fun H4 k4 st => ⟨rfl, q H4 x (s13.trans (new_same nx ndx k4)) (.inl ⟨hle, st⟩)⟩⟩
      · rw [decide_eq_false (by omega)]
        exact iteF ⟨rfl, rfl, by omega⟩
    rintro σ' Hx ⟨rfl, ex, hlt⟩
    obtain rfl := ex.symm
    refine ⟨_, rfl, u, _, rfl, .inl ⟨SqL.of eu, fun D nD => ?_⟩⟩
    have hfl := runs_flat (writeL r ns)
    refine D2.stepA_it (walk_enum (xs := xs)) (fun i H' => Same H3 H' ∧ H' D = some (.dK (lvD (lvF r ns) ((runsL (writeL r ns)).take i).flatten))) ⟨Same.up nD, upd_same⟩ (fun i H' _ z => SqL.of (z.1 _ _ eu)) ?_ ?_
    · rintro i v Ho H4 hi ⟨s4, e4⟩ ⟨T', x, x2, rfl, hT, rfl, e1, e2⟩
      obtain ⟨hi2, tr, rfl, er⟩ := RowsAt.get ru e2
      cases e1
      have s5 := s4.trans (Same.up (o := .tup [V.int (i : Nat), V.ref tr]) hT)
      have e5 : upd Ho T' (.tup [V.int (i : Nat), V.ref tr]) D = _ := (upd_ne (ne_of_none e4 hT)).trans e4
      refine ⟨_, _, rfl, SqT.of upd_same, rfl, _, _, rfl, _, _, rfl, rfl, ?_⟩
      generalize upd Ho T' (.tup [V.int (i : Nat), V.ref tr]) = H5 at s5 e5
      have er5 := s5 _ _ er
      obtain ⟨z, hz⟩ := flat_split hi2
      rw [hfl] at hz
      have hat := runs_at hr1.1 hk.2.2 (List.getElem?_eq_getElem hi2)
      have htk := take_flat hi2
      generalize (runsL (writeL r ns))[i] = run at er er5 hz hat htk
      generalize ((runsL (writeL r ns)).take i).flatten = pre at e5 hz htk
      refine ⟨rfl, iteT (B := Same H3 H5 ∧ H5 D = some (.dK (lvD (lvF r ns) ((runsL (writeL r ns)).take (i + 1)).flatten))) ⟨_, rfl, tr, rfl, ⟨_, SqT.of er5⟩, ?_⟩⟩
      refine D2.stepB_it (walk_tup (xs := run.map V.int)) (fun j H' => Same H3 H' ∧ H' D = some (.dK (lvD (lvF r ns) (pre ++ run.take j)))) ⟨s5, by rw [List.take_zero, List.append_nil]; exact e5⟩ (fun j H' _ z => SqT.of (z.1 _ _ er)) ?_ ?_
      · rintro j y Hp H6 hj ⟨s6, e6⟩ ⟨rfl, hy⟩
        obtain ⟨hj2, rfl⟩ := ints_at hy
        have hlen : (pre ++ run.take j).length ≤ 12 := by
          have := congrArg List.length hz
          rw [List.length_append, List.length_append] at this
          rw [List.length_append, List.length_take]
          omega
        have hno : run[j] ∉ pre ++ run.take j := fun hm => by
          have e : writeL r ns = (pre ++ run.take j) ++ (run[j] :: (run.drop (j + 1) ++ z)) := by
            rw [hz, List.append_assoc, ← List.cons_append, ← List.append_assoc (run.take j), ← List.drop_eq_getElem_cons hj2, List.take_append_drop]
          have hd2 := hwd
          rw [e] at hd2
          exact (List.nodup_append.mp hd2).2.2 _ hm _ List.mem_cons_self rfl
        have hv := hat _ (List.getElem_mem hj2)
        refine ⟨rfl, iteT (B := Same H3 H6 ∧ H6 D = some (.dK (lvD (lvF r ns) (pre ++ run.take (j + 1))))) ⟨_, rfl, _, rfl, _, _, rfl, rfl, _, Sum.inl run[j], rfl, e6, by rw [lvD_len, sizeLine_eq]; omega, fun b o e => ?_, ?_⟩⟩
        · rw [upd_ne (ne_of_none e nD)]
          exact s6 _ _ e
        · rw [upd_same, List.take_succ_eq_append_getElem hj2, ← List.append_assoc, ← lvD_put hno, hv]
          rfl
      · rintro H6 ⟨s6, e6⟩
        rw [List.length_map, List.take_length] at e6
        exact ⟨s6, by rw [htk]; exact e6⟩
    · rintro H4 ⟨s4, e4⟩
      rw [hx, List.take_length, hfl] at e4
      refine fun x dx nx ndx nex => ?_
      exact ⟨x, dx, D, _, rfl, upd_same, new_up (C := A.CE) nx ndx nex _ _ e4, fun H5 k5 st => ⟨rfl, q H5 x ((s13.trans s4).trans (new_same nx ndx k5)) (.inr ⟨hlt, st⟩)⟩⟩
def stepC (rs : List (List Int)) (k : Int) : List (List Int) := if rs = [] ∨ k < lastI (lastL rs) then rs ++ [[k]] else rs.dropLast ++ [lastL rs ++ [k]]
def cutL (w : List Int) : List (List Int) := w.foldl stepC []
def spLcut : Sp := fun vs H Q _ => ∃ (a : Addr) (ws : List Int), vs = [.ref a] ∧ H a = some (.lst (ws.map V.int)) ∧ ws.length ≤ 12 ∧ ∀ (H' : Hp) (q : Addr) (xs : List V), Same H H' → H q = none → H' q = some (.lst xs) → RowsAt H' xs (cutL ws) → Q (.ref q) H'
theorem cut_snoc (w : List Int) (k : Int) : cutL (w ++ [k]) = stepC (cutL w) k := by
  unfold cutL
  rw [List.foldl_append]
  rfl
theorem cut_len : ∀ (n : Nat) (w : List Int), w.length = n → (cutL w).length ≤ n ∧ (∀ run ∈ cutL w, run.length ≤ n ∧ run ≠ [])
  | 0, w, h => by
    rw [List.length_eq_zero_iff.mp h]
    exact ⟨Nat.le_refl _, fun run hr => absurd hr (by simp [cutL])⟩
  | n + 1, w, h => by
    obtain ⟨v, k, rfl, hv⟩ := snoc_of h
    obtain ⟨h1, h2⟩ := cut_len n v hv
    rw [cut_snoc]
    unfold stepC
    by_cases c : cutL v = [] ∨ k < lastI (lastL (cutL v))
    · rw [if_pos c]
      refine ⟨by rw [List.length_append, List.length_singleton]; omega, fun run hr => ?_⟩
      rcases List.mem_append.mp hr with e | e
      · have := h2 run e
        exact ⟨by omega, this.2⟩
      · rw [List.mem_singleton.mp e]
        simp
    · rw [if_neg c]
      have hn : cutL v ≠ [] := fun z => c (.inl z)
      have hp := List.length_pos_iff.mpr hn
      refine ⟨by rw [List.length_append, List.length_dropLast, List.length_singleton]; omega, fun run hr => ?_⟩
      rcases List.mem_append.mp hr with e | e
      · have := h2 run ((List.dropLast_sublist _).subset e)
        exact ⟨by omega, this.2⟩
      · rw [List.mem_singleton.mp e, List.length_append, List.length_singleton]
        have := (h2 _ (lastL_mem hn)).1
        exact ⟨by omega, by simp⟩
/-- tuples of keys as data -/
abbrev rowD (r : List Int) : PyData := .tuple (r.map .int)
theorem rowD_dp {H : Hp} {v : V} {r : List Int} (h : RowAt H v r) : Dp K H v (rowD r) := by
  obtain ⟨t, rfl, e⟩ := h
  exact ints_tup K e
theorem rowsD_dp {H : Hp} : ∀ {xs : List V} {ls : List (List Int)}, RowsAt H xs ls → DpAll K H xs (ls.map rowD)
  | _, _, .nil => .nil
  | _, _, .cons a b => .cons (rowD_dp a) (rowsD_dp b)
theorem rowsD_lay : ∀ ls : List (List Int), PyData.canLayAll0 (ls.map rowD) = true
  | [] => rfl
  | r :: ls => by
    have h := SeqAt.canLay_of_shaped (ints_shT r)
    rw [List.map_cons, PyData.canLayAll0, rowsD_lay ls, Bool.and_true]
    exact h
theorem rowsD_deep : ∀ ls : List (List Int), PyData.depthAll (ls.map rowD) ≤ 3
  | [] => by simp [PyData.depthAll]
  | r :: ls => by
    have := rowsD_deep ls
    have hp : PyData.depth (rowD r) ≤ 3 := by simp [rowD, PyData.depth, PySem.W.depth_ints]
    simp only [List.map_cons, PyData.depthAll]
    omega
theorem rowsD_shaped (ls : List (List Int)) : SeqAt.shaped (.list (ls.map rowD)) = true := by
  have := rowsD_deep ls
  unfold SeqAt.shaped
  rw [Bool.and_eq_true]
  refine ⟨?_, decide_eq_true ?_⟩
  · simp only [PyData.canLay0]
    exact rowsD_lay ls
  · simp only [PyData.depth]
    omega
theorem rowD_eqv (r q : List Int) : PyData.eqv (rowD r) (rowD q) = decide (r = q) := by
  rw [← ints_all]
  simp [PyData.eqv]
theorem rowsD_all : ∀ ls ms : List (List Int), PyData.eqvAll (ls.map rowD) (ms.map rowD) = decide (ls = ms)
  | [], [] => by simp [PyData.eqvAll]
  | [], q :: qs => by simp [PyData.eqvAll]
  | p :: ps, [] => by simp [PyData.eqvAll]
  | p :: ps, q :: qs => by
    simp only [List.map_cons, PyData.eqvAll, rowsD_all ps qs]
    rw [rowD_eqv]
    by_cases h1 : p = q
    · by_cases h2 : ps = qs <;> simp [h1, h2]
    · simp [h1]
theorem rowsL_eqv (ls ms : List (List Int)) : PyData.eqv (.list (ls.map rowD)) (.list (ms.map rowD)) = decide (ls = ms) := by
  rw [← rowsD_all]
  simp [PyData.eqv]
theorem ok_lcut (T : Tx K mg A) : FnOk P w K mg base CX0 1 A.f__law_cut A.d__law_cut ["written"] spLcut := by
  refine T.F__law_cut.ok sc__law_cut (fun vs H Q E h => ?_) (fun cdv B outer s H vs Q E hr h => ?_)
  · obtain ⟨a, ws, rfl, _⟩ := h
    rfl
  · obtain ⟨a, ws, rfl, ha, h12, q⟩ := h
    have nd := sc__law_cut.nd
    have hu := hr.units
    refine ⟨_, (pss_cons (ps_set (i := 1) nd rfl (Or.inl rfl) (pe_lst pa_nil))
      (C8.pss_cut (ps_for PassesOwn.never rfl (pi_list (pv 0)) (pg_name (i := 2) nd rfl (Or.inl rfl)) (pss_one (ps_if (PW.pt (pw_or (pt_cmpR (op_eqD hu) (pv 1) (pe_lst pa_nil) (nomark _)) (pw_or1 (pt_cmpR op_lt (pv 2) (pe_ix (r := rIxT K) ix_tup (pe_ix (r := rIxL K) ix_list (pv 1) (pe_un un_neg pe_int) (fun _ _ => rfl)) (pe_un un_neg pe_int) (fun _ _ => rfl)) (nomark _))))) (pss_one (ps_expr (pe_bm PySem.F.plainAttrs_list PySem.F.slot_list_append PySem.F.type_list_append mt_append (pv 1) (pa_cons (pe_tup (pa_cons (pv 2) pa_nil)) pa_nil)))) (pss_one (ps_asg (pe_op (r := rCatA K) op_catA (pe_ix (r := rIxL K) ix_list (pv 1) (pe_un un_neg pe_int) (fun _ _ => rfl)) (pe_tup (pa_cons (pv 2) pa_nil))) (pg_sub (pv 1) (pe_un un_neg pe_int) set_list))))))
      (pss_one (ps_ret (pv 1))))), ?_⟩
    refine ⟨Nat.zero_le _, fun D nD => ?_⟩
    have s0 := Same.up (o := .lst []) nD
    refine ⟨fun σ' H' => ∃ (x2 : Option V) (xs : List V), σ' = [some (.ref a), some (.ref D), x2] ∧ Same H H' ∧ H' D = some (.lst xs) ∧ RowsAt H' xs (cutL ws), ?_, ?_⟩
    · refine ⟨_, rfl, a, rfl, ⟨_, SqL.of (s0 _ _ ha)⟩, ?_⟩
      refine for_it (walk_list (xs := ws.map V.int)) (fun i σ' H' => ∃ (x2 : Option V) (xs : List V), σ' = [some (.ref a), some (.ref D), x2] ∧ Same H H' ∧ H' D = some (.lst xs) ∧ RowsAt H' xs (cutL (ws.take i))) ⟨none, [], rfl, s0, upd_same, .nil⟩ (fun i σ' H' _ ⟨_, _, _, s, _⟩ => SqL.of (s _ _ ha)) ?_ ?_
      · rintro i x σ' H2 H3 hi ⟨x2, xs, rfl, s2, eD, rr⟩ ⟨rfl, hx⟩
        obtain ⟨hi2, rfl⟩ := ints_at hx
        have hlen := cut_len _ (ws.take i) rfl
        have hxl := Paired.length rr
        have htl : (ws.take i).length ≤ 12 := by rw [List.length_take]; omega
        rw [← List.take_append_getElem hi2, cut_snoc]
        refine ⟨_, rfl, Nat.zero_le _, fun l0 n0 => ?_⟩
        have s3 := Same.up (o := .lst []) n0
        have eD3 := s3 _ _ eD
        have rr3 := RowsAt.same rr s3
        have s23 := s2.trans s3
        refine ⟨.list ((cutL (ws.take i)).map rowD), .list [], .lst (SqL.of eD3) (rowsD_dp rr3), .lst (SqL.of upd_same) .nil, rowsD_shaped _, rfl, _, rfl, ?_⟩
        rw [show PyData.eqv (.list ((cutL (ws.take i)).map rowD)) (.list []) = decide (cutL (ws.take i) = []) from rowsL_eqv _ []]
        generalize upd H3 l0 (.lst []) = G3 at s3 eD3 rr3 s23
        have new : (cutL (ws.take i) = [] ∨ ws[i] < lastI (lastL (cutL (ws.take i)))) → ∀ (c : Addr) (G : Hp), Same G3 G → G c = some (.tup [V.int ws[i]]) → ∃ acc, G D = some (.lst acc) ∧ acc.length < sizeLine ∧
            ∃ (x2 : Option V) (xs : List V), [some (V.ref a), some (V.ref D), some (V.int ws[i])] = [some (V.ref a), some (V.ref D), x2] ∧ Same H (upd G D (.lst (acc ++ [V.ref c]))) ∧ upd G D (.lst (acc ++ [V.ref c])) D = some (.lst xs) ∧ RowsAt (upd G D (.lst (acc ++ [V.ref c]))) xs (stepC (cutL (ws.take i)) ws[i]) := fun hc c G s ec => by
          refine ⟨xs, s _ _ eD3, by rw [hxl, sizeLine_eq]; omega, _, _, rfl, fun b o e => ?_, upd_same, ?_⟩
          · rw [upd_ne (ne_of_none e nD)]
            exact s _ _ (s23 _ _ e)
          · unfold stepC
            rw [if_pos hc]
            exact RowsAt.put (s _ _ eD3) (RowsAt.push ⟨c, rfl, ec⟩ (RowsAt.same rr3 s))
        by_cases hn : cutL (ws.take i) = []
        · rw [decide_eq_true hn]
          refine iteT (iteT ?_)
          refine ⟨_, rfl, .inl ⟨rfl, _, SqL.of eD3⟩, _, rfl, by show 1 ≤ sizeLine; decide, fun c nc => ?_⟩
          obtain ⟨acc, a1, a2, a3⟩ := new (.inl hn) c _ (Same.up nc) upd_same
          exact ⟨D, _, _, rfl, rfl, a1, a2, a3⟩
        · obtain ⟨hxp, t, e1, et⟩ := rows_last rr3 hn
          have hlp := (hlen.2 _ (lastL_mem hn)).2
          rw [decide_eq_false hn]
          refine iteF ?_
          refine ⟨_, rfl, _, rfl, _, rfl, D, _, _, _, rfl, rfl, SqL.of eD3, at_last hxp, _, rfl, t, _, _, _, e1, rfl, SqT.of et, lastI_at hlp, _, _, rfl, rfl, _, rfl, ?_⟩
          by_cases hc : ws[i] < lastI (lastL (cutL (ws.take i)))
          · rw [decide_eq_true hc]
            refine iteT ?_
            refine ⟨_, rfl, .inl ⟨rfl, _, SqL.of eD3⟩, _, rfl, by show 1 ≤ sizeLine; decide, fun c nc => ?_⟩
            obtain ⟨acc, a1, a2, a3⟩ := new (.inr hc) c _ (Same.up nc) upd_same
            exact ⟨D, _, _, rfl, rfl, a1, a2, a3⟩
          · rw [decide_eq_false hc]
            refine iteF ?_
            refine ⟨_, rfl, _, rfl, D, _, _, _, rfl, rfl, SqL.of eD3, at_last hxp, _, rfl, by show 1 ≤ sizeLine; decide, fun u nu => ?_⟩
            have su := Same.up (o := .tup [V.int ws[i]]) nu
            have hll := (hlen.2 _ (lastL_mem hn)).1
            refine ⟨t, u, _, _, e1, rfl, SqT.of (su _ _ et), SqT.of upd_same, Nat.le_of_lt (small1000 (by rw [List.length_map, List.length_singleton]; omega)), fun hz => absurd (List.map_eq_nil_iff.mp hz) hlp, fun _ y => (nomatch y), fun _ _ c nc => ?_⟩
            have sG := su.trans (Same.up (o := .tup ((lastL (cutL (ws.take i))).map V.int ++ [V.int ws[i]])) nc)
            have ec := upd_same (H := upd G3 u (.tup [V.int ws[i]])) (a := c) (o := .tup ((lastL (cutL (ws.take i))).map V.int ++ [V.int ws[i]]))
            rw [map_one] at ec sG ⊢
            refine ⟨_, rfl, _, rfl, D, xs, -1, xs.length - 1, rfl, rfl, sG _ _ eD3, ?_, _, _, rfl, fun b o e => ?_, upd_same, ?_⟩
            · unfold ixN
              rw [if_neg (by decide), if_pos (by omega)]
              congr 1
              omega
            · rw [upd_ne (ne_of_none e nD)]
              exact sG _ _ (s23 _ _ e)
            · unfold stepC
              rw [if_neg (fun z => by rcases z with z | z; exact hn z; exact hc z)]
              exact grow_last rr3 hn eD3 sG ec
      · rintro σ' H2 ⟨x2, xs, rfl, s2, eD, rr⟩
        rw [List.length_map, List.take_length] at rr
        exact ⟨x2, xs, rfl, s2, eD, rr⟩
    · rintro σ' H2 ⟨x2, xs, rfl, s2, eD, rr⟩
      exact ⟨_, rfl, q _ D xs s2 nD eD rr⟩
def spLcutT : Sp := fun vs H Q _ => ∃ (a : Addr) (ws : List Int), vs = [.ref a] ∧ H a = some (.tup (ws.map V.int)) ∧ ws.length ≤ 12 ∧ ∀ (H' : Hp) (q : Addr) (xs : List V), Same H H' → H q = none → H' q = some (.lst xs) → RowsAt H' xs (cutL ws) → Q (.ref q) H'
theorem ok_lcutT (T : Tx K mg A) : FnOk P w K mg base CX0 1 A.f__law_cut A.d__law_cut ["written"] spLcutT := by
  refine T.F__law_cut.ok sc__law_cut (fun vs H Q E h => ?_) (fun cdv B outer s H vs Q E hr h => ?_)
  · obtain ⟨a, ws, rfl, _⟩ := h
    rfl
  · obtain ⟨a, ws, rfl, ha, h12, q⟩ := h
    have nd := sc__law_cut.nd
    have hu := hr.units
    refine ⟨_, (pss_cons (ps_set (i := 1) nd rfl (Or.inl rfl) (pe_lst pa_nil))
      (C8.pss_cut (ps_for PassesOwn.never rfl (pi_tup (pv 0)) (pg_name (i := 2) nd rfl (Or.inl rfl)) (pss_one (ps_if (PW.pt (pw_or (pt_cmpR (op_eqD hu) (pv 1) (pe_lst pa_nil) (nomark _)) (pw_or1 (pt_cmpR op_lt (pv 2) (pe_ix (r := rIxT K) ix_tup (pe_ix (r := rIxL K) ix_list (pv 1) (pe_un un_neg pe_int) (fun _ _ => rfl)) (pe_un un_neg pe_int) (fun _ _ => rfl)) (nomark _))))) (pss_one (ps_expr (pe_bm PySem.F.plainAttrs_list PySem.F.slot_list_append PySem.F.type_list_append mt_append (pv 1) (pa_cons (pe_tup (pa_cons (pv 2) pa_nil)) pa_nil)))) (pss_one (ps_asg (pe_op (r := rCatA K) op_catA (pe_ix (r := rIxL K) ix_list (pv 1) (pe_un un_neg pe_int) (fun _ _ => rfl)) (pe_tup (pa_cons (pv 2) pa_nil))) (pg_sub (pv 1) (pe_un un_neg pe_int) set_list))))))
      (pss_one (ps_ret (pv 1))))), ?_⟩
    refine ⟨Nat.zero_le _, fun D nD => ?_⟩
    have s0 := Same.up (o := .lst []) nD
    refine ⟨fun σ' H' => ∃ (x2 : Option V) (xs : List V), σ' = [some (.ref a), some (.ref D), x2] ∧ Same H H' ∧ H' D = some (.lst xs) ∧ RowsAt H' xs (cutL ws), ?_, ?_⟩
    · refine ⟨_, rfl, a, rfl, ⟨_, SqT.of (s0 _ _ ha)⟩, ?_⟩
      refine for_it (walk_tup (xs := ws.map V.int)) (fun i σ' H' => ∃ (x2 : Option V) (xs : List V), σ' = [some (.ref a), some (.ref D), x2] ∧ Same H H' ∧ H' D = some (.lst xs) ∧ RowsAt H' xs (cutL (ws.take i))) ⟨none, [], rfl, s0, upd_same, .nil⟩ (fun i σ' H' _ ⟨_, _, _, s, _⟩ => SqT.of (s _ _ ha)) ?_ ?_
      · rintro i x σ' H2 H3 hi ⟨x2, xs, rfl, s2, eD, rr⟩ ⟨rfl, hx⟩
        obtain ⟨hi2, rfl⟩ := ints_at hx
        have hlen := cut_len _ (ws.take i) rfl
        have hxl := Paired.length rr
        have htl : (ws.take i).length ≤ 12 := by rw [List.length_take]; omega
        rw [← List.take_append_getElem hi2, cut_snoc]
        refine ⟨_, rfl, Nat.zero_le _, fun l0 n0 => ?_⟩
        have s3 := Same.up (o := .lst []) n0
        have eD3 := s3 _ _ eD
        have rr3 := RowsAt.same rr s3
        have s23 := s2.trans s3
        refine ⟨.list ((cutL (ws.take i)).map rowD), .list [], .lst (SqL.of eD3) (rowsD_dp rr3), .lst (SqL.of upd_same) .nil, rowsD_shaped _, rfl, _, rfl, ?_⟩
        rw [show PyData.eqv (.list ((cutL (ws.take i)).map rowD)) (.list []) = decide (cutL (ws.take i) = []) from rowsL_eqv _ []]
        generalize upd H3 l0 (.lst []) = G3 at s3 eD3 rr3 s23
        have new : (cutL (ws.take i) = [] ∨ ws[i] < lastI (lastL (cutL (ws.take i)))) → ∀ (c : Addr) (G : Hp), Same G3 G → G c = some (.tup [V.int ws[i]]) → ∃ acc, G D = some (.lst acc) ∧ acc.length < sizeLine ∧
            ∃ (x2 : Option V) (xs : List V), [some (V.ref a), some (V.ref D), some (V.int ws[i])] = [some (V.ref a), some (V.ref D), x2] ∧ Same H (upd G D (.lst (acc ++ [V.ref c]))) ∧ upd G D (.lst (acc ++ [V.ref c])) D = some (.lst xs) ∧ RowsAt (upd G D (.lst (acc ++ [V.ref c]))) xs (stepC (cutL (ws.take i)) ws[i]) := fun hc c G s ec => by
          refine ⟨xs, s _ _ eD3, by rw [hxl, sizeLine_eq]; omega, _, _, rfl, fun b o e => ?_, upd_same, ?_⟩
          · rw [upd_ne (ne_of_none e nD)]
            exact s _ _ (s23 _ _ e)
          · unfold stepC
            rw [if_pos hc]
            exact RowsAt.put (s _ _ eD3) (RowsAt.push ⟨c, rfl, ec⟩ (RowsAt.same rr3 s))
        by_cases hn : cutL (ws.take i) = []
        · rw [decide_eq_true hn]
          refine iteT (iteT ?_)
          refine ⟨_, rfl, .inl ⟨rfl, _, SqL.of eD3⟩, _, rfl, by show 1 ≤ sizeLine; decide, fun c nc => ?_⟩
          obtain ⟨acc, a1, a2, a3⟩ := new (.inl hn) c _ (Same.up nc) upd_same
          exact ⟨D, _, _, rfl, rfl, a1, a2, a3⟩
        · obtain ⟨hxp, t, e1, et⟩ := rows_last rr3 hn
          have hlp := (hlen.2 _ (lastL_mem hn)).2
          rw [decide_eq_false hn]
          refine iteF ?_
          refine ⟨_, rfl, _, rfl, _, rfl, D, _, _, _, rfl, rfl, SqL.of eD3, at_last hxp, _, rfl, t, _, _, _, e1, rfl, SqT.of et, lastI_at hlp, _, _, rfl, rfl, _, rfl, ?_⟩
          by_cases hc : ws[i] < lastI (lastL (cutL (ws.take i)))
          · rw [decide_eq_true hc]
            refine iteT ?_
            refine ⟨_, rfl, .inl ⟨rfl, _, SqL.of eD3⟩, _, rfl, by show 1 ≤ sizeLine; decide, fun c nc => ?_⟩
            obtain ⟨acc, a1, a2, a3⟩ := new (.inr hc) c _ (Same.up nc) upd_same
            exact ⟨D, _, _, rfl, rfl, a1, a2, a3⟩
          · rw [decide_eq_false hc]
            refine iteF ?_
            refine ⟨_, rfl, _, rfl, D, _, _, _, rfl, rfl, SqL.of eD3, at_last hxp, _, rfl, by show 1 ≤ sizeLine; decide, fun u nu => ?_⟩
            have su := Same.up (o := .tup [V.int ws[i]]) nu
            have hll := (hlen.2 _ (lastL_mem hn)).1
            refine ⟨t, u, _, _, e1, rfl, SqT.of (su _ _ et), SqT.of upd_same, Nat.le_of_lt (small1000 (by rw [List.length_map, List.length_singleton]; omega)), fun hz => absurd (List.map_eq_nil_iff.mp hz) hlp, fun _ y => (nomatch y), fun _ _ c nc => ?_⟩
            have sG := su.trans (Same.up (o := .tup ((lastL (cutL (ws.take i))).map V.int ++ [V.int ws[i]])) nc)
            have ec := upd_same (H := upd G3 u (.tup [V.int ws[i]])) (a := c) (o := .tup ((lastL (cutL (ws.take i))).map V.int ++ [V.int ws[i]]))
            rw [map_one] at ec sG ⊢
            refine ⟨_, rfl, _, rfl, D, xs, -1, xs.length - 1, rfl, rfl, sG _ _ eD3, ?_, _, _, rfl, fun b o e => ?_, upd_same, ?_⟩
            · unfold ixN
              rw [if_neg (by decide), if_pos (by omega)]
              congr 1
              omega
            · rw [upd_ne (ne_of_none e nD)]
              exact sG _ _ (s23 _ _ e)
            · unfold stepC
              rw [if_neg (fun z => by rcases z with z | z; exact hn z; exact hc z)]
              exact grow_last rr3 hn eD3 sG ec
      · rintro σ' H2 ⟨x2, xs, rfl, s2, eD, rr⟩
        rw [List.length_map, List.take_length] at rr
        exact ⟨x2, xs, rfl, s2, eD, rr⟩
    · rintro σ' H2 ⟨x2, xs, rfl, s2, eD, rr⟩
      exact ⟨_, rfl, q _ D xs s2 nD eD rr⟩
end
end Tw

set_option Elab.async false
set_option linter.all false
set_option maxRecDepth 100000
set_option maxHeartbeats 2000000
namespace Tw
open PySem PySem.Spec PyProof.Rows L2
section
variable {P : Program} {w : World} {K : PySem.W.Frag} {mg : Str → Option Value} {base : Heap} {A : Ad}
open LamX (ExtN Tabs TabS)
theorem ok_lcB (T : Tx K mg A) : FnOk P w K mg base CX0 1 A.f__law_cut A.d__law_cut ["written"] (fun vs H Q E => spLcut vs H Q E ∨ spLcutT vs H Q E) := (ok_lcut T).or (ok_lcutT T)
theorem runs_cut : ∀ (n : Nat) (w : List Int), w.length = n → w.Nodup → cutL w = runsL w
  | 0, w, h, _ => by
    rw [List.length_eq_zero_iff.mp h]
    rfl
  | n + 1, w, h, hd => by
    obtain ⟨v, k, rfl, hv⟩ := snoc_of h
    have hd2 := List.nodup_append.mp hd
    rw [runs_snoc, cut_snoc, runs_cut n v hv hd2.1]
    unfold stepR stepC
    by_cases e : v = []
    · subst e
      rfl
    · have hl := runs_last n v hv e
      have hne : lastI v ≠ k := by
        have hm : lastI v ∈ v := by
          unfold lastI
          rw [List.getLastD_eq_getLast?, List.getLast?_eq_some_getLast e]
          exact List.getLast_mem e
        exact hd2.2.2 _ hm _ (List.mem_singleton_self k)
      rw [hl.2]
      by_cases c : lastI v < k
      · rw [if_neg (fun z => by rcases z with z | z; exact hl.1 z; omega), if_pos ⟨hl.1, c⟩]
      · rw [if_pos (Or.inr (by omega)), if_neg (fun z => c z.2)]
theorem tupK {K : PySem.W.Frag} {H : Hp} {t : Addr} {xs : List V} {Q : VK} (h : Sq H t xs) (q : ∀ (H' : Hp) (p : Addr), Same H H' → H' p = some (.tup xs) → Q (.ref p) H') : rTupK K [.ref t] H Q := by
  rcases h with h | h
  · exact ⟨t, xs, rfl, .inl ⟨SqL.of h, fun l nl => q _ l (Same.up nl) upd_same⟩⟩
  · exact ⟨t, xs, rfl, .inr ⟨SqT.of h, q _ t (Same.refl _) h⟩⟩
end
end Tw

set_option Elab.async false
set_option linter.all false
set_option maxRecDepth 100000
set_option maxHeartbeats 2000000
namespace Tw
open PySem PySem.Spec PyProof.Rows L2
section
variable {P : Program} {w : World} {K : PySem.W.Frag} {mg : Str → Option Value} {base : Heap} {A : Ad}
open LamX (ExtN Tabs TabS)
/-! the law: ok_num ok_lwr ok_lle ok_lal ok_liw ok_lru ok_liB ok_jr ok_cshB ok_eshB ok_lcB ok_eC ok_eE AtC AtE JrAt AtC.same AtE.same ruL ruL_len ruL_keys rho_top write_perm write_len runs_cut runs_nil every_perm every_law KeysIn new_same Paired.length walk_tup walk_list neInt eqInt tupK fdE_levels fdC_written setI dI_put dI_new dI_val dI_ints lev_mem lvB ints_eqv ints_tup ints_shT -/
def spLaw (K : PySem.W.Frag) : Sp := fun vs H Q _ => ∃ (a : Addr) (ns : List Int), vs = [.ref a] ∧ SqL K H a (ns.map V.int) ∧ ns.length ≤ 63 ∧ ∀ H', Q (.bl true) H'
theorem fdE_no (v0 : V) : (fdE v0).lookup ("shows" : Str) = none := by
  unfold fdE
  rw [lookup_putF, if_neg (by decide +kernel)]
  rfl
theorem fdC_no (v0 : V) : (fdC v0).lookup ("shows" : Str) = none := by
  unfold fdC
  rw [lookup_putF, if_neg (by decide +kernel)]
  rfl
theorem dI_vals (l : List (Int × Int)) : (dI l).map (·.2) = (l.map (·.2)).map V.int := by
  unfold dI
  rw [List.map_map, List.map_map]
  rfl
theorem runs_posW {r : Nat} {ks : List Int} (h : 1 ≤ ks.length) : 1 ≤ (runsL (writeL r ks)).length := by
  refine List.length_pos_iff.mpr (runs_nil fun z => ?_)
  have := congrArg List.length z
  rw [write_len, List.length_nil] at this
  omega
theorem ru_max {W : List Int} {n : Nat} {m : Int} (hd : W.Nodup) (hn : W.length = n) (h1 : 1 ≤ n) (hm : m ∈ (ruL W n).map (·.2)) (hge : ∀ y, y ∈ (ruL W n).map (·.2) → y ≤ m) : m = ((runsL W).length : Nat) := by
  obtain ⟨p, hp, rfl⟩ := List.mem_map.mp hm
  unfold ruL at hp
  obtain ⟨j, hj, rfl⟩ := List.mem_map.mp hp
  have hj := List.mem_range.mp hj
  have t := (rho_top hd (show j < W.length by omega)).1
  have z := hge ((rhoP W (n - 1) : Nat) : Int) (List.mem_map.mpr ⟨(W.getD (n - 1) 0, ((rhoP W (n - 1) : Nat) : Int)), by unfold ruL; exact List.mem_map.mpr ⟨n - 1, List.mem_range.mpr (by omega), rfl⟩, rfl⟩)
  have e : rhoP W (n - 1) = (runsL W).length := by
    unfold rhoP
    rw [List.take_of_length_le (by omega)]
  rw [e] at z
  have z : ((runsL W).length : Int) ≤ ((rhoP W j : Nat) : Int) := z
  show ((rhoP W j : Nat) : Int) = _
  omega
def spIE2 (C : Addr) : Sp := fun vs H Q _ => ∃ (p dx a0 : Nat) (x0 : Dq.KVs), vs = [.ref p, .ref a0] ∧ H p = some (.ins C dx []) ∧ H a0 = some (.dK x0) ∧ ∀ (H' : Hp) (t0 : Addr), (∀ b o, H b = some o → b ≠ p → H' b = some o) → H t0 = none → H' p = some (.ins C dx (fdE (.ref t0))) → H' t0 = some (.dK x0) → Q .non H'
theorem ok_iE2 (T : Tx K mg A) : FnOk P w K mg base CX0 1 A.f_e___init__ A.d_e___init__ ["self", "levels"] (spIE2 A.CE) := by
  refine T.F_e___init__.ok sc_e___init__ (fun vs H Q E h => ?_) (fun cdv B outer s H vs Q E hr h => ?_)
  · obtain ⟨p, dx, a0, x0, rfl, _⟩ := h
    rfl
  · obtain ⟨p, dx, a0, x0, rfl, hp, ha0, q⟩ := h
    refine ⟨_, (pss_one (ps_fld (pv 0) (pe_callTy call_dictD (by rfl) T.g_dict (by decide +kernel) (pa_cons (pv 1) pa_nil)) rfl)), ?_⟩
    have fr : ∀ b o, H b = some o → b ≠ p → H b = some o := fun b o e _ => e
    refine ⟨_, rfl, a0, x0, rfl, .inl ha0, fun t0 nt0 => ?_⟩
    have s0 := Same.up (o := .dK x0) nt0
    have e0 : upd H t0 (.dK x0) t0 = some (.dK x0) := upd_same
    generalize upd H t0 (.dK x0) = G0 at s0 e0
    have hp := s0 _ _ hp
    have fr : ∀ b o, H b = some o → b ≠ p → G0 b = some o := fun b o e n => s0 _ _ (fr b o e n)
    refine ⟨_, rfl, p, A.CE, dx, _, rfl, hp, T.cTE, T.eLevels, (by show 0 < 1000; decide), ?_⟩
    have fr : ∀ b o, H b = some o → b ≠ p → (upd G0 p (.ins A.CE dx (putF "levels" (.ref t0) ([])))) b = some o := fun b o e n => by rw [upd_ne n]; exact fr b o e n
    have e0 : (upd G0 p (.ins A.CE dx (putF "levels" (.ref t0) ([])))) t0 = _ := (upd_ne (ne_of e0 hp (by intro z; cases z))).trans e0
    have hp : (upd G0 p (.ins A.CE dx (putF "levels" (.ref t0) ([])))) p = _ := upd_same
    exact q _ t0 fr nt0 hp e0
theorem ok_law (T : Tx K mg A) : FnOk P w K mg base CX0 11 A.f_law A.d_law ["script"] (spLaw K) := by
  refine T.F_law.ok sc_law (fun vs H Q E h => ?_) (fun cdv B outer s H vs Q E hr h => ?_)
  · obtain ⟨a, ns, rfl, _⟩ := h
    rfl
  · obtain ⟨a, ns, rfl, ha, h63, q⟩ := h
    have nd := sc_law.nd
    have hu : (B.deeper (envOfC "law" (defScope s_law) s.heap.objs.size A.f_law cdv)).units + 64 < cLine := by have := hr.un; omega
    have hd1 : (B.deeper (envOfC "law" (defScope s_law) s.heap.objs.size A.f_law cdv)).units + 1 < cLine := by have := hr.un; omega
    refine ⟨_, PSs.nox (C8.pss_cut (ps_set (i := 1) nd rfl (Or.inl rfl) (pe_callTy call_int1 (by rfl) T.g_int (by decide +kernel) (pa_cons (pe_call (ok_num T) (hr.mono (by decide)) (by rfl) T.m__law_number T.F__law_number.kp (b_num T) .nil pass0 (pa_cons (pv 0) (pa_cons pe_int pa_nil))) pa_nil)))
      (C8.pss_cut (ps_par (i := 2) (j := 3) rfl nd rfl rfl (by decide) rfl rfl (pa_cons (pe_op op_add pe_int (pe_op op_mod (pe_callTy call_int1 (by rfl) T.g_int (by decide +kernel) (pa_cons (pv 1) pa_nil)) pe_int)) (pa_cons (pe_call (ok_liB T) (hr.mono (by decide)) (by rfl) T.m__law_input T.F__law_input.kp (b_liB T) .nil pass0 (pa_cons (pv 0) (pa_cons pe_int (pa_cons (pe_op op_add pe_int (pe_op op_mod (pe_callTy call_int1 (by rfl) T.g_int (by decide +kernel) (pa_cons (pe_op op_fdiv (pv 1) pe_int) pa_nil)) pe_int)) pa_nil)))) pa_nil)) rfl)
      (C8.pss_cut (ps_set (i := 4) nd rfl (Or.inl rfl) (pe_callB (r := rMax K) (cr_max rfl) (by rfl) T.g_max (by decide +kernel) (pa_cons (pe_listVals rfl (by rfl) T.g_list (pe_call (ok_lru T) (hr.mono (by decide)) (by rfl) T.m__law_runs T.F__law_runs.kp (b_lru T) .nil pass0 (pa_cons (pv 2) (pa_cons (pv 3) pa_nil)))) pa_nil)))
      (C8.pss_cut (ps_set (i := 5) nd rfl (Or.inl rfl) (pe_call (ok_jr T) (hr.mono (by decide)) (by rfl) T.m_judge_runs T.F_judge_runs.kp (b_jr T) .nil pass0 (pa_cons (pv 2) (pa_cons (pv 3) (pa_cons (pv 4) pa_nil)))))
      (C8.pss_cut (ps_for PassesOwn.never rfl (pi_tup (pe_tup (pa_cons pe_int (pa_cons (pe_op op_sub (pv 4) pe_int) (pa_cons (pv 4) (pa_cons (pe_op op_add (pv 4) pe_int) pa_nil)))))) (pg_name (i := 6) nd rfl (Or.inl rfl)) (C8.pss_cut (ps_for PassesOwn.never rfl (pi_list (pe_call (ok_lle T) (hr.mono (by decide)) (by rfl) T.m__law_levels T.F__law_levels.kp (b_lle T) .nil pass0 (pa_cons (pv 0) (pa_cons (pv 2) (pa_cons (pv 3) pa_nil))))) (pg_name (i := 7) nd rfl (Or.inl rfl)) (pss_one (ps_if (pt_cmpR op_ne (pe_meth (pe_make T.mkCE (ok_iE T) (hr.mono (by decide)) (by rfl) T.mCE (b_iE T) .nil pass0 (pa_cons (pv 7) pa_nil)) T.cTE T.M_e_shows (ok_eshB T) (hr.mono (by decide)) (b_eshB T) .nil pass0 (pa_cons (pv 2) (pa_cons (pv 3) (pa_cons (pv 6) pa_nil)))) (pe_call (ok_lal T) (hr.mono (by decide)) (by rfl) T.m__law_are_levels T.F__law_are_levels.kp (b_lal T) .nil pass0 (pa_cons (pv 2) (pa_cons (pv 3) (pa_cons (pv 6) (pa_cons (pv 7) pa_nil))))) (nomark _)) (pss_one (ps_ret pe_bl)) pss_nil)))
      (pss_one (ps_for PassesOwn.never rfl (pi_list (pe_call (ok_lwr T) (hr.mono (by decide)) (by rfl) T.m__law_written T.F__law_written.kp (b_lwr T) .nil pass0 (pa_cons (pv 0) (pa_cons (pv 3) (pa_cons (pe_fld (pv 5) rfl) pa_nil))))) (pg_name (i := 8) nd rfl (Or.inl rfl)) (C8.pss_cut (ps_set (i := 9) nd rfl (Or.inl rfl) (pe_and (pe_call (ok_liw T) (hr.mono (by decide)) (by rfl) T.m__law_is_way T.F__law_is_way.kp (b_liw T) .nil pass0 (pa_cons (pv 2) (pa_cons (pv 3) (pa_cons (pv 8) pa_nil)))) (pe_one (pe_cmpR op_le (pe_callB (r := rLn K) call_len_seq (by rfl) T.g_len PySem.boot_len (pa_cons (pe_call (ok_lcB T) (hr.mono (by decide)) (by rfl) T.m__law_cut T.F__law_cut.kp (b_lcB T) .nil pass0 (pa_cons (pv 8) pa_nil)) pa_nil)) (pv 6) (nomark _)))))
      (pss_one (ps_for PassesOwn.never rfl (pi_tup (pe_tup (pa_cons (pv 8) (pa_cons (pe_callTy (r := rTupK K) call_tupleK (by rfl) T.g_tuple (by decide +kernel) (pa_cons (pv 8) pa_nil)) pa_nil)))) (pg_name (i := 10) nd rfl (Or.inl rfl)) (pss_one (ps_if (pt_cmpR op_ne (pe_meth (pe_make T.mkCC (ok_iC T) (hr.mono (by decide)) (by rfl) T.mCC (b_iC T) .nil pass0 (pa_cons (pv 10) pa_nil)) T.cTC T.M_c_shows (ok_cshB T) (hr.mono (by decide)) (b_cshB T) .nil pass0 (pa_cons (pv 2) (pa_cons (pv 3) (pa_cons (pv 6) pa_nil)))) (pv 9) (nomark _)) (pss_one (ps_ret pe_bl)) pss_nil)))))))))
      (C8.pss_cut (ps_par (i := 11) (j := 12) rfl nd rfl rfl (by decide) rfl rfl (pa_cons (pe_call (ok_lru T) (hr.mono (by decide)) (by rfl) T.m__law_runs T.F__law_runs.kp (b_lru T) .nil pass0 (pa_cons (pv 2) (pa_cons (pv 3) pa_nil))) (pa_cons (pe_callTy (r := rListK K) call_listK (by rfl) T.g_list (by decide +kernel) (pa_cons (pv 3) pa_nil)) pa_nil)) rfl)
      (C8.pss_cut (ps_par (i := 13) (j := 14) rfl nd rfl rfl (by decide) rfl rfl (pa_cons (pe_make T.mkCE (ok_iE2 T) (hr.mono (by decide)) (by rfl) T.mCE (b_iE T) .nil pass0 (pa_cons (pv 11) pa_nil)) (pa_cons (pe_make T.mkCC (ok_iC T) (hr.mono (by decide)) (by rfl) T.mCC (b_iC T) .nil pass0 (pa_cons (pv 12) pa_nil)) pa_nil)) rfl)
      (pss_cons (ps_dput hd1 (pv 11) pe_int pe_int rfl)
      (pss_cons (ps_expr (pe_bm PySem.F.plainAttrs_list PySem.F.slot_list_append PySem.F.type_list_append mt_append (pv 12) (pa_cons pe_int pa_nil)))
      (C8.pss_cut (ps_if (PW.pt (pw_or (pt_cmpR (op_ne_own T.eqcE (ok_eE T) (hr.mono (by decide)) (b_eE T) pass0) (pv 13) (pe_make T.mkCE (ok_iE T) (hr.mono (by decide)) (by rfl) T.mCE (b_iE T) .nil pass0 (pa_cons (pe_call (ok_lru T) (hr.mono (by decide)) (by rfl) T.m__law_runs T.F__law_runs.kp (b_lru T) .nil pass0 (pa_cons (pv 2) (pa_cons (pv 3) pa_nil))) pa_nil)) (nomark _)) (pw_or (pt_cmpR (op_eq_own T.eqcE (ok_eE T) (hr.mono (by decide)) (b_eE T) pass0) (pv 13) (pe_make T.mkCE (ok_iE T) (hr.mono (by decide)) (by rfl) T.mCE (b_iE T) .nil pass0 (pa_cons (pv 11) pa_nil)) (nomark _)) (pw_or (pt_cmpR (op_eq_own T.eqcE (ok_eE T) (hr.mono (by decide)) (b_eE T) pass0) (pv 13) pe_int (nomark _)) (pw_or1 (pt_cmpR (op_neD hu) (pe_fld (pv 14) rfl) (pe_callTy (r := rTupK K) call_tupleK (by rfl) T.g_tuple (by decide +kernel) (pa_cons (pv 3) pa_nil)) (nomark _))))))) (pss_one (ps_ret pe_bl)) pss_nil)
      (pss_one (ps_ret (pe_and (pe_cmpR (op_eq_own T.eqcC (ok_eC T) (hr.mono (by decide)) (b_eC T) pass0) (pv 14) (pe_make T.mkCC (ok_iC T) (hr.mono (by decide)) (by rfl) T.mCC (b_iC T) .nil pass0 (pa_cons (pe_callTy (r := rTupK K) call_tupleK (by rfl) T.g_tuple (by decide +kernel) (pa_cons (pv 3) pa_nil)) pa_nil)) (nomark _)) (pe_and (pe_cmpR (op_ne_own T.eqcC (ok_eC T) (hr.mono (by decide)) (b_eC T) pass0) (pv 14) (pe_make T.mkCC (ok_iC T) (hr.mono (by decide)) (by rfl) T.mCC (b_iC T) .nil pass0 (pa_cons (pv 12) pa_nil)) (nomark _)) (pe_and (pe_not (pe_cmpR (op_eq_ownX (K := K) rfl T.eqcC (ok_eC T) (hr.mono (by decide)) (b_eC T) pass0) (pv 14) (pv 13) (nomark _))) (pe_one (pe_not (pe_cmpR (op_eq_own T.eqcC (ok_eC T) (hr.mono (by decide)) (b_eC T) pass0) (pv 14) (pe_callTy (r := rTupK K) call_tupleK (by rfl) T.g_tuple (by decide +kernel) (pa_cons (pv 3) pa_nil)) (nomark _))))))))))))))))))), ?_⟩
    refine ⟨fun σ' H' => ∃ r0 : Int, σ' = [some (.ref a), some (.int r0), none, none, none, none, none, none, none, none, none, none, none, none, none] ∧ Same H H', ?_, ?_⟩
    · exact ⟨_, rfl, a, ns, 0, rfl, ha, h63, by omega, fun H1 r s1 => .inl ⟨_, rfl, r, rfl, s1⟩⟩
    rintro σ' H1 ⟨r0, rfl, s1⟩
    refine ⟨fun σ' H' => ∃ (r g : Nat) (ks : List Int), σ' = [some (.ref a), some (.int r0), some (.int r), some (.ref g), none, none, none, none, none, none, none, none, none, none, none] ∧ Same H H' ∧ (1 ≤ r ∧ r ≤ 12) ∧ H' g = some (.lst (ks.map V.int)) ∧ KeysIn ks ∧ 1 ≤ ks.length ∧ (∀ k ∈ ks, k ≤ 60), ?_, ?_⟩
    · have m0 := Int.emod_nonneg (r0 / 3) (show (7 : Int) ≠ 0 by decide)
      have m1 := Int.emod_lt_of_pos (r0 / 3) (show (0 : Int) < 7 by decide)
      obtain ⟨m, hm⟩ : ∃ m : Nat, 1 + r0 / 3 % 7 = (m : Int) := ⟨(1 + r0 / 3 % 7).toNat, by omega⟩
      have q0 := Int.emod_nonneg r0 (show (3 : Int) ≠ 0 by decide)
      have q1 := Int.emod_lt_of_pos r0 (show (0 : Int) < 3 by decide)
      obtain ⟨r, hr0⟩ : ∃ r : Nat, 1 + r0 % 3 = (r : Int) := ⟨(1 + r0 % 3).toNat, by omega⟩
      refine ⟨_, rfl, .inl ⟨_, rfl, _, _, rfl, rfl, by show (0 : Int) < 3; decide, _, _, rfl, rfl, _, rfl, _, rfl, _, _, rfl, rfl, ⟨by decide, by decide⟩, .inl ⟨_, rfl, _, _, rfl, rfl, by show (0 : Int) < 7; decide, _, _, rfl, rfl, a, m, ns, congrArg (fun z => [V.ref a, V.int 1, V.int z]) hm, LamX.ExtN.sqL (fun b o e _ => s1 b o e) ha, h63, by omega, fun H2 g ks s2 n2 e2 hk hl hb => ?_⟩⟩⟩
      refine ⟨_, _, rfl, r, g, ks, ?_, s1.trans s2, ⟨by omega, by omega⟩, e2, hk, by omega, hb⟩
      show [some (V.ref a), some (V.int r0), some (V.int (1 + r0 % 3)), _, _, _, _, _, _, _, _, _, _, _, _] = _
      rw [hr0]
    rintro σ' H2 ⟨r, g, ks, rfl, s2, hr1, eg, hk, hl1, hb60⟩
    obtain ⟨F, hF⟩ : ∃ F : Nat, F = (runsL (writeL r ks)).length := ⟨_, rfl⟩
    have hF1 : 1 ≤ F := by rw [hF]; exact runs_posW hl1
    have h12 := hk.1
    have wd : (writeL r ks).Nodup := (write_perm hr1.1).nodup_iff.mpr hk.2.2
    refine ⟨fun σ' H' => σ' = [some (.ref a), some (.int r0), some (.int r), some (.ref g), some (.int F), none, none, none, none, none, none, none, none, none, none] ∧ Same H2 H', ?_, ?_⟩
    · refine ⟨_, rfl, _, rfl, r, g, ks, rfl, hr1.1, eg, hk, fun H3 d s3 ed => ⟨d, _, rfl, ed, fun p np => ?_⟩⟩
      rw [dI_vals]
      refine ⟨p, _, rfl, SqL.of upd_same, by rw [List.length_map, ruL_len]; exact hl1, fun m hm hge => ?_⟩
      rw [ru_max wd write_len hl1 hm hge, ← hF]
      exact ⟨rfl, s3.trans (Same.up np)⟩
    rintro σ' H3 ⟨rfl, s3⟩
    have eg3 := s3 _ _ eg
    refine ⟨fun σ' H' => ∃ ev : Addr, σ' = [some (.ref a), some (.int r0), some (.int r), some (.ref g), some (.int F), some (.ref ev), none, none, none, none, none, none, none, none, none] ∧ Same H3 H' ∧ AtC A.CC H' ev (writeL r ks), ?_, ?_⟩
    · refine ⟨_, rfl, _, rfl, _, rfl, r, g, F, ks, rfl, hr1, .inl eg3, hk, fun H4 o s4 at4 => ⟨o, rfl, s4, ?_⟩⟩
      rcases at4 with ⟨_, h⟩ | ⟨h, _⟩
      · exact h
      · omega
    rintro σ' H4 ⟨ev, rfl, s4, at4⟩
    have eg4 := s4 _ _ eg3
    refine ⟨fun σ' H' => ∃ x6 x7 x8 x9 x10 : Option V, σ' = [some (.ref a), some (.int r0), some (.int r), some (.ref g), some (.int F), some (.ref ev), x6, x7, x8, x9, x10, none, none, none, none] ∧ Same H4 H', ?_, ?_⟩
    · refine ⟨_, rfl, _, _, rfl, rfl, _, rfl, _, rfl, _, _, rfl, rfl, by show 4 ≤ sizeLine; decide, fun t nt => ?_⟩
      have s5 := Same.up (o := .tup [V.int 0, V.int ((F : Int) - 1), V.int (F : Int), V.int ((F : Int) + 1)]) nt
      have et : upd H4 t (.tup [V.int 0, V.int ((F : Int) - 1), V.int (F : Int), V.int ((F : Int) + 1)]) t = some (.tup [V.int 0, V.int ((F : Int) - 1), V.int (F : Int), V.int ((F : Int) + 1)]) := upd_same
      refine ⟨t, rfl, ⟨_, SqT.of et⟩, ?_⟩
      refine for_it (walk_tup (xs := [V.int 0, V.int ((F : Int) - 1), V.int (F : Int), V.int ((F : Int) + 1)])) (fun i σ' H' => ∃ x6 x7 x8 x9 x10 : Option V, σ' = [some (.ref a), some (.int r0), some (.int r), some (.ref g), some (.int F), some (.ref ev), x6, x7, x8, x9, x10, none, none, none, none] ∧ Same H4 H' ∧ H' t = some (.tup [V.int 0, V.int ((F : Int) - 1), V.int (F : Int), V.int ((F : Int) + 1)])) ⟨none, none, none, none, none, rfl, s5, et⟩ (fun i σ' H' _ ⟨_, _, _, _, _, _, _, h⟩ => SqT.of h) ?_ (fun σ' H' ⟨x6, x7, x8, x9, x10, e, s, _⟩ => ⟨x6, x7, x8, x9, x10, e, s⟩)
      rintro i y σ' Ho H5 hi ⟨x6, x7, x8, x9, x10, rfl, s5, et5⟩ ⟨rfl, hy⟩
      obtain ⟨n, rfl⟩ : ∃ n : Nat, y = .int n := by
        have hi : i < 4 := hi
        rcases (show i = 0 ∨ i = 1 ∨ i = 2 ∨ i = 3 by omega) with rfl | rfl | rfl | rfl
        · exact ⟨0, (Option.some.inj hy).symm⟩
        · exact ⟨F - 1, (Option.some.inj hy).symm.trans (by congr 1; omega)⟩
        · exact ⟨F, (Option.some.inj hy).symm⟩
        · exact ⟨F + 1, (Option.some.inj hy).symm.trans (by congr 1)⟩
      have eg5 := s5 _ _ eg4
      have sH5 := (s2.trans s3).trans (s4.trans s5)
      refine ⟨fun σ' H' => ∃ x7 : Option V, σ' = [some (.ref a), some (.int r0), some (.int r), some (.ref g), some (.int F), some (.ref ev), some (.int n), x7, x8, x9, x10, none, none, none, none] ∧ Same H5 H', ?_, ?_⟩
      · refine ⟨_, rfl, _, rfl, _, rfl, a, r, g, ns, ks, rfl, LamX.ExtN.sqL (fun b o e _ => sH5 b o e) ha, h63, hr1.1, eg5, hk, hl1, fun H6 q6 xs s6 e6 l6 z6 => ?_⟩
        refine ⟨q6, rfl, ⟨_, SqL.of e6⟩, ?_⟩
        refine for_it (walk_list (xs := xs)) (fun i σ' H' => ∃ x7 : Option V, σ' = [some (.ref a), some (.int r0), some (.int r), some (.ref g), some (.int F), some (.ref ev), some (.int n), x7, x8, x9, x10, none, none, none, none] ∧ Same H6 H') ⟨x7, rfl, Same.refl _⟩ (fun i σ' H' _ ⟨_, _, h⟩ => SqL.of (h _ _ e6)) ?_ (fun σ' H' ⟨x7, e, s⟩ => ⟨x7, e, s6.trans s⟩)
        rintro j y σ' Hp H7 hj ⟨x7, rfl, s7⟩ ⟨rfl, hy⟩
        obtain ⟨d, l, rfl, ed, hnd, h20⟩ := (z6 y (List.mem_of_getElem? hy)).same s7
        have eg7 := s7 _ _ (s6 _ _ eg5)
        refine ⟨_, rfl, fun z dz nz ndz nez => ?_⟩
        have ed8 : (upd (upd H7 dz (.own z)) z (.ins A.CE dz [])) d = some (.dK (dI l)) := by rw [upd_ne (ne_of_none ed nz), upd_ne (ne_of_none ed ndz)]; exact ed
        refine ⟨z, dz, d, dI l, rfl, upd_same, ed8, fun G kG atG => ⟨rfl, ?_⟩⟩
        have sG : Same H7 G := new_same nz ndz kG
        obtain ⟨dy, w0, q0, q1⟩ := id atG
        refine ⟨z, dy, _, rfl, q0, fdE_no _, _, rfl, _, rfl, _, rfl, z, r, g, n, ks, l, rfl, hr1, sG _ _ eg7, hk, atG, hnd, h20, fun G2 sG2 => ?_⟩
        have sG2' := sG.trans sG2
        refine ⟨_, rfl, _, rfl, _, rfl, _, rfl, r, g, n, d, ks, l, rfl, sG2' _ _ eg7, hk, sG2' _ _ ed, hnd, h20, fun G3 sG3 => ⟨rfl, _, rfl, ?_⟩⟩
        exact ite_b (c := false) (by rw [decide_eq_true rfl]; rfl) (iteF ⟨_, rfl, s7.trans (sG2'.trans sG3)⟩)
      rintro σ' H6 ⟨x7, rfl, s6⟩
      have eg6 := s6 _ _ eg5
      have at6 := at4.same (s5.trans s6)
      obtain ⟨dx, t0, ho, e0⟩ := id at6
      refine ⟨_, rfl, _, rfl, _, rfl, ev, A.CC, dx, _, _, rfl, ho, T.cTC, T.cWritten, fdC_written _, a, g, t0, ns, ks, writeL r ks, rfl, LamX.ExtN.sqL (fun b o e _ => (sH5.trans s6) b o e) ha, h63, eg6, hk, hl1, e0, write_len, fun H7 q7 xs s7 e7 l7 z7 => ?_⟩
      refine ⟨q7, rfl, ⟨_, SqL.of e7⟩, ?_⟩
      refine for_it (walk_list (xs := xs)) (fun i σ' H' => ∃ x8 x9 x10 : Option V, σ' = [some (.ref a), some (.int r0), some (.int r), some (.ref g), some (.int F), some (.ref ev), some (.int n), x7, x8, x9, x10, none, none, none, none] ∧ Same H7 H') ⟨x8, x9, x10, rfl, Same.refl _⟩ (fun i σ' H' _ ⟨_, _, _, _, h⟩ => SqL.of (h _ _ e7)) ?_ (fun σ' H' ⟨x8, x9, x10, e, s⟩ => ⟨_, _, _, _, _, e, s5.trans (s6.trans (s7.trans s)), (s6.trans (s7.trans s)) _ _ et5⟩)
      rintro j y σ' Hp H8 hj ⟨x8, x9, x10, rfl, s8⟩ ⟨rfl, hy⟩
      obtain ⟨t, ws, rfl, ew, l13⟩ := (z7 y (List.mem_of_getElem? hy)).same s8
      have eg8 := s8 _ _ (s7 _ _ eg6)
      refine ⟨fun σ' H' => σ' = [some (.ref a), some (.int r0), some (.int r), some (.ref g), some (.int F), some (.ref ev), some (.int n), x7, some (.ref t), some (.bl (decide (ws ∈ everyL r ks) && decide ((runsL ws).length ≤ n))), x10, none, none, none, none] ∧ Same H8 H', ?_, ?_⟩
      · refine ⟨_, rfl, _, rfl, _, rfl, r, g, t, ks, ws, rfl, eg8, hk, ew, fun H9 s9 => ⟨_, rfl, ?_⟩⟩
        by_cases hw : ws ∈ everyL r ks
        · rw [decide_eq_true hw]
          have hp := every_perm hk.2.2 hw
          refine iteT ?_
          refine ⟨_, rfl, .inl ⟨t, ws, rfl, s9 _ _ ew, by rw [hp.length_eq]; exact h12, fun H10 b xs s10 _ eb rb => ?_⟩⟩
          have hx : xs.length = (runsL ws).length := by
            rw [← runs_cut _ ws rfl (hp.nodup_iff.mpr hk.2.2)]
            exact Paired.length rb
          refine ⟨b, _, rfl, .inl (SqL.of eb), _, rfl, _, _, rfl, rfl, ?_⟩
          show [_, _, _, _, _, _, _, _, _, some (V.bl (decide ((xs.length : Int) ≤ (n : Nat)))), _, _, _, _, _] = _ ∧ _
          rw [show decide ((xs.length : Int) ≤ (n : Nat)) = decide ((runsL ws).length ≤ n) from decide_eq_decide.mpr (by omega)]
          exact ⟨rfl, s9.trans s10⟩
        · rw [decide_eq_false hw]
          exact iteF ⟨rfl, s9⟩
      rintro σ' H9 ⟨rfl, s9⟩
      have eg9 := s9 _ _ eg8
      have ew9 := s9 _ _ ew
      refine ⟨_, rfl, _, rfl, t, _, rfl, .inl ⟨SqL.of ew9, fun p np => ?_⟩⟩
      have s10 := Same.up (o := .tup (ws.map V.int)) np
      have ep : upd H9 p (.tup (ws.map V.int)) p = some (.tup (ws.map V.int)) := upd_same
      generalize upd H9 p (.tup (ws.map V.int)) = H10 at s10 ep
      refine ⟨by show 2 ≤ sizeLine; decide, fun u nu => ?_⟩
      have s11 := s10.trans (Same.up (o := .tup [V.ref t, V.ref p]) nu)
      have ep11 := (Same.up (o := .tup [V.ref t, V.ref p]) nu) _ _ ep
      have eu : upd H10 u (.tup [V.ref t, V.ref p]) u = some (.tup [V.ref t, V.ref p]) := upd_same
      generalize upd H10 u (.tup [V.ref t, V.ref p]) = H11 at s11 ep11 eu
      refine ⟨u, rfl, ⟨_, SqT.of eu⟩, ?_⟩
      refine for_it (walk_tup (xs := [V.ref t, V.ref p])) (fun i σ' H' => ∃ x10 : Option V, σ' = [some (.ref a), some (.int r0), some (.int r), some (.ref g), some (.int F), some (.ref ev), some (.int n), x7, some (.ref t), some (.bl (decide (ws ∈ everyL r ks) && decide ((runsL ws).length ≤ n))), x10, none, none, none, none] ∧ Same H11 H') ⟨x10, rfl, Same.refl _⟩ (fun i σ' H' _ ⟨_, _, h⟩ => SqT.of (h _ _ eu)) ?_ (fun σ' H' ⟨x10, e, s⟩ => ⟨_, _, x10, e, s8.trans (s9.trans (s11.trans s))⟩)
      rintro j2 y σ' Hq H12 hj2 ⟨x10, rfl, s12⟩ ⟨rfl, hy2⟩
      obtain ⟨t2, rfl, et2⟩ : ∃ t2 : Addr, y = .ref t2 ∧ (H12 t2 = some (.lst (ws.map V.int)) ∨ H12 t2 = some (.tup (ws.map V.int))) := by
        have hj2 : j2 < 2 := hj2
        rcases (show j2 = 0 ∨ j2 = 1 by omega) with rfl | rfl
        · exact ⟨t, (Option.some.inj hy2).symm, .inl (s12 _ _ (s11 _ _ ew9))⟩
        · exact ⟨p, (Option.some.inj hy2).symm, .inr (s12 _ _ ep11)⟩
      have eg12 := s12 _ _ (s11 _ _ eg9)
      refine ⟨_, rfl, fun z dz nz ndz nez => ?_⟩
      have et2' : upd (upd H12 dz (.own z)) z (.ins A.CC dz []) t2 = some (.lst (ws.map V.int)) ∨ upd (upd H12 dz (.own z)) z (.ins A.CC dz []) t2 = some (.tup (ws.map V.int)) := et2.imp (fun e => by rw [upd_ne (ne_of_none e nz), upd_ne (ne_of_none e ndz)]; exact e) (fun e => by rw [upd_ne (ne_of_none e nz), upd_ne (ne_of_none e ndz)]; exact e)
      refine ⟨z, dz, t2, ws, rfl, upd_same, et2', fun G kG atG => ⟨rfl, ?_⟩⟩
      have sG : Same H12 G := new_same nz ndz kG
      obtain ⟨dy, w0, q0, q1⟩ := id atG
      refine ⟨z, dy, _, rfl, q0, fdC_no _, _, rfl, _, rfl, _, rfl, z, r, g, n, ks, ws, rfl, hr1, .inl (sG _ _ eg12), hk, atG, fun G2 sG2 => ⟨_, rfl, rfl, _, rfl, ?_⟩⟩
      exact ite_b (c := false) (by rw [decide_eq_true rfl]; rfl) (iteF ⟨_, rfl, s12.trans (sG.trans sG2)⟩)
    rintro σ' H5 ⟨x6, x7, x8, x9, x10, rfl, s5⟩
    have sH5 := (s2.trans s3).trans (s4.trans s5)
    have eg5 := s5 _ _ eg4
    obtain ⟨l, hl⟩ : ∃ l, l = ruL (writeL r ks) ks.length := ⟨_, rfl⟩
    have hll : l.length = ks.length := by rw [hl, ruL_len]
    have hlk : l.map (·.1) = writeL r ks := by rw [hl, ruL_keys (by rw [write_len]; exact Nat.le_refl _), List.take_of_length_le (by rw [write_len]; exact Nat.le_refl _)]
    have hln : (l.map (·.1)).Nodup := by rw [hlk]; exact wd
    have h99 : (99 : Int) ∉ l.map (·.1) := fun z => by
      rw [hlk] at z
      have := hb60 _ ((write_perm hr1.1).mem_iff.mp z)
      omega
    refine ⟨fun σ' H' => ∃ d1 p2 : Addr, σ' = [some (.ref a), some (.int r0), some (.int r), some (.ref g), some (.int F), some (.ref ev), x6, x7, x8, x9, x10, some (.ref d1), some (.ref p2), none, none] ∧ p2 ≠ g ∧ H' g = some (.lst (ks.map V.int)) ∧ H' d1 = some (.dK (dI l)) ∧ H' p2 = some (.lst (ks.map V.int)), ?_, ?_⟩
    · refine ⟨_, rfl, _, rfl, r, g, ks, rfl, hr1.1, eg5, hk, fun H6 d s6 ed => ?_⟩
      rw [← hl] at ed
      have eg6 := s6 _ _ eg5
      refine ⟨_, rfl, g, _, rfl, .inl (SqL.of eg6), fun p np => ?_⟩
      have s7 := Same.up (o := .lst (ks.map V.int)) np
      exact ⟨_, _, rfl, d, p, rfl, fun z => (ne_of_none eg6 np) z.symm, s7 _ _ eg6, s7 _ _ ed, upd_same⟩
    rintro σ' H6 ⟨d1, p2, rfl, hpg, eg6, ed6, ep6⟩
    refine ⟨fun σ' H' => ∃ o t0 o2 dx : Addr, σ' = [some (.ref a), some (.int r0), some (.int r), some (.ref g), some (.int F), some (.ref ev), x6, x7, x8, x9, x10, some (.ref d1), some (.ref p2), some (.ref o), some (.ref o2)] ∧ t0 ≠ d1 ∧ H' g = some (.lst (ks.map V.int)) ∧ H' d1 = some (.dK (dI l)) ∧ H' p2 = some (.lst (ks.map V.int)) ∧ H' o = some (.ins A.CE dx (fdE (.ref t0))) ∧ H' t0 = some (.dK (dI l)) ∧ AtC A.CC H' o2 ks, ?_, ?_⟩
    · refine ⟨_, rfl, fun z dz nz ndz nez => ?_⟩
      have ed7 : upd (upd H6 dz (.own z)) z (.ins A.CE dz []) d1 = some (.dK (dI l)) := by rw [upd_ne (ne_of_none ed6 nz), upd_ne (ne_of_none ed6 ndz)]; exact ed6
      refine ⟨z, dz, d1, dI l, rfl, upd_same, ed7, fun G t0 kG nt0 eo et0 => ⟨rfl, ?_⟩⟩
      have sG : Same H6 G := new_same nz ndz kG
      have hne : t0 ≠ d1 := fun e => by rw [e, ed7] at nt0; cases nt0
      have ep7 := sG _ _ ep6
      refine ⟨_, rfl, fun z2 dz2 nz2 ndz2 nez2 => ?_⟩
      have ep8 : upd (upd G dz2 (.own z2)) z2 (.ins A.CC dz2 []) p2 = some (.lst (ks.map V.int)) := by rw [upd_ne (ne_of_none ep7 nz2), upd_ne (ne_of_none ep7 ndz2)]; exact ep7
      refine ⟨z2, dz2, p2, ks, rfl, upd_same, .inl ep8, fun G2 kG2 at2 => ⟨rfl, ?_⟩⟩
      have sG2 : Same G G2 := new_same nz2 ndz2 kG2
      exact ⟨_, _, rfl, z, t0, z2, dz, rfl, hne, sG2 _ _ (sG _ _ eg6), sG2 _ _ (sG _ _ ed6), sG2 _ _ ep7, sG2 _ _ eo, sG2 _ _ et0, at2⟩
    rintro σ' H7 ⟨o, t0, o2, dx, rfl, hne, eg7, ed7, ep7, eo7, et7, at7⟩
    refine ⟨_, rfl, d1, _, rfl, DPut.k (k := .inl 99) ed7 (by rw [dI_len, sizeLine_eq]; omega), ?_⟩
    rw [dI_new h99]
    have k8 : ∀ b x, H7 b = some x → b ≠ d1 → upd H7 d1 (.dK (dI (l ++ [(99, 3)]))) b = some x := fun b x e n => by rw [upd_ne n]; exact e
    have eg8 := k8 _ _ eg7 (ne_of eg7 ed7 (by intro z; cases z))
    have ep8 := k8 _ _ ep7 (ne_of ep7 ed7 (by intro z; cases z))
    have eo8 := k8 _ _ eo7 (ne_of eo7 ed7 (by intro z; cases z))
    have et8 := k8 _ _ et7 hne
    have at8 : AtC A.CC (upd H7 d1 (.dK (dI (l ++ [(99, 3)])))) o2 ks := by
      obtain ⟨dx2, t2, q0, q1⟩ := at7
      exact ⟨dx2, t2, k8 _ _ q0 (ne_of q0 ed7 (by intro z; cases z)), k8 _ _ q1 (ne_of q1 ed7 (by intro z; cases z))⟩
    have ed8 : upd H7 d1 (.dK (dI (l ++ [(99, 3)]))) d1 = some (.dK (dI (l ++ [(99, 3)]))) := upd_same
    generalize upd H7 d1 (.dK (dI (l ++ [(99, 3)]))) = H8 at eg8 ep8 eo8 et8 at8 ed8
    refine ⟨_, rfl, .inl ⟨rfl, _, SqL.of ep8⟩, p2, _, _, rfl, rfl, ep8, by rw [List.length_map, sizeLine_eq]; omega, ?_⟩
    rw [show ks.map V.int ++ [V.int 99] = (ks ++ [99]).map V.int by rw [List.map_append]; rfl]
    have k9 : ∀ b x, H8 b = some x → b ≠ p2 → upd H8 p2 (.lst ((ks ++ [99]).map V.int)) b = some x := fun b x e n => by rw [upd_ne n]; exact e
    have eg9 := k9 _ _ eg8 (fun z => hpg z.symm)
    have eo9 := k9 _ _ eo8 (ne_of eo8 ep8 (by intro z; cases z))
    have et9 := k9 _ _ et8 (ne_of et8 ep8 (by intro z; cases z))
    have ed9 := k9 _ _ ed8 (ne_of ed8 ep8 (by intro z; cases z))
    have at9 : AtC A.CC (upd H8 p2 (.lst ((ks ++ [99]).map V.int))) o2 ks := by
      obtain ⟨dx2, t2, q0, q1⟩ := at8
      exact ⟨dx2, t2, k9 _ _ q0 (ne_of q0 ep8 (by intro z; cases z)), k9 _ _ q1 (ne_of q1 ep8 (by intro z; cases z))⟩
    have ep9 : upd H8 p2 (.lst ((ks ++ [99]).map V.int)) p2 = some (.lst ((ks ++ [99]).map V.int)) := upd_same
    generalize upd H8 p2 (.lst ((ks ++ [99]).map V.int)) = H9 at eg9 eo9 et9 ed9 at9 ep9
    have atM : AtE A.CE H9 o (dI l) := ⟨dx, t0, eo9, et9⟩
    have hsame : decide (Dq.eqDB (dI l) (dI l) = true) = true := decide_eq_true (Dq.eqDB_same fun p hp => by
      obtain ⟨q', hq, rfl⟩ := List.mem_map.mp hp
      show valV (dI l) (.inl q'.1) = some (V.int q'.2)
      rw [dI_val (List.mem_map.mpr ⟨q', hq, rfl⟩), lev_mem hln hq])
    have hdiff : decide (Dq.eqDB (dI l) (dI (l ++ [(99, 3)])) = true) = false := decide_eq_false fun z => by
      unfold Dq.eqDB at z
      rw [decide_eq_false (by rw [dI_len, dI_len, List.length_append]; show ¬ _ = _ + 1; omega), Bool.false_and] at z
      cases z
    refine ⟨fun σ' H' => σ' = [some (.ref a), some (.int r0), some (.int r), some (.ref g), some (.int F), some (.ref ev), x6, x7, x8, x9, x10, some (.ref d1), some (.ref p2), some (.ref o), some (.ref o2)] ∧ Same H9 H', ?_, ?_⟩
    · refine ⟨_, rfl, _, rfl, _, rfl, r, g, ks, rfl, hr1.1, eg9, hk, fun H10 d2 s10 ed2 => fun z dz nz ndz nez => ?_⟩
      rw [← hl] at ed2
      have ed2' : upd (upd H10 dz (.own z)) z (.ins A.CE dz []) d2 = some (.dK (dI l)) := by rw [upd_ne (ne_of_none ed2 nz), upd_ne (ne_of_none ed2 ndz)]; exact ed2
      refine ⟨z, dz, d2, dI l, rfl, upd_same, ed2', fun G kG atG => ⟨rfl, ?_⟩⟩
      have sG := s10.trans (new_same nz ndz kG)
      obtain ⟨dy, w0, q0, q1⟩ := id atG
      refine ⟨o, dx, _, rfl, sG _ _ eo9, .ins q0, o, _, dI l, rfl, atM.same sG, dI_ints l, .inl ⟨z, dI l, rfl, atG, dI_ints l, _, rfl, _, rfl, ?_⟩⟩
      rw [hsame]
      refine iteF ⟨_, rfl, _, rfl, fun z3 dz3 nz3 ndz3 nez3 => ?_⟩
      have edG := sG _ _ ed9
      have ed3' : upd (upd G dz3 (.own z3)) z3 (.ins A.CE dz3 []) d1 = some (.dK (dI (l ++ [(99, 3)]))) := by rw [upd_ne (ne_of_none edG nz3), upd_ne (ne_of_none edG ndz3)]; exact edG
      refine ⟨z3, dz3, d1, _, rfl, upd_same, ed3', fun G3 kG3 at3 => ⟨rfl, ?_⟩⟩
      have sG3 := sG.trans (new_same nz3 ndz3 kG3)
      obtain ⟨dy3, w3, q03, q13⟩ := id at3
      refine ⟨o, dx, _, rfl, sG3 _ _ eo9, .ins q03, o, _, dI l, rfl, atM.same sG3, dI_ints l, .inl ⟨z3, _, rfl, at3, dI_ints _, _, rfl, _, rfl, ?_⟩⟩
      rw [hdiff]
      refine iteF ⟨_, rfl, o, dx, _, rfl, sG3 _ _ eo9, .int 5, o, _, dI l, rfl, atM.same sG3, dI_ints l, .inr ⟨.type "int", .base (.int 5), T.kiE_int, _, rfl, _, rfl, iteF ?_⟩⟩
      obtain ⟨dx2, t2, c0, c1⟩ := id (at9.same sG3)
      refine ⟨_, rfl, o2, A.CC, dx2, _, _, rfl, c0, T.cTC, T.cWritten, fdC_written _, _, rfl, g, _, rfl, .inl ⟨SqL.of (sG3 _ _ eg9), fun p np => ?_⟩⟩
      have s13 := Same.up (o := .tup (ks.map V.int)) np
      refine ⟨_, _, ints_tup K (s13 _ _ c1), ints_tup K upd_same, ints_shT _, ints_shT _, _, rfl, ?_⟩
      rw [ints_eqv, decide_eq_true rfl]
      exact iteF ⟨rfl, sG3.trans s13⟩
    rintro σ' H10 ⟨rfl, s10⟩
    have eg10 := s10 _ _ eg9
    have ep10 := s10 _ _ ep9
    have at10 := at9.same s10
    have atM10 := atM.same s10
    obtain ⟨dx2, t2, c0, c1⟩ := id at10
    refine ⟨_, rfl, _, rfl, g, _, rfl, .inl ⟨SqL.of eg10, fun p np => fun z dz nz ndz nez => ?_⟩⟩
    have s11 := Same.up (o := .tup (ks.map V.int)) np
    have ep11 : upd H10 p (.tup (ks.map V.int)) p = some (.tup (ks.map V.int)) := upd_same
    generalize upd H10 p (.tup (ks.map V.int)) = H11 at s11 ep11 nz ndz
    have ep11' : upd (upd H11 dz (.own z)) z (.ins A.CC dz []) p = some (.tup (ks.map V.int)) := by rw [upd_ne (ne_of_none ep11 nz), upd_ne (ne_of_none ep11 ndz)]; exact ep11
    refine ⟨z, dz, p, ks, rfl, upd_same, .inr ep11', fun G kG atG => ⟨rfl, ?_⟩⟩
    have sG := s11.trans (new_same nz ndz kG)
    obtain ⟨dy, w0, q0, q1⟩ := id atG
    refine ⟨o2, dx2, _, rfl, sG _ _ c0, .ins q0, o2, _, ks, rfl, at10.same sG, .inl ⟨z, ks, rfl, atG, _, rfl, ?_⟩⟩
    rw [decide_eq_true rfl]
    refine ⟨true, rfl, iteT ⟨_, rfl, _, rfl, fun z3 dz3 nz3 ndz3 nez3 => ?_⟩⟩
    have epG := sG _ _ ep10
    have ep3' : upd (upd G dz3 (.own z3)) z3 (.ins A.CC dz3 []) p2 = some (.lst ((ks ++ [99]).map V.int)) := by rw [upd_ne (ne_of_none epG nz3), upd_ne (ne_of_none epG ndz3)]; exact epG
    refine ⟨z3, dz3, p2, ks ++ [99], rfl, upd_same, .inl ep3', fun G3 kG3 at3 => ⟨rfl, ?_⟩⟩
    have sG3 := sG.trans (new_same nz3 ndz3 kG3)
    obtain ⟨dy3, w3, q03, q13⟩ := id at3
    refine ⟨o2, dx2, _, rfl, sG3 _ _ c0, .ins q03, o2, _, ks, rfl, at10.same sG3, .inl ⟨z3, ks ++ [99], rfl, at3, _, rfl, ?_⟩⟩
    rw [decide_eq_false (fun e : ks = ks ++ [99] => by
      have := congrArg List.length e
      rw [List.length_append] at this
      have this : ks.length = ks.length + 1 := this
      omega)]
    refine ⟨true, rfl, iteT ?_⟩
    obtain ⟨dxM, tM, m0, m1⟩ := id (atM10.same sG3)
    refine ⟨_, rfl, _, rfl, o2, dx2, _, o, A.CE, dxM, _, rfl, sG3 _ _ c0, rfl, m0, T.kiC_CE, o2, _, ks, rfl, at10.same sG3, .inr ⟨.ref A.CE, .base (.ins m0 T.cTE T.kaE T.knE T.ktkE T.kmE), T.kiC_CE, _, rfl, _, rfl, true, rfl, iteT ?_⟩⟩
    refine ⟨_, rfl, _, rfl, g, _, rfl, .inl ⟨SqL.of (sG3 _ _ eg10), fun p3 np3 => ?_⟩⟩
    have s14 := sG3.trans (Same.up (o := .tup (ks.map V.int)) np3)
    have ep14 : upd G3 p3 (.tup (ks.map V.int)) p3 = some (.tup (ks.map V.int)) := upd_same
    generalize upd G3 p3 (.tup (ks.map V.int)) = H14 at s14 ep14
    refine ⟨o2, dx2, _, rfl, s14 _ _ c0, .tup ep14, o2, _, ks, rfl, at10.same s14, .inr ⟨.type "tuple", .base (.tup ep14), T.kiC_tuple, _, rfl, ?_⟩⟩
    exact ⟨false, rfl, q _⟩
theorem b_law (T : Tx K mg A) : L2.Binds K A.d_law ["script"] [] := T.F_law.binds fun _ _ _ _ _ _ us hl => match us, hl with | [_], _ => rfl

end
end Tw

set_option Elab.async false
set_option linter.all false
set_option maxRecDepth 100000
set_option maxHeartbeats 2000000
namespace Tw
open PySem PySem.Spec PyProof.Rows L2
theorem kit_no {K : PySem.W.Frag} {C : Addr} {t : String} (hc : PySem.W.isClsIn K C = true) (ht : PySem.W.typeIn K (.ref C) = some (.type "type")) (hs : PySem.W.subIn K (.type t) (.ref C) = some false) : PySem.W.kitOne K (.type t) (.ref C) = some false := by
  unfold PySem.W.kitOne PySem.W.kitCls
  have h1 : (PySem.W.clsIn K C).isSome = true := hc
  simp only [h1, ht, hs, beq_self_eq_true, Bool.and_self, if_true]
  rfl
theorem kit_no2 {K : PySem.W.Frag} {C D : Addr} (hc : PySem.W.isClsIn K C = true) (ht : PySem.W.typeIn K (.ref C) = some (.type "type")) (hs : PySem.W.subIn K (.ref D) (.ref C) = some false) (hn : (D == C) = false) : PySem.W.kitOne K (.ref D) (.ref C) = some false := by
  unfold PySem.W.kitOne PySem.W.kitCls
  have h1 : (PySem.W.clsIn K C).isSome = true := hc
  have h2 : (Value.ref D == Value.ref C) = false := beq_eq_false_iff_ne.mpr fun z => by
    injection z with z
    exact (beq_eq_false_iff_ne.mp hn) z
  rw [h2, if_neg Bool.false_ne_true]
  simp only [h1, ht, hs, beq_self_eq_true, Bool.and_self, if_true]
theorem all_mk {l : PySem.W.OpenLaw} {w : World} {K : PySem.W.Frag} {h : Heap} {mg : Str → Option Value} (X : K.In h) (G : h.Ns mainGlobals mg) {fa CC CE  f_is_integer f_is_integer_from f_is_key f_check_room f_row_of f_check_different f_c___init__ f_c___eq__ f_c_shows f_e___init__ f_e___eq__ f_e_shows f_judge_runs f_input_of f_check_number f_given_of f_written_by_replacement f_is_way f_runs_in f_held_back f__law_number f__law_input f__law_cut f__law_is_way f__law_are_levels f__law_runs f__law_levels f__law_written f_law : Addr} {od_is_integer an_is_integer : Option Addr} {sl_is_integer : Array (Option Value)} {oc_is_integer kV_is_integer dc_is_integer pm_is_integer cd_is_integer ct_is_integer : Value} {od_is_integer_from an_is_integer_from : Option Addr} {sl_is_integer_from : Array (Option Value)} {oc_is_integer_from kV_is_integer_from dc_is_integer_from pm_is_integer_from cd_is_integer_from ct_is_integer_from : Value} {od_is_key an_is_key : Option Addr} {sl_is_key : Array (Option Value)} {oc_is_key kV_is_key dc_is_key pm_is_key cd_is_key ct_is_key : Value} {od_check_room an_check_room : Option Addr} {sl_check_room : Array (Option Value)} {oc_check_room kV_check_room dc_check_room pm_check_room cd_check_room ct_check_room : Value} {od_row_of an_row_of : Option Addr} {sl_row_of : Array (Option Value)} {oc_row_of kV_row_of dc_row_of pm_row_of cd_row_of ct_row_of : Value} {od_check_different an_check_different : Option Addr} {sl_check_different : Array (Option Value)} {oc_check_different kV_check_different dc_check_different pm_check_different cd_check_different ct_check_different : Value} {od_c___init__ an_c___init__ : Option Addr} {sl_c___init__ : Array (Option Value)} {oc_c___init__ kV_c___init__ dc_c___init__ pm_c___init__ cd_c___init__ ct_c___init__ : Value} {od_c___eq__ an_c___eq__ : Option Addr} {sl_c___eq__ : Array (Option Value)} {oc_c___eq__ kV_c___eq__ dc_c___eq__ pm_c___eq__ cd_c___eq__ ct_c___eq__ : Value} {od_c_shows an_c_shows : Option Addr} {sl_c_shows : Array (Option Value)} {oc_c_shows kV_c_shows dc_c_shows pm_c_shows cd_c_shows ct_c_shows : Value} {od_e___init__ an_e___init__ : Option Addr} {sl_e___init__ : Array (Option Value)} {oc_e___init__ kV_e___init__ dc_e___init__ pm_e___init__ cd_e___init__ ct_e___init__ : Value} {od_e___eq__ an_e___eq__ : Option Addr} {sl_e___eq__ : Array (Option Value)} {oc_e___eq__ kV_e___eq__ dc_e___eq__ pm_e___eq__ cd_e___eq__ ct_e___eq__ : Value} {od_e_shows an_e_shows : Option Addr} {sl_e_shows : Array (Option Value)} {oc_e_shows kV_e_shows dc_e_shows pm_e_shows cd_e_shows ct_e_shows : Value} {od_judge_runs an_judge_runs : Option Addr} {sl_judge_runs : Array (Option Value)} {oc_judge_runs kV_judge_runs dc_judge_runs pm_judge_runs cd_judge_runs ct_judge_runs : Value} {od_input_of an_input_of : Option Addr} {sl_input_of : Array (Option Value)} {oc_input_of kV_input_of dc_input_of pm_input_of cd_input_of ct_input_of : Value} {od_check_number an_check_number : Option Addr} {sl_check_number : Array (Option Value)} {oc_check_number kV_check_number dc_check_number pm_check_number cd_check_number ct_check_number : Value} {od_given_of an_given_of : Option Addr} {sl_given_of : Array (Option Value)} {oc_given_of kV_given_of dc_given_of pm_given_of cd_given_of ct_given_of : Value} {od_written_by_replacement an_written_by_replacement : Option Addr} {sl_written_by_replacement : Array (Option Value)} {oc_written_by_replacement kV_written_by_replacement dc_written_by_replacement pm_written_by_replacement cd_written_by_replacement ct_written_by_replacement : Value} {od_is_way an_is_way : Option Addr} {sl_is_way : Array (Option Value)} {oc_is_way kV_is_way dc_is_way pm_is_way cd_is_way ct_is_way : Value} {od_runs_in an_runs_in : Option Addr} {sl_runs_in : Array (Option Value)} {oc_runs_in kV_runs_in dc_runs_in pm_runs_in cd_runs_in ct_runs_in : Value} {od_held_back an_held_back : Option Addr} {sl_held_back : Array (Option Value)} {oc_held_back kV_held_back dc_held_back pm_held_back cd_held_back ct_held_back : Value} {od__law_number an__law_number : Option Addr} {sl__law_number : Array (Option Value)} {oc__law_number kV__law_number dc__law_number pm__law_number cd__law_number ct__law_number : Value} {od__law_input an__law_input : Option Addr} {sl__law_input : Array (Option Value)} {oc__law_input kV__law_input dc__law_input pm__law_input cd__law_input ct__law_input : Value} {od__law_cut an__law_cut : Option Addr} {sl__law_cut : Array (Option Value)} {oc__law_cut kV__law_cut dc__law_cut pm__law_cut cd__law_cut ct__law_cut : Value} {od__law_is_way an__law_is_way : Option Addr} {sl__law_is_way : Array (Option Value)} {oc__law_is_way kV__law_is_way dc__law_is_way pm__law_is_way cd__law_is_way ct__law_is_way : Value} {od__law_are_levels an__law_are_levels : Option Addr} {sl__law_are_levels : Array (Option Value)} {oc__law_are_levels kV__law_are_levels dc__law_are_levels pm__law_are_levels cd__law_are_levels ct__law_are_levels : Value} {od__law_runs an__law_runs : Option Addr} {sl__law_runs : Array (Option Value)} {oc__law_runs kV__law_runs dc__law_runs pm__law_runs cd__law_runs ct__law_runs : Value} {od__law_levels an__law_levels : Option Addr} {sl__law_levels : Array (Option Value)} {oc__law_levels kV__law_levels dc__law_levels pm__law_levels cd__law_levels ct__law_levels : Value} {od__law_written an__law_written : Option Addr} {sl__law_written : Array (Option Value)} {oc__law_written kV__law_written dc__law_written pm__law_written cd__law_written ct__law_written : Value} {od_law an_law : Option Addr} {sl_law : Array (Option Value)} {oc_law kV_law dc_law pm_law cd_law ct_law : Value}
    (hfa : mg "law" = some (.ref fa))
    (aCC : PySem.W.nsIn K mainGlobals "Cuts" = some (some (.ref CC)))
    (aCE : PySem.W.nsIn K mainGlobals "Needs" = some (some (.ref CE)))
    (a_is_integer : PySem.W.nsIn K mainGlobals "is_integer" = some (some (.ref f_is_integer)))
    (l_is_integer : K.lookup f_is_integer = some ⟨oc_is_integer, od_is_integer, .func (PySem.W.fnOf "is_integer" "is_integer" (defArgs s_is_integer) (defBody s_is_integer) (defScope s_is_integer) .none kV_is_integer dc_is_integer pm_is_integer an_is_integer cd_is_integer ct_is_integer), sl_is_integer⟩)
    (c_is_integer : PySem.W.codeIn K cd_is_integer "is_integer" = true)
    (k_is_integer : PySem.W.keepIn K (.ref f_is_integer) = true)
    (a_is_integer_from : PySem.W.nsIn K mainGlobals "is_integer_from" = some (some (.ref f_is_integer_from)))
    (l_is_integer_from : K.lookup f_is_integer_from = some ⟨oc_is_integer_from, od_is_integer_from, .func (PySem.W.fnOf "is_integer_from" "is_integer_from" (defArgs s_is_integer_from) (defBody s_is_integer_from) (defScope s_is_integer_from) .none kV_is_integer_from dc_is_integer_from pm_is_integer_from an_is_integer_from cd_is_integer_from ct_is_integer_from), sl_is_integer_from⟩)
    (c_is_integer_from : PySem.W.codeIn K cd_is_integer_from "is_integer_from" = true)
    (k_is_integer_from : PySem.W.keepIn K (.ref f_is_integer_from) = true)
    (a_is_key : PySem.W.nsIn K mainGlobals "is_key" = some (some (.ref f_is_key)))
    (l_is_key : K.lookup f_is_key = some ⟨oc_is_key, od_is_key, .func (PySem.W.fnOf "is_key" "is_key" (defArgs s_is_key) (defBody s_is_key) (defScope s_is_key) .none kV_is_key dc_is_key pm_is_key an_is_key cd_is_key ct_is_key), sl_is_key⟩)
    (c_is_key : PySem.W.codeIn K cd_is_key "is_key" = true)
    (k_is_key : PySem.W.keepIn K (.ref f_is_key) = true)
    (a_check_room : PySem.W.nsIn K mainGlobals "check_room" = some (some (.ref f_check_room)))
    (l_check_room : K.lookup f_check_room = some ⟨oc_check_room, od_check_room, .func (PySem.W.fnOf "check_room" "check_room" (defArgs s_check_room) (defBody s_check_room) (defScope s_check_room) .none kV_check_room dc_check_room pm_check_room an_check_room cd_check_room ct_check_room), sl_check_room⟩)
    (c_check_room : PySem.W.codeIn K cd_check_room "check_room" = true)
    (k_check_room : PySem.W.keepIn K (.ref f_check_room) = true)
    (a_row_of : PySem.W.nsIn K mainGlobals "row_of" = some (some (.ref f_row_of)))
    (l_row_of : K.lookup f_row_of = some ⟨oc_row_of, od_row_of, .func (PySem.W.fnOf "row_of" "row_of" (defArgs s_row_of) (defBody s_row_of) (defScope s_row_of) .none kV_row_of dc_row_of pm_row_of an_row_of cd_row_of ct_row_of), sl_row_of⟩)
    (c_row_of : PySem.W.codeIn K cd_row_of "row_of" = true)
    (k_row_of : PySem.W.keepIn K (.ref f_row_of) = true)
    (a_check_different : PySem.W.nsIn K mainGlobals "check_different" = some (some (.ref f_check_different)))
    (l_check_different : K.lookup f_check_different = some ⟨oc_check_different, od_check_different, .func (PySem.W.fnOf "check_different" "check_different" (defArgs s_check_different) (defBody s_check_different) (defScope s_check_different) .none kV_check_different dc_check_different pm_check_different an_check_different cd_check_different ct_check_different), sl_check_different⟩)
    (c_check_different : PySem.W.codeIn K cd_check_different "check_different" = true)
    (k_check_different : PySem.W.keepIn K (.ref f_check_different) = true)
    (a_c___init__ : PySem.W.findIn K (.ref CC) "__init__" = some (some (.ref f_c___init__)))
    (i_c___init__ : PySem.W.isFn K (.ref f_c___init__) = true)
    (l_c___init__ : K.lookup f_c___init__ = some ⟨oc_c___init__, od_c___init__, .func (PySem.W.fnOf "__init__" "Cuts.__init__" (defArgs s_c___init__) (defBody s_c___init__) (defScope s_c___init__) .none kV_c___init__ dc_c___init__ pm_c___init__ an_c___init__ cd_c___init__ ct_c___init__), sl_c___init__⟩)
    (c_c___init__ : PySem.W.codeIn K cd_c___init__ "Cuts.__init__" = true)
    (k_c___init__ : PySem.W.keepIn K (.ref f_c___init__) = true)
    (a_c___eq__ : PySem.W.findIn K (.ref CC) "__eq__" = some (some (.ref f_c___eq__)))
    (i_c___eq__ : PySem.W.isFn K (.ref f_c___eq__) = true)
    (l_c___eq__ : K.lookup f_c___eq__ = some ⟨oc_c___eq__, od_c___eq__, .func (PySem.W.fnOf "__eq__" "Cuts.__eq__" (defArgs s_c___eq__) (defBody s_c___eq__) (defScope s_c___eq__) .none kV_c___eq__ dc_c___eq__ pm_c___eq__ an_c___eq__ cd_c___eq__ ct_c___eq__), sl_c___eq__⟩)
    (c_c___eq__ : PySem.W.codeIn K cd_c___eq__ "Cuts.__eq__" = true)
    (k_c___eq__ : PySem.W.keepIn K (.ref f_c___eq__) = true)
    (a_c_shows : PySem.W.findIn K (.ref CC) "shows" = some (some (.ref f_c_shows)))
    (i_c_shows : PySem.W.isFn K (.ref f_c_shows) = true)
    (l_c_shows : K.lookup f_c_shows = some ⟨oc_c_shows, od_c_shows, .func (PySem.W.fnOf "shows" "Cuts.shows" (defArgs s_c_shows) (defBody s_c_shows) (defScope s_c_shows) .none kV_c_shows dc_c_shows pm_c_shows an_c_shows cd_c_shows ct_c_shows), sl_c_shows⟩)
    (c_c_shows : PySem.W.codeIn K cd_c_shows "Cuts.shows" = true)
    (k_c_shows : PySem.W.keepIn K (.ref f_c_shows) = true)
    (a_e___init__ : PySem.W.findIn K (.ref CE) "__init__" = some (some (.ref f_e___init__)))
    (i_e___init__ : PySem.W.isFn K (.ref f_e___init__) = true)
    (l_e___init__ : K.lookup f_e___init__ = some ⟨oc_e___init__, od_e___init__, .func (PySem.W.fnOf "__init__" "Needs.__init__" (defArgs s_e___init__) (defBody s_e___init__) (defScope s_e___init__) .none kV_e___init__ dc_e___init__ pm_e___init__ an_e___init__ cd_e___init__ ct_e___init__), sl_e___init__⟩)
    (c_e___init__ : PySem.W.codeIn K cd_e___init__ "Needs.__init__" = true)
    (k_e___init__ : PySem.W.keepIn K (.ref f_e___init__) = true)
    (a_e___eq__ : PySem.W.findIn K (.ref CE) "__eq__" = some (some (.ref f_e___eq__)))
    (i_e___eq__ : PySem.W.isFn K (.ref f_e___eq__) = true)
    (l_e___eq__ : K.lookup f_e___eq__ = some ⟨oc_e___eq__, od_e___eq__, .func (PySem.W.fnOf "__eq__" "Needs.__eq__" (defArgs s_e___eq__) (defBody s_e___eq__) (defScope s_e___eq__) .none kV_e___eq__ dc_e___eq__ pm_e___eq__ an_e___eq__ cd_e___eq__ ct_e___eq__), sl_e___eq__⟩)
    (c_e___eq__ : PySem.W.codeIn K cd_e___eq__ "Needs.__eq__" = true)
    (k_e___eq__ : PySem.W.keepIn K (.ref f_e___eq__) = true)
    (a_e_shows : PySem.W.findIn K (.ref CE) "shows" = some (some (.ref f_e_shows)))
    (i_e_shows : PySem.W.isFn K (.ref f_e_shows) = true)
    (l_e_shows : K.lookup f_e_shows = some ⟨oc_e_shows, od_e_shows, .func (PySem.W.fnOf "shows" "Needs.shows" (defArgs s_e_shows) (defBody s_e_shows) (defScope s_e_shows) .none kV_e_shows dc_e_shows pm_e_shows an_e_shows cd_e_shows ct_e_shows), sl_e_shows⟩)
    (c_e_shows : PySem.W.codeIn K cd_e_shows "Needs.shows" = true)
    (k_e_shows : PySem.W.keepIn K (.ref f_e_shows) = true)
    (a_judge_runs : PySem.W.nsIn K mainGlobals "judge_runs" = some (some (.ref f_judge_runs)))
    (l_judge_runs : K.lookup f_judge_runs = some ⟨oc_judge_runs, od_judge_runs, .func (PySem.W.fnOf "judge_runs" "judge_runs" (defArgs s_judge_runs) (defBody s_judge_runs) (defScope s_judge_runs) .none kV_judge_runs dc_judge_runs pm_judge_runs an_judge_runs cd_judge_runs ct_judge_runs), sl_judge_runs⟩)
    (c_judge_runs : PySem.W.codeIn K cd_judge_runs "judge_runs" = true)
    (k_judge_runs : PySem.W.keepIn K (.ref f_judge_runs) = true)
    (a_input_of : PySem.W.nsIn K mainGlobals "input_of" = some (some (.ref f_input_of)))
    (l_input_of : K.lookup f_input_of = some ⟨oc_input_of, od_input_of, .func (PySem.W.fnOf "input_of" "input_of" (defArgs s_input_of) (defBody s_input_of) (defScope s_input_of) .none kV_input_of dc_input_of pm_input_of an_input_of cd_input_of ct_input_of), sl_input_of⟩)
    (c_input_of : PySem.W.codeIn K cd_input_of "input_of" = true)
    (k_input_of : PySem.W.keepIn K (.ref f_input_of) = true)
    (a_check_number : PySem.W.nsIn K mainGlobals "check_number" = some (some (.ref f_check_number)))
    (l_check_number : K.lookup f_check_number = some ⟨oc_check_number, od_check_number, .func (PySem.W.fnOf "check_number" "check_number" (defArgs s_check_number) (defBody s_check_number) (defScope s_check_number) .none kV_check_number dc_check_number pm_check_number an_check_number cd_check_number ct_check_number), sl_check_number⟩)
    (c_check_number : PySem.W.codeIn K cd_check_number "check_number" = true)
    (k_check_number : PySem.W.keepIn K (.ref f_check_number) = true)
    (a_given_of : PySem.W.nsIn K mainGlobals "given_of" = some (some (.ref f_given_of)))
    (l_given_of : K.lookup f_given_of = some ⟨oc_given_of, od_given_of, .func (PySem.W.fnOf "given_of" "given_of" (defArgs s_given_of) (defBody s_given_of) (defScope s_given_of) .none kV_given_of dc_given_of pm_given_of an_given_of cd_given_of ct_given_of), sl_given_of⟩)
    (c_given_of : PySem.W.codeIn K cd_given_of "given_of" = true)
    (k_given_of : PySem.W.keepIn K (.ref f_given_of) = true)
    (a_written_by_replacement : PySem.W.nsIn K mainGlobals "written_by_replacement" = some (some (.ref f_written_by_replacement)))
    (l_written_by_replacement : K.lookup f_written_by_replacement = some ⟨oc_written_by_replacement, od_written_by_replacement, .func (PySem.W.fnOf "written_by_replacement" "written_by_replacement" (defArgs s_written_by_replacement) (defBody s_written_by_replacement) (defScope s_written_by_replacement) .none kV_written_by_replacement dc_written_by_replacement pm_written_by_replacement an_written_by_replacement cd_written_by_replacement ct_written_by_replacement), sl_written_by_replacement⟩)
    (c_written_by_replacement : PySem.W.codeIn K cd_written_by_replacement "written_by_replacement" = true)
    (k_written_by_replacement : PySem.W.keepIn K (.ref f_written_by_replacement) = true)
    (a_is_way : PySem.W.nsIn K mainGlobals "is_way" = some (some (.ref f_is_way)))
    (l_is_way : K.lookup f_is_way = some ⟨oc_is_way, od_is_way, .func (PySem.W.fnOf "is_way" "is_way" (defArgs s_is_way) (defBody s_is_way) (defScope s_is_way) .none kV_is_way dc_is_way pm_is_way an_is_way cd_is_way ct_is_way), sl_is_way⟩)
    (c_is_way : PySem.W.codeIn K cd_is_way "is_way" = true)
    (k_is_way : PySem.W.keepIn K (.ref f_is_way) = true)
    (a_runs_in : PySem.W.nsIn K mainGlobals "runs_in" = some (some (.ref f_runs_in)))
    (l_runs_in : K.lookup f_runs_in = some ⟨oc_runs_in, od_runs_in, .func (PySem.W.fnOf "runs_in" "runs_in" (defArgs s_runs_in) (defBody s_runs_in) (defScope s_runs_in) .none kV_runs_in dc_runs_in pm_runs_in an_runs_in cd_runs_in ct_runs_in), sl_runs_in⟩)
    (c_runs_in : PySem.W.codeIn K cd_runs_in "runs_in" = true)
    (k_runs_in : PySem.W.keepIn K (.ref f_runs_in) = true)
    (a_held_back : PySem.W.nsIn K mainGlobals "held_back" = some (some (.ref f_held_back)))
    (l_held_back : K.lookup f_held_back = some ⟨oc_held_back, od_held_back, .func (PySem.W.fnOf "held_back" "held_back" (defArgs s_held_back) (defBody s_held_back) (defScope s_held_back) .none kV_held_back dc_held_back pm_held_back an_held_back cd_held_back ct_held_back), sl_held_back⟩)
    (c_held_back : PySem.W.codeIn K cd_held_back "held_back" = true)
    (k_held_back : PySem.W.keepIn K (.ref f_held_back) = true)
    (a__law_number : PySem.W.nsIn K mainGlobals "_law_number" = some (some (.ref f__law_number)))
    (l__law_number : K.lookup f__law_number = some ⟨oc__law_number, od__law_number, .func (PySem.W.fnOf "_law_number" "_law_number" (defArgs s__law_number) (defBody s__law_number) (defScope s__law_number) .none kV__law_number dc__law_number pm__law_number an__law_number cd__law_number ct__law_number), sl__law_number⟩)
    (c__law_number : PySem.W.codeIn K cd__law_number "_law_number" = true)
    (k__law_number : PySem.W.keepIn K (.ref f__law_number) = true)
    (a__law_input : PySem.W.nsIn K mainGlobals "_law_input" = some (some (.ref f__law_input)))
    (l__law_input : K.lookup f__law_input = some ⟨oc__law_input, od__law_input, .func (PySem.W.fnOf "_law_input" "_law_input" (defArgs s__law_input) (defBody s__law_input) (defScope s__law_input) .none kV__law_input dc__law_input pm__law_input an__law_input cd__law_input ct__law_input), sl__law_input⟩)
    (c__law_input : PySem.W.codeIn K cd__law_input "_law_input" = true)
    (k__law_input : PySem.W.keepIn K (.ref f__law_input) = true)
    (a__law_cut : PySem.W.nsIn K mainGlobals "_law_cut" = some (some (.ref f__law_cut)))
    (l__law_cut : K.lookup f__law_cut = some ⟨oc__law_cut, od__law_cut, .func (PySem.W.fnOf "_law_cut" "_law_cut" (defArgs s__law_cut) (defBody s__law_cut) (defScope s__law_cut) .none kV__law_cut dc__law_cut pm__law_cut an__law_cut cd__law_cut ct__law_cut), sl__law_cut⟩)
    (c__law_cut : PySem.W.codeIn K cd__law_cut "_law_cut" = true)
    (k__law_cut : PySem.W.keepIn K (.ref f__law_cut) = true)
    (a__law_is_way : PySem.W.nsIn K mainGlobals "_law_is_way" = some (some (.ref f__law_is_way)))
    (l__law_is_way : K.lookup f__law_is_way = some ⟨oc__law_is_way, od__law_is_way, .func (PySem.W.fnOf "_law_is_way" "_law_is_way" (defArgs s__law_is_way) (defBody s__law_is_way) (defScope s__law_is_way) .none kV__law_is_way dc__law_is_way pm__law_is_way an__law_is_way cd__law_is_way ct__law_is_way), sl__law_is_way⟩)
    (c__law_is_way : PySem.W.codeIn K cd__law_is_way "_law_is_way" = true)
    (k__law_is_way : PySem.W.keepIn K (.ref f__law_is_way) = true)
    (a__law_are_levels : PySem.W.nsIn K mainGlobals "_law_are_levels" = some (some (.ref f__law_are_levels)))
    (l__law_are_levels : K.lookup f__law_are_levels = some ⟨oc__law_are_levels, od__law_are_levels, .func (PySem.W.fnOf "_law_are_levels" "_law_are_levels" (defArgs s__law_are_levels) (defBody s__law_are_levels) (defScope s__law_are_levels) .none kV__law_are_levels dc__law_are_levels pm__law_are_levels an__law_are_levels cd__law_are_levels ct__law_are_levels), sl__law_are_levels⟩)
    (c__law_are_levels : PySem.W.codeIn K cd__law_are_levels "_law_are_levels" = true)
    (k__law_are_levels : PySem.W.keepIn K (.ref f__law_are_levels) = true)
    (a__law_runs : PySem.W.nsIn K mainGlobals "_law_runs" = some (some (.ref f__law_runs)))
    (l__law_runs : K.lookup f__law_runs = some ⟨oc__law_runs, od__law_runs, .func (PySem.W.fnOf "_law_runs" "_law_runs" (defArgs s__law_runs) (defBody s__law_runs) (defScope s__law_runs) .none kV__law_runs dc__law_runs pm__law_runs an__law_runs cd__law_runs ct__law_runs), sl__law_runs⟩)
    (c__law_runs : PySem.W.codeIn K cd__law_runs "_law_runs" = true)
    (k__law_runs : PySem.W.keepIn K (.ref f__law_runs) = true)
    (a__law_levels : PySem.W.nsIn K mainGlobals "_law_levels" = some (some (.ref f__law_levels)))
    (l__law_levels : K.lookup f__law_levels = some ⟨oc__law_levels, od__law_levels, .func (PySem.W.fnOf "_law_levels" "_law_levels" (defArgs s__law_levels) (defBody s__law_levels) (defScope s__law_levels) .none kV__law_levels dc__law_levels pm__law_levels an__law_levels cd__law_levels ct__law_levels), sl__law_levels⟩)
    (c__law_levels : PySem.W.codeIn K cd__law_levels "_law_levels" = true)
    (k__law_levels : PySem.W.keepIn K (.ref f__law_levels) = true)
    (a__law_written : PySem.W.nsIn K mainGlobals "_law_written" = some (some (.ref f__law_written)))
    (l__law_written : K.lookup f__law_written = some ⟨oc__law_written, od__law_written, .func (PySem.W.fnOf "_law_written" "_law_written" (defArgs s__law_written) (defBody s__law_written) (defScope s__law_written) .none kV__law_written dc__law_written pm__law_written an__law_written cd__law_written ct__law_written), sl__law_written⟩)
    (c__law_written : PySem.W.codeIn K cd__law_written "_law_written" = true)
    (k__law_written : PySem.W.keepIn K (.ref f__law_written) = true)
    (a_law : PySem.W.nsIn K mainGlobals "law" = some (some (.ref f_law)))
    (l_law : K.lookup f_law = some ⟨oc_law, od_law, .func (PySem.W.fnOf "law" "law" (defArgs s_law) (defBody s_law) (defScope s_law) .none kV_law dc_law pm_law an_law cd_law ct_law), sl_law⟩)
    (c_law : PySem.W.codeIn K cd_law "law" = true)
    (k_law : PySem.W.keepIn K (.ref f_law) = true)
    {tc_GREATEST_KEY : Tok}
    (q_GREATEST_KEY : PySem.W.nsIn K mainGlobals "GREATEST_KEY" = some (some (.int 1000000000 tc_GREATEST_KEY)))
    {tc_MOST_PLACES : Tok}
    (q_MOST_PLACES : PySem.W.nsIn K mainGlobals "MOST_PLACES" = some (some (.int 12 tc_MOST_PLACES)))
    {tc_MOST_ROOM : Tok}
    (q_MOST_ROOM : PySem.W.nsIn K mainGlobals "MOST_ROOM" = some (some (.int 12 tc_MOST_ROOM)))
    (z_all : PySem.W.nsIn K mainGlobals "all" = some none)
    (z_any : PySem.W.nsIn K mainGlobals "any" = some none)
    (z_bool : PySem.W.nsIn K mainGlobals "bool" = some none)
    (z_dict : PySem.W.nsIn K mainGlobals "dict" = some none)
    (z_enumerate : PySem.W.nsIn K mainGlobals "enumerate" = some none)
    (z_int : PySem.W.nsIn K mainGlobals "int" = some none)
    (z_isinstance : PySem.W.nsIn K mainGlobals "isinstance" = some none)
    (z_len : PySem.W.nsIn K mainGlobals "len" = some none)
    (z_list : PySem.W.nsIn K mainGlobals "list" = some none)
    (z_max : PySem.W.nsIn K mainGlobals "max" = some none)
    (z_min : PySem.W.nsIn K mainGlobals "min" = some none)
    (z_range : PySem.W.nsIn K mainGlobals "range" = some none)
    (z_sorted : PySem.W.nsIn K mainGlobals "sorted" = some none)
    (z_sum : PySem.W.nsIn K mainGlobals "sum" = some none)
    (z_tuple : PySem.W.nsIn K mainGlobals "tuple" = some none)
    (pgC : PySem.W.plainGet K CC Str.empty = true)
    (hdC : PySem.W.hasDictIn K CC = true)
    (po_C : PySem.W.plainOver K CC = true)
    (saC : PySem.W.findIn K (.ref CC) "__setattr__" = some (some (.builtin "object.__setattr__")))
    (na_cWritten : PySem.W.findIn K (.ref CC) "written" = some none)
    (mkC : PySem.W.makesIn K CC = true)
    (kcC : PySem.W.keepIn K (.ref CC) = true)
    (eneC : PySem.W.findIn K (.ref CC) "__ne__" = some (some (.builtin "object.__ne__")))
    (eobC : PySem.W.subIn K (.ref CC) (.type "object") = some true)
    (eniC : PySem.W.subIn K (.type "int") (.ref CC) = some false)
    (entC : PySem.W.subIn K (.type "tuple") (.ref CC) = some false)
    (kaC : PySem.W.findIn K (.ref CC) "__class__" = some (some (.builtin "object.__class__")))
    (knC : PySem.W.specialIn K (.builtin "object.__class__") "__get__" = some (some (.builtin "getset_descriptor.__get__")))
    (ktkC : PySem.W.takesIn K (.builtin "object.__class__") = some true)
    (kmC : PySem.W.mroIn K CC (.type "object") = some true)
    (kclC : PySem.W.isClsIn K CC = true)
    (ktyC : PySem.W.typeIn K (.ref CC) = some (.type "type"))
    (ensC_Needs : PySem.W.subIn K (.ref CE) (.ref CC) = some false)
    (nesC_Needs : (CE == CC) = false)
    (pgE : PySem.W.plainGet K CE Str.empty = true)
    (hdE : PySem.W.hasDictIn K CE = true)
    (po_E : PySem.W.plainOver K CE = true)
    (saE : PySem.W.findIn K (.ref CE) "__setattr__" = some (some (.builtin "object.__setattr__")))
    (na_eLevels : PySem.W.findIn K (.ref CE) "levels" = some none)
    (mkE : PySem.W.makesIn K CE = true)
    (kcE : PySem.W.keepIn K (.ref CE) = true)
    (eneE : PySem.W.findIn K (.ref CE) "__ne__" = some (some (.builtin "object.__ne__")))
    (eobE : PySem.W.subIn K (.ref CE) (.type "object") = some true)
    (eniE : PySem.W.subIn K (.type "int") (.ref CE) = some false)
    (entE : PySem.W.subIn K (.type "tuple") (.ref CE) = some false)
    (kaE : PySem.W.findIn K (.ref CE) "__class__" = some (some (.builtin "object.__class__")))
    (knE : PySem.W.specialIn K (.builtin "object.__class__") "__get__" = some (some (.builtin "getset_descriptor.__get__")))
    (ktkE : PySem.W.takesIn K (.builtin "object.__class__") = some true)
    (kmE : PySem.W.mroIn K CE (.type "object") = some true)
    (kclE : PySem.W.isClsIn K CE = true)
    (ktyE : PySem.W.typeIn K (.ref CE) = some (.type "type"))
    (ensE_Cuts : PySem.W.subIn K (.ref CC) (.ref CE) = some false)
    (nesE_Cuts : (CC == CE) = false)
    : ∃ fd : FuncData, (∀ (s : Shared) (v : Value), BindsTo s fd ⟨[v], []⟩ [("script", v)]) ∧ ∀ base : Heap, K.In base → base.Ns mainGlobals mg → FnOk l.prog w K mg base CX0 11 fa fd ["script"] (spLaw K) := by
  have e := hfa.symm.trans (PySem.W.mg_of X G a_law)
  cases e
  let A : Ad := { f_is_integer := f_is_integer, d_is_integer := (PySem.W.fnOf "is_integer" "is_integer" (defArgs s_is_integer) (defBody s_is_integer) (defScope s_is_integer) .none kV_is_integer dc_is_integer pm_is_integer an_is_integer cd_is_integer ct_is_integer), f_is_integer_from := f_is_integer_from, d_is_integer_from := (PySem.W.fnOf "is_integer_from" "is_integer_from" (defArgs s_is_integer_from) (defBody s_is_integer_from) (defScope s_is_integer_from) .none kV_is_integer_from dc_is_integer_from pm_is_integer_from an_is_integer_from cd_is_integer_from ct_is_integer_from), f_is_key := f_is_key, d_is_key := (PySem.W.fnOf "is_key" "is_key" (defArgs s_is_key) (defBody s_is_key) (defScope s_is_key) .none kV_is_key dc_is_key pm_is_key an_is_key cd_is_key ct_is_key), f_check_room := f_check_room, d_check_room := (PySem.W.fnOf "check_room" "check_room" (defArgs s_check_room) (defBody s_check_room) (defScope s_check_room) .none kV_check_room dc_check_room pm_check_room an_check_room cd_check_room ct_check_room), f_row_of := f_row_of, d_row_of := (PySem.W.fnOf "row_of" "row_of" (defArgs s_row_of) (defBody s_row_of) (defScope s_row_of) .none kV_row_of dc_row_of pm_row_of an_row_of cd_row_of ct_row_of), f_check_different := f_check_different, d_check_different := (PySem.W.fnOf "check_different" "check_different" (defArgs s_check_different) (defBody s_check_different) (defScope s_check_different) .none kV_check_different dc_check_different pm_check_different an_check_different cd_check_different ct_check_different), f_c___init__ := f_c___init__, d_c___init__ := (PySem.W.fnOf "__init__" "Cuts.__init__" (defArgs s_c___init__) (defBody s_c___init__) (defScope s_c___init__) .none kV_c___init__ dc_c___init__ pm_c___init__ an_c___init__ cd_c___init__ ct_c___init__), f_c___eq__ := f_c___eq__, d_c___eq__ := (PySem.W.fnOf "__eq__" "Cuts.__eq__" (defArgs s_c___eq__) (defBody s_c___eq__) (defScope s_c___eq__) .none kV_c___eq__ dc_c___eq__ pm_c___eq__ an_c___eq__ cd_c___eq__ ct_c___eq__), f_c_shows := f_c_shows, d_c_shows := (PySem.W.fnOf "shows" "Cuts.shows" (defArgs s_c_shows) (defBody s_c_shows) (defScope s_c_shows) .none kV_c_shows dc_c_shows pm_c_shows an_c_shows cd_c_shows ct_c_shows), f_e___init__ := f_e___init__, d_e___init__ := (PySem.W.fnOf "__init__" "Needs.__init__" (defArgs s_e___init__) (defBody s_e___init__) (defScope s_e___init__) .none kV_e___init__ dc_e___init__ pm_e___init__ an_e___init__ cd_e___init__ ct_e___init__), f_e___eq__ := f_e___eq__, d_e___eq__ := (PySem.W.fnOf "__eq__" "Needs.__eq__" (defArgs s_e___eq__) (defBody s_e___eq__) (defScope s_e___eq__) .none kV_e___eq__ dc_e___eq__ pm_e___eq__ an_e___eq__ cd_e___eq__ ct_e___eq__), f_e_shows := f_e_shows, d_e_shows := (PySem.W.fnOf "shows" "Needs.shows" (defArgs s_e_shows) (defBody s_e_shows) (defScope s_e_shows) .none kV_e_shows dc_e_shows pm_e_shows an_e_shows cd_e_shows ct_e_shows), f_judge_runs := f_judge_runs, d_judge_runs := (PySem.W.fnOf "judge_runs" "judge_runs" (defArgs s_judge_runs) (defBody s_judge_runs) (defScope s_judge_runs) .none kV_judge_runs dc_judge_runs pm_judge_runs an_judge_runs cd_judge_runs ct_judge_runs), f_input_of := f_input_of, d_input_of := (PySem.W.fnOf "input_of" "input_of" (defArgs s_input_of) (defBody s_input_of) (defScope s_input_of) .none kV_input_of dc_input_of pm_input_of an_input_of cd_input_of ct_input_of), f_check_number := f_check_number, d_check_number := (PySem.W.fnOf "check_number" "check_number" (defArgs s_check_number) (defBody s_check_number) (defScope s_check_number) .none kV_check_number dc_check_number pm_check_number an_check_number cd_check_number ct_check_number), f_given_of := f_given_of, d_given_of := (PySem.W.fnOf "given_of" "given_of" (defArgs s_given_of) (defBody s_given_of) (defScope s_given_of) .none kV_given_of dc_given_of pm_given_of an_given_of cd_given_of ct_given_of), f_written_by_replacement := f_written_by_replacement, d_written_by_replacement := (PySem.W.fnOf "written_by_replacement" "written_by_replacement" (defArgs s_written_by_replacement) (defBody s_written_by_replacement) (defScope s_written_by_replacement) .none kV_written_by_replacement dc_written_by_replacement pm_written_by_replacement an_written_by_replacement cd_written_by_replacement ct_written_by_replacement), f_is_way := f_is_way, d_is_way := (PySem.W.fnOf "is_way" "is_way" (defArgs s_is_way) (defBody s_is_way) (defScope s_is_way) .none kV_is_way dc_is_way pm_is_way an_is_way cd_is_way ct_is_way), f_runs_in := f_runs_in, d_runs_in := (PySem.W.fnOf "runs_in" "runs_in" (defArgs s_runs_in) (defBody s_runs_in) (defScope s_runs_in) .none kV_runs_in dc_runs_in pm_runs_in an_runs_in cd_runs_in ct_runs_in), f_held_back := f_held_back, d_held_back := (PySem.W.fnOf "held_back" "held_back" (defArgs s_held_back) (defBody s_held_back) (defScope s_held_back) .none kV_held_back dc_held_back pm_held_back an_held_back cd_held_back ct_held_back), f__law_number := f__law_number, d__law_number := (PySem.W.fnOf "_law_number" "_law_number" (defArgs s__law_number) (defBody s__law_number) (defScope s__law_number) .none kV__law_number dc__law_number pm__law_number an__law_number cd__law_number ct__law_number), f__law_input := f__law_input, d__law_input := (PySem.W.fnOf "_law_input" "_law_input" (defArgs s__law_input) (defBody s__law_input) (defScope s__law_input) .none kV__law_input dc__law_input pm__law_input an__law_input cd__law_input ct__law_input), f__law_cut := f__law_cut, d__law_cut := (PySem.W.fnOf "_law_cut" "_law_cut" (defArgs s__law_cut) (defBody s__law_cut) (defScope s__law_cut) .none kV__law_cut dc__law_cut pm__law_cut an__law_cut cd__law_cut ct__law_cut), f__law_is_way := f__law_is_way, d__law_is_way := (PySem.W.fnOf "_law_is_way" "_law_is_way" (defArgs s__law_is_way) (defBody s__law_is_way) (defScope s__law_is_way) .none kV__law_is_way dc__law_is_way pm__law_is_way an__law_is_way cd__law_is_way ct__law_is_way), f__law_are_levels := f__law_are_levels, d__law_are_levels := (PySem.W.fnOf "_law_are_levels" "_law_are_levels" (defArgs s__law_are_levels) (defBody s__law_are_levels) (defScope s__law_are_levels) .none kV__law_are_levels dc__law_are_levels pm__law_are_levels an__law_are_levels cd__law_are_levels ct__law_are_levels), f__law_runs := f__law_runs, d__law_runs := (PySem.W.fnOf "_law_runs" "_law_runs" (defArgs s__law_runs) (defBody s__law_runs) (defScope s__law_runs) .none kV__law_runs dc__law_runs pm__law_runs an__law_runs cd__law_runs ct__law_runs), f__law_levels := f__law_levels, d__law_levels := (PySem.W.fnOf "_law_levels" "_law_levels" (defArgs s__law_levels) (defBody s__law_levels) (defScope s__law_levels) .none kV__law_levels dc__law_levels pm__law_levels an__law_levels cd__law_levels ct__law_levels), f__law_written := f__law_written, d__law_written := (PySem.W.fnOf "_law_written" "_law_written" (defArgs s__law_written) (defBody s__law_written) (defScope s__law_written) .none kV__law_written dc__law_written pm__law_written an__law_written cd__law_written ct__law_written), f_law := fa, d_law := (PySem.W.fnOf "law" "law" (defArgs s_law) (defBody s_law) (defScope s_law) .none kV_law dc_law pm_law an_law cd_law ct_law), CC := CC, CE := CE }
  have T : Tx K mg A := {
    F_is_integer := (fun_mk (st := s_is_integer) l_is_integer c_is_integer k_is_integer)
    m_is_integer := PySem.W.mg_of X G a_is_integer
    F_is_integer_from := (fun_mk (st := s_is_integer_from) l_is_integer_from c_is_integer_from k_is_integer_from)
    m_is_integer_from := PySem.W.mg_of X G a_is_integer_from
    F_is_key := (fun_mk (st := s_is_key) l_is_key c_is_key k_is_key)
    m_is_key := PySem.W.mg_of X G a_is_key
    F_check_room := (fun_mk (st := s_check_room) l_check_room c_check_room k_check_room)
    m_check_room := PySem.W.mg_of X G a_check_room
    F_row_of := (fun_mk (st := s_row_of) l_row_of c_row_of k_row_of)
    m_row_of := PySem.W.mg_of X G a_row_of
    F_check_different := (fun_mk (st := s_check_different) l_check_different c_check_different k_check_different)
    m_check_different := PySem.W.mg_of X G a_check_different
    F_c___init__ := (fun_mk (st := s_c___init__) l_c___init__ c_c___init__ k_c___init__)
    F_c___eq__ := (fun_mk (st := s_c___eq__) l_c___eq__ c_c___eq__ k_c___eq__)
    F_c_shows := (fun_mk (st := s_c_shows) l_c_shows c_c_shows k_c_shows)
    M_c_shows := ⟨a_c_shows, i_c_shows, k_c_shows⟩
    F_e___init__ := (fun_mk (st := s_e___init__) l_e___init__ c_e___init__ k_e___init__)
    F_e___eq__ := (fun_mk (st := s_e___eq__) l_e___eq__ c_e___eq__ k_e___eq__)
    F_e_shows := (fun_mk (st := s_e_shows) l_e_shows c_e_shows k_e_shows)
    M_e_shows := ⟨a_e_shows, i_e_shows, k_e_shows⟩
    F_judge_runs := (fun_mk (st := s_judge_runs) l_judge_runs c_judge_runs k_judge_runs)
    m_judge_runs := PySem.W.mg_of X G a_judge_runs
    F_input_of := (fun_mk (st := s_input_of) l_input_of c_input_of k_input_of)
    m_input_of := PySem.W.mg_of X G a_input_of
    F_check_number := (fun_mk (st := s_check_number) l_check_number c_check_number k_check_number)
    m_check_number := PySem.W.mg_of X G a_check_number
    F_given_of := (fun_mk (st := s_given_of) l_given_of c_given_of k_given_of)
    m_given_of := PySem.W.mg_of X G a_given_of
    F_written_by_replacement := (fun_mk (st := s_written_by_replacement) l_written_by_replacement c_written_by_replacement k_written_by_replacement)
    m_written_by_replacement := PySem.W.mg_of X G a_written_by_replacement
    F_is_way := (fun_mk (st := s_is_way) l_is_way c_is_way k_is_way)
    m_is_way := PySem.W.mg_of X G a_is_way
    F_runs_in := (fun_mk (st := s_runs_in) l_runs_in c_runs_in k_runs_in)
    m_runs_in := PySem.W.mg_of X G a_runs_in
    F_held_back := (fun_mk (st := s_held_back) l_held_back c_held_back k_held_back)
    m_held_back := PySem.W.mg_of X G a_held_back
    F__law_number := (fun_mk (st := s__law_number) l__law_number c__law_number k__law_number)
    m__law_number := PySem.W.mg_of X G a__law_number
    F__law_input := (fun_mk (st := s__law_input) l__law_input c__law_input k__law_input)
    m__law_input := PySem.W.mg_of X G a__law_input
    F__law_cut := (fun_mk (st := s__law_cut) l__law_cut c__law_cut k__law_cut)
    m__law_cut := PySem.W.mg_of X G a__law_cut
    F__law_is_way := (fun_mk (st := s__law_is_way) l__law_is_way c__law_is_way k__law_is_way)
    m__law_is_way := PySem.W.mg_of X G a__law_is_way
    F__law_are_levels := (fun_mk (st := s__law_are_levels) l__law_are_levels c__law_are_levels k__law_are_levels)
    m__law_are_levels := PySem.W.mg_of X G a__law_are_levels
    F__law_runs := (fun_mk (st := s__law_runs) l__law_runs c__law_runs k__law_runs)
    m__law_runs := PySem.W.mg_of X G a__law_runs
    F__law_levels := (fun_mk (st := s__law_levels) l__law_levels c__law_levels k__law_levels)
    m__law_levels := PySem.W.mg_of X G a__law_levels
    F__law_written := (fun_mk (st := s__law_written) l__law_written c__law_written k__law_written)
    m__law_written := PySem.W.mg_of X G a__law_written
    F_law := (fun_mk (st := s_law) l_law c_law k_law)
    m_law := PySem.W.mg_of X G a_law
    c_GREATEST_KEY := .inr ⟨_, PySem.W.mg_of X G q_GREATEST_KEY⟩
    c_MOST_PLACES := .inr ⟨_, PySem.W.mg_of X G q_MOST_PLACES⟩
    c_MOST_ROOM := .inr ⟨_, PySem.W.mg_of X G q_MOST_ROOM⟩
    g_all := PySem.W.mg_none_of X G z_all
    g_any := PySem.W.mg_none_of X G z_any
    g_bool := PySem.W.mg_none_of X G z_bool
    g_dict := PySem.W.mg_none_of X G z_dict
    g_enumerate := PySem.W.mg_none_of X G z_enumerate
    g_int := PySem.W.mg_none_of X G z_int
    g_isinstance := PySem.W.mg_none_of X G z_isinstance
    g_len := PySem.W.mg_none_of X G z_len
    g_list := PySem.W.mg_none_of X G z_list
    g_max := PySem.W.mg_none_of X G z_max
    g_min := PySem.W.mg_none_of X G z_min
    g_range := PySem.W.mg_none_of X G z_range
    g_sorted := PySem.W.mg_none_of X G z_sorted
    g_sum := PySem.W.mg_none_of X G z_sum
    g_tuple := PySem.W.mg_none_of X G z_tuple
    cTC := ⟨pgC, hdC, po_C, saC⟩
    cWritten := na_cWritten
    mCC := PySem.W.mg_of X G aCC
    mkCC := ⟨mkC, a_c___init__, i_c___init__, kcC⟩
    eqcC := ⟨a_c___eq__, i_c___eq__, eneC, eobC, eniC, entC⟩
    kaC := kaC
    knC := knC
    ktkC := ktkC
    kmC := kmC
    kiC_int := kit_no kclC ktyC eniC
    kiC_tuple := kit_no kclC ktyC entC
    nfC_CE := by unfold PySem.W.notFirst; rw [ensC_Needs]; simp
    kiC_CE := kit_no2 kclC ktyC ensC_Needs nesC_Needs
    cTE := ⟨pgE, hdE, po_E, saE⟩
    eLevels := na_eLevels
    mCE := PySem.W.mg_of X G aCE
    mkCE := ⟨mkE, a_e___init__, i_e___init__, kcE⟩
    eqcE := ⟨a_e___eq__, i_e___eq__, eneE, eobE, eniE, entE⟩
    kaE := kaE
    knE := knE
    ktkE := ktkE
    kmE := kmE
    kiE_int := kit_no kclE ktyE eniE
    kiE_tuple := kit_no kclE ktyE entE
    nfE_CC := by unfold PySem.W.notFirst; rw [ensE_Cuts]; simp
    kiE_CC := kit_no2 kclE ktyE ensE_Cuts nesE_Cuts
  }
  exact ⟨A.d_law, fun s v => .of_eq rfl, fun base _ _ => ok_law T⟩
theorem walk {l : PySem.W.OpenLaw} {q : Program} {loose : List Str} {XP : (Str → Option Value) → Heap → Prop} {YP : World → Heap → Prop} {d : DefRec} {K : Params → PySem.W.Frag} (hn : l.most = some 63) (hdf : d.params.defaults = [])
    (hY : ∀ (w : World) (h : Heap), YP w h → (K w.params).In h)
    (F : ∀ (w : World) (mg : Str → Option Value) (fa : Addr) (h : Heap), (K w.params).In h → h.Ns mainGlobals mg → mg d.name = some (.ref fa) →
      ∃ fd : FuncData, (∀ (s : Shared) (u : Value), BindsTo s fd ⟨[u], []⟩ [("script", u)]) ∧ ∀ base : Heap, (K w.params).In base → base.Ns mainGlobals mg → FnOk l.prog w (K w.params) mg base CX0 11 fa fd ["script"] (spLaw (K w.params))) :
    PySem.W.WalkO q loose XP YP l.row.toRowW d [] (fun f vs => PySem.call f vs) :=
  L2.walk_of (n := 63) (k := 11) (x := "script") (CX := fun _ => CX0) (sp := fun w => spLaw (K w.params)) hn (by decide) hdf ⟨rfl, by decide, by decide⟩ hY F (fun _ _ a ns hl _ hS => ⟨a, ns, rfl, hS, hl, fun _ => rfl⟩) fun _ _ _ _ _ z => z
end Tw

set_option Elab.async false
set_option linter.all false
set_option maxRecDepth 100000
set_option maxHeartbeats 2000000
namespace Tw
open PySem PySem.Spec PyProof.Rows L2
set_option maxHeartbeats 0
abbrev R0 : PySem.W.OpenRow := PySem.W.OpenLaw.row PySem.Challenge.rw_heaprows_k63_evidence_of_runs
def q_is_integer : Sh.FnA := ⟨fun K => (Sh.gA K "is_integer"), "is_integer", "is_integer", defArgs s_is_integer, defBody s_is_integer, defScope s_is_integer⟩
def q_is_integer_from : Sh.FnA := ⟨fun K => (Sh.gA K "is_integer_from"), "is_integer_from", "is_integer_from", defArgs s_is_integer_from, defBody s_is_integer_from, defScope s_is_integer_from⟩
def q_is_key : Sh.FnA := ⟨fun K => (Sh.gA K "is_key"), "is_key", "is_key", defArgs s_is_key, defBody s_is_key, defScope s_is_key⟩
def q_check_room : Sh.FnA := ⟨fun K => (Sh.gA K "check_room"), "check_room", "check_room", defArgs s_check_room, defBody s_check_room, defScope s_check_room⟩
def q_row_of : Sh.FnA := ⟨fun K => (Sh.gA K "row_of"), "row_of", "row_of", defArgs s_row_of, defBody s_row_of, defScope s_row_of⟩
def q_check_different : Sh.FnA := ⟨fun K => (Sh.gA K "check_different"), "check_different", "check_different", defArgs s_check_different, defBody s_check_different, defScope s_check_different⟩
def q_c___init__ : Sh.FnA := ⟨fun K => (Sh.mA K (Sh.gA K "Cuts") "__init__"), "__init__", "Cuts.__init__", defArgs s_c___init__, defBody s_c___init__, defScope s_c___init__⟩
def q_c___eq__ : Sh.FnA := ⟨fun K => (Sh.mA K (Sh.gA K "Cuts") "__eq__"), "__eq__", "Cuts.__eq__", defArgs s_c___eq__, defBody s_c___eq__, defScope s_c___eq__⟩
def q_c_shows : Sh.FnA := ⟨fun K => (Sh.mA K (Sh.gA K "Cuts") "shows"), "shows", "Cuts.shows", defArgs s_c_shows, defBody s_c_shows, defScope s_c_shows⟩
def q_e___init__ : Sh.FnA := ⟨fun K => (Sh.mA K (Sh.gA K "Needs") "__init__"), "__init__", "Needs.__init__", defArgs s_e___init__, defBody s_e___init__, defScope s_e___init__⟩
def q_e___eq__ : Sh.FnA := ⟨fun K => (Sh.mA K (Sh.gA K "Needs") "__eq__"), "__eq__", "Needs.__eq__", defArgs s_e___eq__, defBody s_e___eq__, defScope s_e___eq__⟩
def q_e_shows : Sh.FnA := ⟨fun K => (Sh.mA K (Sh.gA K "Needs") "shows"), "shows", "Needs.shows", defArgs s_e_shows, defBody s_e_shows, defScope s_e_shows⟩
def q_judge_runs : Sh.FnA := ⟨fun K => (Sh.gA K "judge_runs"), "judge_runs", "judge_runs", defArgs s_judge_runs, defBody s_judge_runs, defScope s_judge_runs⟩
def q_input_of : Sh.FnA := ⟨fun K => (Sh.gA K "input_of"), "input_of", "input_of", defArgs s_input_of, defBody s_input_of, defScope s_input_of⟩
def q_check_number : Sh.FnA := ⟨fun K => (Sh.gA K "check_number"), "check_number", "check_number", defArgs s_check_number, defBody s_check_number, defScope s_check_number⟩
def q_given_of : Sh.FnA := ⟨fun K => (Sh.gA K "given_of"), "given_of", "given_of", defArgs s_given_of, defBody s_given_of, defScope s_given_of⟩
def q_written_by_replacement : Sh.FnA := ⟨fun K => (Sh.gA K "written_by_replacement"), "written_by_replacement", "written_by_replacement", defArgs s_written_by_replacement, defBody s_written_by_replacement, defScope s_written_by_replacement⟩
def q_is_way : Sh.FnA := ⟨fun K => (Sh.gA K "is_way"), "is_way", "is_way", defArgs s_is_way, defBody s_is_way, defScope s_is_way⟩
def q_runs_in : Sh.FnA := ⟨fun K => (Sh.gA K "runs_in"), "runs_in", "runs_in", defArgs s_runs_in, defBody s_runs_in, defScope s_runs_in⟩
def q_held_back : Sh.FnA := ⟨fun K => (Sh.gA K "held_back"), "held_back", "held_back", defArgs s_held_back, defBody s_held_back, defScope s_held_back⟩
def q__law_number : Sh.FnA := ⟨fun K => (Sh.gA K "_law_number"), "_law_number", "_law_number", defArgs s__law_number, defBody s__law_number, defScope s__law_number⟩
def q__law_input : Sh.FnA := ⟨fun K => (Sh.gA K "_law_input"), "_law_input", "_law_input", defArgs s__law_input, defBody s__law_input, defScope s__law_input⟩
def q__law_cut : Sh.FnA := ⟨fun K => (Sh.gA K "_law_cut"), "_law_cut", "_law_cut", defArgs s__law_cut, defBody s__law_cut, defScope s__law_cut⟩
def q__law_is_way : Sh.FnA := ⟨fun K => (Sh.gA K "_law_is_way"), "_law_is_way", "_law_is_way", defArgs s__law_is_way, defBody s__law_is_way, defScope s__law_is_way⟩
def q__law_are_levels : Sh.FnA := ⟨fun K => (Sh.gA K "_law_are_levels"), "_law_are_levels", "_law_are_levels", defArgs s__law_are_levels, defBody s__law_are_levels, defScope s__law_are_levels⟩
def q__law_runs : Sh.FnA := ⟨fun K => (Sh.gA K "_law_runs"), "_law_runs", "_law_runs", defArgs s__law_runs, defBody s__law_runs, defScope s__law_runs⟩
def q__law_levels : Sh.FnA := ⟨fun K => (Sh.gA K "_law_levels"), "_law_levels", "_law_levels", defArgs s__law_levels, defBody s__law_levels, defScope s__law_levels⟩
def q__law_written : Sh.FnA := ⟨fun K => (Sh.gA K "_law_written"), "_law_written", "_law_written", defArgs s__law_written, defBody s__law_written, defScope s__law_written⟩
def q_law : Sh.FnA := ⟨fun K => (Sh.gA K "law"), "law", "law", defArgs s_law, defBody s_law, defScope s_law⟩
def fns0 : List Sh.FnA := [q_is_integer, q_is_integer_from, q_is_key, q_check_room, q_row_of, q_check_different, q_c___init__, q_c___eq__, q_c_shows, q_e___init__, q_e___eq__, q_e_shows, q_judge_runs, q_input_of, q_check_number, q_given_of, q_written_by_replacement, q_is_way, q_runs_in, q_held_back, q__law_number, q__law_input, q__law_cut, q__law_is_way, q__law_are_levels]
def fns1 : List Sh.FnA := [q__law_runs, q__law_levels, q__law_written, q_law]
def fns : List Sh.FnA := fns0 ++ fns1
def gr0 (K : PySem.W.Frag) : Bool := decide (PySem.W.nsIn K mainGlobals "Cuts" = some (some (.ref (Sh.gA K "Cuts")))) && (decide (PySem.W.nsIn K mainGlobals "Needs" = some (some (.ref (Sh.gA K "Needs")))) && (decide (PySem.W.nsIn K mainGlobals "is_integer" = some (some (.ref (Sh.gA K "is_integer")))) && (decide (PySem.W.nsIn K mainGlobals "is_integer_from" = some (some (.ref (Sh.gA K "is_integer_from")))) && (decide (PySem.W.nsIn K mainGlobals "is_key" = some (some (.ref (Sh.gA K "is_key")))) && (decide (PySem.W.nsIn K mainGlobals "check_room" = some (some (.ref (Sh.gA K "check_room")))) && (decide (PySem.W.nsIn K mainGlobals "row_of" = some (some (.ref (Sh.gA K "row_of")))) && (decide (PySem.W.nsIn K mainGlobals "check_different" = some (some (.ref (Sh.gA K "check_different")))) && (decide (PySem.W.findIn K (.ref (Sh.gA K "Cuts")) "__init__" = some (some (.ref (Sh.mA K (Sh.gA K "Cuts") "__init__")))) && (decide (PySem.W.isFn K (.ref (Sh.mA K (Sh.gA K "Cuts") "__init__")) = true) && (decide (PySem.W.findIn K (.ref (Sh.gA K "Cuts")) "__eq__" = some (some (.ref (Sh.mA K (Sh.gA K "Cuts") "__eq__")))) && (decide (PySem.W.isFn K (.ref (Sh.mA K (Sh.gA K "Cuts") "__eq__")) = true))))))))))))
theorem gr0_ok {K : PySem.W.Frag} (h : gr0 K = true) : (PySem.W.nsIn K mainGlobals "Cuts" = some (some (.ref (Sh.gA K "Cuts")))) ∧ (PySem.W.nsIn K mainGlobals "Needs" = some (some (.ref (Sh.gA K "Needs")))) ∧ (PySem.W.nsIn K mainGlobals "is_integer" = some (some (.ref (Sh.gA K "is_integer")))) ∧ (PySem.W.nsIn K mainGlobals "is_integer_from" = some (some (.ref (Sh.gA K "is_integer_from")))) ∧ (PySem.W.nsIn K mainGlobals "is_key" = some (some (.ref (Sh.gA K "is_key")))) ∧ (PySem.W.nsIn K mainGlobals "check_room" = some (some (.ref (Sh.gA K "check_room")))) ∧ (PySem.W.nsIn K mainGlobals "row_of" = some (some (.ref (Sh.gA K "row_of")))) ∧ (PySem.W.nsIn K mainGlobals "check_different" = some (some (.ref (Sh.gA K "check_different")))) ∧ (PySem.W.findIn K (.ref (Sh.gA K "Cuts")) "__init__" = some (some (.ref (Sh.mA K (Sh.gA K "Cuts") "__init__")))) ∧ (PySem.W.isFn K (.ref (Sh.mA K (Sh.gA K "Cuts") "__init__")) = true) ∧ (PySem.W.findIn K (.ref (Sh.gA K "Cuts")) "__eq__" = some (some (.ref (Sh.mA K (Sh.gA K "Cuts") "__eq__")))) ∧ (PySem.W.isFn K (.ref (Sh.mA K (Sh.gA K "Cuts") "__eq__")) = true) := by
  unfold gr0 at h
  obtain ⟨h0, h⟩ := Sh.band h
  obtain ⟨h1, h⟩ := Sh.band h
  obtain ⟨h2, h⟩ := Sh.band h
  obtain ⟨h3, h⟩ := Sh.band h
  obtain ⟨h4, h⟩ := Sh.band h
  obtain ⟨h5, h⟩ := Sh.band h
  obtain ⟨h6, h⟩ := Sh.band h
  obtain ⟨h7, h⟩ := Sh.band h
  obtain ⟨h8, h⟩ := Sh.band h
  obtain ⟨h9, h⟩ := Sh.band h
  obtain ⟨h10, h⟩ := Sh.band h
  exact ⟨of_decide_eq_true h0, of_decide_eq_true h1, of_decide_eq_true h2, of_decide_eq_true h3, of_decide_eq_true h4, of_decide_eq_true h5, of_decide_eq_true h6, of_decide_eq_true h7, of_decide_eq_true h8, of_decide_eq_true h9, of_decide_eq_true h10, of_decide_eq_true h⟩
def gr1 (K : PySem.W.Frag) : Bool := decide (PySem.W.findIn K (.ref (Sh.gA K "Cuts")) "shows" = some (some (.ref (Sh.mA K (Sh.gA K "Cuts") "shows")))) && (decide (PySem.W.isFn K (.ref (Sh.mA K (Sh.gA K "Cuts") "shows")) = true) && (decide (PySem.W.findIn K (.ref (Sh.gA K "Needs")) "__init__" = some (some (.ref (Sh.mA K (Sh.gA K "Needs") "__init__")))) && (decide (PySem.W.isFn K (.ref (Sh.mA K (Sh.gA K "Needs") "__init__")) = true) && (decide (PySem.W.findIn K (.ref (Sh.gA K "Needs")) "__eq__" = some (some (.ref (Sh.mA K (Sh.gA K "Needs") "__eq__")))) && (decide (PySem.W.isFn K (.ref (Sh.mA K (Sh.gA K "Needs") "__eq__")) = true) && (decide (PySem.W.findIn K (.ref (Sh.gA K "Needs")) "shows" = some (some (.ref (Sh.mA K (Sh.gA K "Needs") "shows")))) && (decide (PySem.W.isFn K (.ref (Sh.mA K (Sh.gA K "Needs") "shows")) = true) && (decide (PySem.W.nsIn K mainGlobals "judge_runs" = some (some (.ref (Sh.gA K "judge_runs")))) && (decide (PySem.W.nsIn K mainGlobals "input_of" = some (some (.ref (Sh.gA K "input_of")))) && (decide (PySem.W.nsIn K mainGlobals "check_number" = some (some (.ref (Sh.gA K "check_number")))) && (decide (PySem.W.nsIn K mainGlobals "given_of" = some (some (.ref (Sh.gA K "given_of")))))))))))))))
theorem gr1_ok {K : PySem.W.Frag} (h : gr1 K = true) : (PySem.W.findIn K (.ref (Sh.gA K "Cuts")) "shows" = some (some (.ref (Sh.mA K (Sh.gA K "Cuts") "shows")))) ∧ (PySem.W.isFn K (.ref (Sh.mA K (Sh.gA K "Cuts") "shows")) = true) ∧ (PySem.W.findIn K (.ref (Sh.gA K "Needs")) "__init__" = some (some (.ref (Sh.mA K (Sh.gA K "Needs") "__init__")))) ∧ (PySem.W.isFn K (.ref (Sh.mA K (Sh.gA K "Needs") "__init__")) = true) ∧ (PySem.W.findIn K (.ref (Sh.gA K "Needs")) "__eq__" = some (some (.ref (Sh.mA K (Sh.gA K "Needs") "__eq__")))) ∧ (PySem.W.isFn K (.ref (Sh.mA K (Sh.gA K "Needs") "__eq__")) = true) ∧ (PySem.W.findIn K (.ref (Sh.gA K "Needs")) "shows" = some (some (.ref (Sh.mA K (Sh.gA K "Needs") "shows")))) ∧ (PySem.W.isFn K (.ref (Sh.mA K (Sh.gA K "Needs") "shows")) = true) ∧ (PySem.W.nsIn K mainGlobals "judge_runs" = some (some (.ref (Sh.gA K "judge_runs")))) ∧ (PySem.W.nsIn K mainGlobals "input_of" = some (some (.ref (Sh.gA K "input_of")))) ∧ (PySem.W.nsIn K mainGlobals "check_number" = some (some (.ref (Sh.gA K "check_number")))) ∧ (PySem.W.nsIn K mainGlobals "given_of" = some (some (.ref (Sh.gA K "given_of")))) := by
  unfold gr1 at h
  obtain ⟨h0, h⟩ := Sh.band h
  obtain ⟨h1, h⟩ := Sh.band h
  obtain ⟨h2, h⟩ := Sh.band h
  obtain ⟨h3, h⟩ := Sh.band h
  obtain ⟨h4, h⟩ := Sh.band h
  obtain ⟨h5, h⟩ := Sh.band h
  obtain ⟨h6, h⟩ := Sh.band h
  obtain ⟨h7, h⟩ := Sh.band h
  obtain ⟨h8, h⟩ := Sh.band h
  obtain ⟨h9, h⟩ := Sh.band h
  obtain ⟨h10, h⟩ := Sh.band h
  exact ⟨of_decide_eq_true h0, of_decide_eq_true h1, of_decide_eq_true h2, of_decide_eq_true h3, of_decide_eq_true h4, of_decide_eq_true h5, of_decide_eq_true h6, of_decide_eq_true h7, of_decide_eq_true h8, of_decide_eq_true h9, of_decide_eq_true h10, of_decide_eq_true h⟩
def gr2 (K : PySem.W.Frag) : Bool := decide (PySem.W.nsIn K mainGlobals "written_by_replacement" = some (some (.ref (Sh.gA K "written_by_replacement")))) && (decide (PySem.W.nsIn K mainGlobals "is_way" = some (some (.ref (Sh.gA K "is_way")))) && (decide (PySem.W.nsIn K mainGlobals "runs_in" = some (some (.ref (Sh.gA K "runs_in")))) && (decide (PySem.W.nsIn K mainGlobals "held_back" = some (some (.ref (Sh.gA K "held_back")))) && (decide (PySem.W.nsIn K mainGlobals "_law_number" = some (some (.ref (Sh.gA K "_law_number")))) && (decide (PySem.W.nsIn K mainGlobals "_law_input" = some (some (.ref (Sh.gA K "_law_input")))) && (decide (PySem.W.nsIn K mainGlobals "_law_cut" = some (some (.ref (Sh.gA K "_law_cut")))) && (decide (PySem.W.nsIn K mainGlobals "_law_is_way" = some (some (.ref (Sh.gA K "_law_is_way")))) && (decide (PySem.W.nsIn K mainGlobals "_law_are_levels" = some (some (.ref (Sh.gA K "_law_are_levels")))) && (decide (PySem.W.nsIn K mainGlobals "_law_runs" = some (some (.ref (Sh.gA K "_law_runs")))) && (decide (PySem.W.nsIn K mainGlobals "_law_levels" = some (some (.ref (Sh.gA K "_law_levels")))) && (decide (PySem.W.nsIn K mainGlobals "_law_written" = some (some (.ref (Sh.gA K "_law_written")))))))))))))))
theorem gr2_ok {K : PySem.W.Frag} (h : gr2 K = true) : (PySem.W.nsIn K mainGlobals "written_by_replacement" = some (some (.ref (Sh.gA K "written_by_replacement")))) ∧ (PySem.W.nsIn K mainGlobals "is_way" = some (some (.ref (Sh.gA K "is_way")))) ∧ (PySem.W.nsIn K mainGlobals "runs_in" = some (some (.ref (Sh.gA K "runs_in")))) ∧ (PySem.W.nsIn K mainGlobals "held_back" = some (some (.ref (Sh.gA K "held_back")))) ∧ (PySem.W.nsIn K mainGlobals "_law_number" = some (some (.ref (Sh.gA K "_law_number")))) ∧ (PySem.W.nsIn K mainGlobals "_law_input" = some (some (.ref (Sh.gA K "_law_input")))) ∧ (PySem.W.nsIn K mainGlobals "_law_cut" = some (some (.ref (Sh.gA K "_law_cut")))) ∧ (PySem.W.nsIn K mainGlobals "_law_is_way" = some (some (.ref (Sh.gA K "_law_is_way")))) ∧ (PySem.W.nsIn K mainGlobals "_law_are_levels" = some (some (.ref (Sh.gA K "_law_are_levels")))) ∧ (PySem.W.nsIn K mainGlobals "_law_runs" = some (some (.ref (Sh.gA K "_law_runs")))) ∧ (PySem.W.nsIn K mainGlobals "_law_levels" = some (some (.ref (Sh.gA K "_law_levels")))) ∧ (PySem.W.nsIn K mainGlobals "_law_written" = some (some (.ref (Sh.gA K "_law_written")))) := by
  unfold gr2 at h
  obtain ⟨h0, h⟩ := Sh.band h
  obtain ⟨h1, h⟩ := Sh.band h
  obtain ⟨h2, h⟩ := Sh.band h
  obtain ⟨h3, h⟩ := Sh.band h
  obtain ⟨h4, h⟩ := Sh.band h
  obtain ⟨h5, h⟩ := Sh.band h
  obtain ⟨h6, h⟩ := Sh.band h
  obtain ⟨h7, h⟩ := Sh.band h
  obtain ⟨h8, h⟩ := Sh.band h
  obtain ⟨h9, h⟩ := Sh.band h
  obtain ⟨h10, h⟩ := Sh.band h
  exact ⟨of_decide_eq_true h0, of_decide_eq_true h1, of_decide_eq_true h2, of_decide_eq_true h3, of_decide_eq_true h4, of_decide_eq_true h5, of_decide_eq_true h6, of_decide_eq_true h7, of_decide_eq_true h8, of_decide_eq_true h9, of_decide_eq_true h10, of_decide_eq_true h⟩
def gr3 (K : PySem.W.Frag) : Bool := decide (PySem.W.nsIn K mainGlobals "law" = some (some (.ref (Sh.gA K "law")))) && (decide (PySem.W.nsIn K mainGlobals "GREATEST_KEY" = some (some (.int 1000000000 (Sh.tokI K mainGlobals "GREATEST_KEY")))) && (decide (PySem.W.nsIn K mainGlobals "MOST_PLACES" = some (some (.int 12 (Sh.tokI K mainGlobals "MOST_PLACES")))) && (decide (PySem.W.nsIn K mainGlobals "MOST_ROOM" = some (some (.int 12 (Sh.tokI K mainGlobals "MOST_ROOM")))) && (decide (PySem.W.nsIn K mainGlobals "all" = some none) && (decide (PySem.W.nsIn K mainGlobals "any" = some none) && (decide (PySem.W.nsIn K mainGlobals "bool" = some none) && (decide (PySem.W.nsIn K mainGlobals "dict" = some none) && (decide (PySem.W.nsIn K mainGlobals "enumerate" = some none) && (decide (PySem.W.nsIn K mainGlobals "int" = some none) && (decide (PySem.W.nsIn K mainGlobals "isinstance" = some none) && (decide (PySem.W.nsIn K mainGlobals "len" = some none))))))))))))
theorem gr3_ok {K : PySem.W.Frag} (h : gr3 K = true) : (PySem.W.nsIn K mainGlobals "law" = some (some (.ref (Sh.gA K "law")))) ∧ (PySem.W.nsIn K mainGlobals "GREATEST_KEY" = some (some (.int 1000000000 (Sh.tokI K mainGlobals "GREATEST_KEY")))) ∧ (PySem.W.nsIn K mainGlobals "MOST_PLACES" = some (some (.int 12 (Sh.tokI K mainGlobals "MOST_PLACES")))) ∧ (PySem.W.nsIn K mainGlobals "MOST_ROOM" = some (some (.int 12 (Sh.tokI K mainGlobals "MOST_ROOM")))) ∧ (PySem.W.nsIn K mainGlobals "all" = some none) ∧ (PySem.W.nsIn K mainGlobals "any" = some none) ∧ (PySem.W.nsIn K mainGlobals "bool" = some none) ∧ (PySem.W.nsIn K mainGlobals "dict" = some none) ∧ (PySem.W.nsIn K mainGlobals "enumerate" = some none) ∧ (PySem.W.nsIn K mainGlobals "int" = some none) ∧ (PySem.W.nsIn K mainGlobals "isinstance" = some none) ∧ (PySem.W.nsIn K mainGlobals "len" = some none) := by
  unfold gr3 at h
  obtain ⟨h0, h⟩ := Sh.band h
  obtain ⟨h1, h⟩ := Sh.band h
  obtain ⟨h2, h⟩ := Sh.band h
  obtain ⟨h3, h⟩ := Sh.band h
  obtain ⟨h4, h⟩ := Sh.band h
  obtain ⟨h5, h⟩ := Sh.band h
  obtain ⟨h6, h⟩ := Sh.band h
  obtain ⟨h7, h⟩ := Sh.band h
  obtain ⟨h8, h⟩ := Sh.band h
  obtain ⟨h9, h⟩ := Sh.band h
  obtain ⟨h10, h⟩ := Sh.band h
  exact ⟨of_decide_eq_true h0, of_decide_eq_true h1, of_decide_eq_true h2, of_decide_eq_true h3, of_decide_eq_true h4, of_decide_eq_true h5, of_decide_eq_true h6, of_decide_eq_true h7, of_decide_eq_true h8, of_decide_eq_true h9, of_decide_eq_true h10, of_decide_eq_true h⟩
def gr4 (K : PySem.W.Frag) : Bool := decide (PySem.W.nsIn K mainGlobals "list" = some none) && (decide (PySem.W.nsIn K mainGlobals "max" = some none) && (decide (PySem.W.nsIn K mainGlobals "min" = some none) && (decide (PySem.W.nsIn K mainGlobals "range" = some none) && (decide (PySem.W.nsIn K mainGlobals "sorted" = some none) && (decide (PySem.W.nsIn K mainGlobals "sum" = some none) && (decide (PySem.W.nsIn K mainGlobals "tuple" = some none) && (decide (PySem.W.plainGet K (Sh.gA K "Cuts") Str.empty = true) && (decide (PySem.W.hasDictIn K (Sh.gA K "Cuts") = true) && (decide (PySem.W.plainOver K (Sh.gA K "Cuts") = true) && (decide (PySem.W.findIn K (.ref (Sh.gA K "Cuts")) "__setattr__" = some (some (.builtin "object.__setattr__"))) && (decide (PySem.W.findIn K (.ref (Sh.gA K "Cuts")) "written" = some none))))))))))))
theorem gr4_ok {K : PySem.W.Frag} (h : gr4 K = true) : (PySem.W.nsIn K mainGlobals "list" = some none) ∧ (PySem.W.nsIn K mainGlobals "max" = some none) ∧ (PySem.W.nsIn K mainGlobals "min" = some none) ∧ (PySem.W.nsIn K mainGlobals "range" = some none) ∧ (PySem.W.nsIn K mainGlobals "sorted" = some none) ∧ (PySem.W.nsIn K mainGlobals "sum" = some none) ∧ (PySem.W.nsIn K mainGlobals "tuple" = some none) ∧ (PySem.W.plainGet K (Sh.gA K "Cuts") Str.empty = true) ∧ (PySem.W.hasDictIn K (Sh.gA K "Cuts") = true) ∧ (PySem.W.plainOver K (Sh.gA K "Cuts") = true) ∧ (PySem.W.findIn K (.ref (Sh.gA K "Cuts")) "__setattr__" = some (some (.builtin "object.__setattr__"))) ∧ (PySem.W.findIn K (.ref (Sh.gA K "Cuts")) "written" = some none) := by
  unfold gr4 at h
  obtain ⟨h0, h⟩ := Sh.band h
  obtain ⟨h1, h⟩ := Sh.band h
  obtain ⟨h2, h⟩ := Sh.band h
  obtain ⟨h3, h⟩ := Sh.band h
  obtain ⟨h4, h⟩ := Sh.band h
  obtain ⟨h5, h⟩ := Sh.band h
  obtain ⟨h6, h⟩ := Sh.band h
  obtain ⟨h7, h⟩ := Sh.band h
  obtain ⟨h8, h⟩ := Sh.band h
  obtain ⟨h9, h⟩ := Sh.band h
  obtain ⟨h10, h⟩ := Sh.band h
  exact ⟨of_decide_eq_true h0, of_decide_eq_true h1, of_decide_eq_true h2, of_decide_eq_true h3, of_decide_eq_true h4, of_decide_eq_true h5, of_decide_eq_true h6, of_decide_eq_true h7, of_decide_eq_true h8, of_decide_eq_true h9, of_decide_eq_true h10, of_decide_eq_true h⟩
def gr5 (K : PySem.W.Frag) : Bool := decide (PySem.W.makesIn K (Sh.gA K "Cuts") = true) && (decide (PySem.W.keepIn K (.ref (Sh.gA K "Cuts")) = true) && (decide (PySem.W.findIn K (.ref (Sh.gA K "Cuts")) "__ne__" = some (some (.builtin "object.__ne__"))) && (decide (PySem.W.subIn K (.ref (Sh.gA K "Cuts")) (.type "object") = some true) && (decide (PySem.W.subIn K (.type "int") (.ref (Sh.gA K "Cuts")) = some false) && (decide (PySem.W.subIn K (.type "tuple") (.ref (Sh.gA K "Cuts")) = some false) && (decide (PySem.W.findIn K (.ref (Sh.gA K "Cuts")) "__class__" = some (some (.builtin "object.__class__"))) && (decide (PySem.W.specialIn K (.builtin "object.__class__") "__get__" = some (some (.builtin "getset_descriptor.__get__"))) && (decide (PySem.W.takesIn K (.builtin "object.__class__") = some true) && (decide (PySem.W.mroIn K (Sh.gA K "Cuts") (.type "object") = some true) && (decide (PySem.W.isClsIn K (Sh.gA K "Cuts") = true) && (decide (PySem.W.typeIn K (.ref (Sh.gA K "Cuts")) = some (.type "type")))))))))))))
theorem gr5_ok {K : PySem.W.Frag} (h : gr5 K = true) : (PySem.W.makesIn K (Sh.gA K "Cuts") = true) ∧ (PySem.W.keepIn K (.ref (Sh.gA K "Cuts")) = true) ∧ (PySem.W.findIn K (.ref (Sh.gA K "Cuts")) "__ne__" = some (some (.builtin "object.__ne__"))) ∧ (PySem.W.subIn K (.ref (Sh.gA K "Cuts")) (.type "object") = some true) ∧ (PySem.W.subIn K (.type "int") (.ref (Sh.gA K "Cuts")) = some false) ∧ (PySem.W.subIn K (.type "tuple") (.ref (Sh.gA K "Cuts")) = some false) ∧ (PySem.W.findIn K (.ref (Sh.gA K "Cuts")) "__class__" = some (some (.builtin "object.__class__"))) ∧ (PySem.W.specialIn K (.builtin "object.__class__") "__get__" = some (some (.builtin "getset_descriptor.__get__"))) ∧ (PySem.W.takesIn K (.builtin "object.__class__") = some true) ∧ (PySem.W.mroIn K (Sh.gA K "Cuts") (.type "object") = some true) ∧ (PySem.W.isClsIn K (Sh.gA K "Cuts") = true) ∧ (PySem.W.typeIn K (.ref (Sh.gA K "Cuts")) = some (.type "type")) := by
  unfold gr5 at h
  obtain ⟨h0, h⟩ := Sh.band h
  obtain ⟨h1, h⟩ := Sh.band h
  obtain ⟨h2, h⟩ := Sh.band h
  obtain ⟨h3, h⟩ := Sh.band h
  obtain ⟨h4, h⟩ := Sh.band h
  obtain ⟨h5, h⟩ := Sh.band h
  obtain ⟨h6, h⟩ := Sh.band h
  obtain ⟨h7, h⟩ := Sh.band h
  obtain ⟨h8, h⟩ := Sh.band h
  obtain ⟨h9, h⟩ := Sh.band h
  obtain ⟨h10, h⟩ := Sh.band h
  exact ⟨of_decide_eq_true h0, of_decide_eq_true h1, of_decide_eq_true h2, of_decide_eq_true h3, of_decide_eq_true h4, of_decide_eq_true h5, of_decide_eq_true h6, of_decide_eq_true h7, of_decide_eq_true h8, of_decide_eq_true h9, of_decide_eq_true h10, of_decide_eq_true h⟩
def gr6 (K : PySem.W.Frag) : Bool := decide (PySem.W.subIn K (.ref (Sh.gA K "Needs")) (.ref (Sh.gA K "Cuts")) = some false) && (decide (((Sh.gA K "Needs") == (Sh.gA K "Cuts")) = false) && (decide (PySem.W.plainGet K (Sh.gA K "Needs") Str.empty = true) && (decide (PySem.W.hasDictIn K (Sh.gA K "Needs") = true) && (decide (PySem.W.plainOver K (Sh.gA K "Needs") = true) && (decide (PySem.W.findIn K (.ref (Sh.gA K "Needs")) "__setattr__" = some (some (.builtin "object.__setattr__"))) && (decide (PySem.W.findIn K (.ref (Sh.gA K "Needs")) "levels" = some none) && (decide (PySem.W.makesIn K (Sh.gA K "Needs") = true) && (decide (PySem.W.keepIn K (.ref (Sh.gA K "Needs")) = true) && (decide (PySem.W.findIn K (.ref (Sh.gA K "Needs")) "__ne__" = some (some (.builtin "object.__ne__"))) && (decide (PySem.W.subIn K (.ref (Sh.gA K "Needs")) (.type "object") = some true) && (decide (PySem.W.subIn K (.type "int") (.ref (Sh.gA K "Needs")) = some false))))))))))))
theorem gr6_ok {K : PySem.W.Frag} (h : gr6 K = true) : (PySem.W.subIn K (.ref (Sh.gA K "Needs")) (.ref (Sh.gA K "Cuts")) = some false) ∧ (((Sh.gA K "Needs") == (Sh.gA K "Cuts")) = false) ∧ (PySem.W.plainGet K (Sh.gA K "Needs") Str.empty = true) ∧ (PySem.W.hasDictIn K (Sh.gA K "Needs") = true) ∧ (PySem.W.plainOver K (Sh.gA K "Needs") = true) ∧ (PySem.W.findIn K (.ref (Sh.gA K "Needs")) "__setattr__" = some (some (.builtin "object.__setattr__"))) ∧ (PySem.W.findIn K (.ref (Sh.gA K "Needs")) "levels" = some none) ∧ (PySem.W.makesIn K (Sh.gA K "Needs") = true) ∧ (PySem.W.keepIn K (.ref (Sh.gA K "Needs")) = true) ∧ (PySem.W.findIn K (.ref (Sh.gA K "Needs")) "__ne__" = some (some (.builtin "object.__ne__"))) ∧ (PySem.W.subIn K (.ref (Sh.gA K "Needs")) (.type "object") = some true) ∧ (PySem.W.subIn K (.type "int") (.ref (Sh.gA K "Needs")) = some false) := by
  unfold gr6 at h
  obtain ⟨h0, h⟩ := Sh.band h
  obtain ⟨h1, h⟩ := Sh.band h
  obtain ⟨h2, h⟩ := Sh.band h
  obtain ⟨h3, h⟩ := Sh.band h
  obtain ⟨h4, h⟩ := Sh.band h
  obtain ⟨h5, h⟩ := Sh.band h
  obtain ⟨h6, h⟩ := Sh.band h
  obtain ⟨h7, h⟩ := Sh.band h
  obtain ⟨h8, h⟩ := Sh.band h
  obtain ⟨h9, h⟩ := Sh.band h
  obtain ⟨h10, h⟩ := Sh.band h
  exact ⟨of_decide_eq_true h0, of_decide_eq_true h1, of_decide_eq_true h2, of_decide_eq_true h3, of_decide_eq_true h4, of_decide_eq_true h5, of_decide_eq_true h6, of_decide_eq_true h7, of_decide_eq_true h8, of_decide_eq_true h9, of_decide_eq_true h10, of_decide_eq_true h⟩
def gr7 (K : PySem.W.Frag) : Bool := decide (PySem.W.subIn K (.type "tuple") (.ref (Sh.gA K "Needs")) = some false) && (decide (PySem.W.findIn K (.ref (Sh.gA K "Needs")) "__class__" = some (some (.builtin "object.__class__"))) && (decide (PySem.W.specialIn K (.builtin "object.__class__") "__get__" = some (some (.builtin "getset_descriptor.__get__"))) && (decide (PySem.W.takesIn K (.builtin "object.__class__") = some true) && (decide (PySem.W.mroIn K (Sh.gA K "Needs") (.type "object") = some true) && (decide (PySem.W.isClsIn K (Sh.gA K "Needs") = true) && (decide (PySem.W.typeIn K (.ref (Sh.gA K "Needs")) = some (.type "type")) && (decide (PySem.W.subIn K (.ref (Sh.gA K "Cuts")) (.ref (Sh.gA K "Needs")) = some false) && (decide (((Sh.gA K "Cuts") == (Sh.gA K "Needs")) = false) && (Sh.fnB K (Sh.gA K "is_integer") "is_integer" false && (Sh.fnB K (Sh.gA K "is_integer_from") "is_integer_from" false && (Sh.fnB K (Sh.gA K "is_key") "is_key" false)))))))))))
theorem gr7_ok {K : PySem.W.Frag} (h : gr7 K = true) : (PySem.W.subIn K (.type "tuple") (.ref (Sh.gA K "Needs")) = some false) ∧ (PySem.W.findIn K (.ref (Sh.gA K "Needs")) "__class__" = some (some (.builtin "object.__class__"))) ∧ (PySem.W.specialIn K (.builtin "object.__class__") "__get__" = some (some (.builtin "getset_descriptor.__get__"))) ∧ (PySem.W.takesIn K (.builtin "object.__class__") = some true) ∧ (PySem.W.mroIn K (Sh.gA K "Needs") (.type "object") = some true) ∧ (PySem.W.isClsIn K (Sh.gA K "Needs") = true) ∧ (PySem.W.typeIn K (.ref (Sh.gA K "Needs")) = some (.type "type")) ∧ (PySem.W.subIn K (.ref (Sh.gA K "Cuts")) (.ref (Sh.gA K "Needs")) = some false) ∧ (((Sh.gA K "Cuts") == (Sh.gA K "Needs")) = false) ∧ (Sh.fnB K (Sh.gA K "is_integer") "is_integer" false = true) ∧ (Sh.fnB K (Sh.gA K "is_integer_from") "is_integer_from" false = true) ∧ (Sh.fnB K (Sh.gA K "is_key") "is_key" false = true) := by
  unfold gr7 at h
  obtain ⟨h0, h⟩ := Sh.band h
  obtain ⟨h1, h⟩ := Sh.band h
  obtain ⟨h2, h⟩ := Sh.band h
  obtain ⟨h3, h⟩ := Sh.band h
  obtain ⟨h4, h⟩ := Sh.band h
  obtain ⟨h5, h⟩ := Sh.band h
  obtain ⟨h6, h⟩ := Sh.band h
  obtain ⟨h7, h⟩ := Sh.band h
  obtain ⟨h8, h⟩ := Sh.band h
  obtain ⟨h9, h⟩ := Sh.band h
  obtain ⟨h10, h⟩ := Sh.band h
  exact ⟨of_decide_eq_true h0, of_decide_eq_true h1, of_decide_eq_true h2, of_decide_eq_true h3, of_decide_eq_true h4, of_decide_eq_true h5, of_decide_eq_true h6, of_decide_eq_true h7, of_decide_eq_true h8, h9, h10, h⟩
def gr8 (K : PySem.W.Frag) : Bool := Sh.fnB K (Sh.gA K "check_room") "check_room" false && (Sh.fnB K (Sh.gA K "row_of") "row_of" false && (Sh.fnB K (Sh.gA K "check_different") "check_different" false && (Sh.fnB K (Sh.mA K (Sh.gA K "Cuts") "__init__") "Cuts.__init__" false && (Sh.fnB K (Sh.mA K (Sh.gA K "Cuts") "__eq__") "Cuts.__eq__" false && (Sh.fnB K (Sh.mA K (Sh.gA K "Cuts") "shows") "Cuts.shows" false && (Sh.fnB K (Sh.mA K (Sh.gA K "Needs") "__init__") "Needs.__init__" false && (Sh.fnB K (Sh.mA K (Sh.gA K "Needs") "__eq__") "Needs.__eq__" false && (Sh.fnB K (Sh.mA K (Sh.gA K "Needs") "shows") "Needs.shows" false && (Sh.fnB K (Sh.gA K "judge_runs") "judge_runs" false && (Sh.fnB K (Sh.gA K "input_of") "input_of" false && (Sh.fnB K (Sh.gA K "check_number") "check_number" false)))))))))))
theorem gr8_ok {K : PySem.W.Frag} (h : gr8 K = true) : (Sh.fnB K (Sh.gA K "check_room") "check_room" false = true) ∧ (Sh.fnB K (Sh.gA K "row_of") "row_of" false = true) ∧ (Sh.fnB K (Sh.gA K "check_different") "check_different" false = true) ∧ (Sh.fnB K (Sh.mA K (Sh.gA K "Cuts") "__init__") "Cuts.__init__" false = true) ∧ (Sh.fnB K (Sh.mA K (Sh.gA K "Cuts") "__eq__") "Cuts.__eq__" false = true) ∧ (Sh.fnB K (Sh.mA K (Sh.gA K "Cuts") "shows") "Cuts.shows" false = true) ∧ (Sh.fnB K (Sh.mA K (Sh.gA K "Needs") "__init__") "Needs.__init__" false = true) ∧ (Sh.fnB K (Sh.mA K (Sh.gA K "Needs") "__eq__") "Needs.__eq__" false = true) ∧ (Sh.fnB K (Sh.mA K (Sh.gA K "Needs") "shows") "Needs.shows" false = true) ∧ (Sh.fnB K (Sh.gA K "judge_runs") "judge_runs" false = true) ∧ (Sh.fnB K (Sh.gA K "input_of") "input_of" false = true) ∧ (Sh.fnB K (Sh.gA K "check_number") "check_number" false = true) := by
  unfold gr8 at h
  obtain ⟨h0, h⟩ := Sh.band h
  obtain ⟨h1, h⟩ := Sh.band h
  obtain ⟨h2, h⟩ := Sh.band h
  obtain ⟨h3, h⟩ := Sh.band h
  obtain ⟨h4, h⟩ := Sh.band h
  obtain ⟨h5, h⟩ := Sh.band h
  obtain ⟨h6, h⟩ := Sh.band h
  obtain ⟨h7, h⟩ := Sh.band h
  obtain ⟨h8, h⟩ := Sh.band h
  obtain ⟨h9, h⟩ := Sh.band h
  obtain ⟨h10, h⟩ := Sh.band h
  exact ⟨h0, h1, h2, h3, h4, h5, h6, h7, h8, h9, h10, h⟩
def gr9 (K : PySem.W.Frag) : Bool := Sh.fnB K (Sh.gA K "given_of") "given_of" false && (Sh.fnB K (Sh.gA K "written_by_replacement") "written_by_replacement" false && (Sh.fnB K (Sh.gA K "is_way") "is_way" false && (Sh.fnB K (Sh.gA K "runs_in") "runs_in" false && (Sh.fnB K (Sh.gA K "held_back") "held_back" false && (Sh.fnB K (Sh.gA K "_law_number") "_law_number" false && (Sh.fnB K (Sh.gA K "_law_input") "_law_input" false && (Sh.fnB K (Sh.gA K "_law_cut") "_law_cut" false && (Sh.fnB K (Sh.gA K "_law_is_way") "_law_is_way" false && (Sh.fnB K (Sh.gA K "_law_are_levels") "_law_are_levels" false && (Sh.fnB K (Sh.gA K "_law_runs") "_law_runs" false && (Sh.fnB K (Sh.gA K "_law_levels") "_law_levels" false)))))))))))
theorem gr9_ok {K : PySem.W.Frag} (h : gr9 K = true) : (Sh.fnB K (Sh.gA K "given_of") "given_of" false = true) ∧ (Sh.fnB K (Sh.gA K "written_by_replacement") "written_by_replacement" false = true) ∧ (Sh.fnB K (Sh.gA K "is_way") "is_way" false = true) ∧ (Sh.fnB K (Sh.gA K "runs_in") "runs_in" false = true) ∧ (Sh.fnB K (Sh.gA K "held_back") "held_back" false = true) ∧ (Sh.fnB K (Sh.gA K "_law_number") "_law_number" false = true) ∧ (Sh.fnB K (Sh.gA K "_law_input") "_law_input" false = true) ∧ (Sh.fnB K (Sh.gA K "_law_cut") "_law_cut" false = true) ∧ (Sh.fnB K (Sh.gA K "_law_is_way") "_law_is_way" false = true) ∧ (Sh.fnB K (Sh.gA K "_law_are_levels") "_law_are_levels" false = true) ∧ (Sh.fnB K (Sh.gA K "_law_runs") "_law_runs" false = true) ∧ (Sh.fnB K (Sh.gA K "_law_levels") "_law_levels" false = true) := by
  unfold gr9 at h
  obtain ⟨h0, h⟩ := Sh.band h
  obtain ⟨h1, h⟩ := Sh.band h
  obtain ⟨h2, h⟩ := Sh.band h
  obtain ⟨h3, h⟩ := Sh.band h
  obtain ⟨h4, h⟩ := Sh.band h
  obtain ⟨h5, h⟩ := Sh.band h
  obtain ⟨h6, h⟩ := Sh.band h
  obtain ⟨h7, h⟩ := Sh.band h
  obtain ⟨h8, h⟩ := Sh.band h
  obtain ⟨h9, h⟩ := Sh.band h
  obtain ⟨h10, h⟩ := Sh.band h
  exact ⟨h0, h1, h2, h3, h4, h5, h6, h7, h8, h9, h10, h⟩
def gr10 (K : PySem.W.Frag) : Bool := Sh.fnB K (Sh.gA K "_law_written") "_law_written" false && (Sh.fnB K (Sh.gA K "law") "law" false)
theorem gr10_ok {K : PySem.W.Frag} (h : gr10 K = true) : (Sh.fnB K (Sh.gA K "_law_written") "_law_written" false = true) ∧ (Sh.fnB K (Sh.gA K "law") "law" false = true) := by
  unfold gr10 at h
  obtain ⟨h0, h⟩ := Sh.band h
  exact ⟨h0, h⟩
def exs (K : PySem.W.Frag) : Bool := gr0 K && (gr1 K && (gr2 K && (gr3 K && (gr4 K && (gr5 K && (gr6 K && (gr7 K && (gr8 K && (gr9 K && (gr10 K))))))))))
def tfs (K : PySem.W.Frag) : List (Addr × Addr) := []
def loose : List Str := (["__name__", "HeapError", "BadRow", "SameKeys", "BadNumber", "BadRoom", "MOST_PLACES", "MOST_ROOM", "GREATEST_KEY", "is_integer", "is_integer_from", "is_key", "check_room", "row_of", "check_different", "Cuts", "Needs", "judge_runs", "input_of", "check_number", "given_of", "written_by_replacement", "is_way", "runs_in", "held_back", "_law_number", "_law_input", "_law_cut", "_law_is_way", "_law_are_levels"] : List Str) ++ (["_law_runs", "_law_levels", "_law_written"] : List Str)
def adr : List Addr := List.range 1000
abbrev hk : PySem.W.Hook := Sh.hook adr fns exs tfs
theorem run (w : World) : HandSHeadRun.RunEq R0 (PySem.W.view R0.prog [36]) hk (Sh.obT adr fns exs tfs) 20000 loose w := by
  intro os
  kernel_rfl
theorem law_at {w : World} {h : Heap} {mg : Str → Option Value} {fa : Addr} {K : PySem.W.Frag} (X : K.In h) (c : Sh.Tells fns exs tfs h K) (G : h.Ns mainGlobals mg) (hfa : mg "law" = some (.ref fa)) : ∃ fd : FuncData, (∀ (s : Shared) (v : Value), BindsTo s fd ⟨[v], []⟩ [("script", v)]) ∧ ∀ base : Heap, K.In base → base.Ns mainGlobals mg → FnOk (PySem.Challenge.rw_heaprows_k63_evidence_of_runs).prog w K mg base CX0 11 fa fd ["script"] (spLaw K) := by
  have h := c.ex
  unfold exs at h
  obtain ⟨e0, h⟩ := Sh.band h
  obtain ⟨e1, h⟩ := Sh.band h
  obtain ⟨e2, h⟩ := Sh.band h
  obtain ⟨e3, h⟩ := Sh.band h
  obtain ⟨e4, h⟩ := Sh.band h
  obtain ⟨e5, h⟩ := Sh.band h
  obtain ⟨e6, h⟩ := Sh.band h
  obtain ⟨e7, h⟩ := Sh.band h
  obtain ⟨e8, h⟩ := Sh.band h
  obtain ⟨e9, h⟩ := Sh.band h
  obtain ⟨h_aCC, h_aCE, h_a_is_integer, h_a_is_integer_from, h_a_is_key, h_a_check_room, h_a_row_of, h_a_check_different, h_a_c___init__, h_i_c___init__, h_a_c___eq__, h_i_c___eq__⟩ := gr0_ok e0
  obtain ⟨h_a_c_shows, h_i_c_shows, h_a_e___init__, h_i_e___init__, h_a_e___eq__, h_i_e___eq__, h_a_e_shows, h_i_e_shows, h_a_judge_runs, h_a_input_of, h_a_check_number, h_a_given_of⟩ := gr1_ok e1
  obtain ⟨h_a_written_by_replacement, h_a_is_way, h_a_runs_in, h_a_held_back, h_a__law_number, h_a__law_input, h_a__law_cut, h_a__law_is_way, h_a__law_are_levels, h_a__law_runs, h_a__law_levels, h_a__law_written⟩ := gr2_ok e2
  obtain ⟨h_a_law, h_q_GREATEST_KEY, h_q_MOST_PLACES, h_q_MOST_ROOM, h_z_all, h_z_any, h_z_bool, h_z_dict, h_z_enumerate, h_z_int, h_z_isinstance, h_z_len⟩ := gr3_ok e3
  obtain ⟨h_z_list, h_z_max, h_z_min, h_z_range, h_z_sorted, h_z_sum, h_z_tuple, h_pgC, h_hdC, h_po_C, h_saC, h_na_cWritten⟩ := gr4_ok e4
  obtain ⟨h_mkC, h_kcC, h_eneC, h_eobC, h_eniC, h_entC, h_kaC, h_knC, h_ktkC, h_kmC, h_kclC, h_ktyC⟩ := gr5_ok e5
  obtain ⟨h_ensC_Needs, h_nesC_Needs, h_pgE, h_hdE, h_po_E, h_saE, h_na_eLevels, h_mkE, h_kcE, h_eneE, h_eobE, h_eniE⟩ := gr6_ok e6
  obtain ⟨h_entE, h_kaE, h_knE, h_ktkE, h_kmE, h_kclE, h_ktyE, h_ensE_Cuts, h_nesE_Cuts, h_b_is_integer, h_b_is_integer_from, h_b_is_key⟩ := gr7_ok e7
  obtain ⟨h_b_check_room, h_b_row_of, h_b_check_different, h_b_c___init__, h_b_c___eq__, h_b_c_shows, h_b_e___init__, h_b_e___eq__, h_b_e_shows, h_b_judge_runs, h_b_input_of, h_b_check_number⟩ := gr8_ok e8
  obtain ⟨h_b_given_of, h_b_written_by_replacement, h_b_is_way, h_b_runs_in, h_b_held_back, h_b__law_number, h_b__law_input, h_b__law_cut, h_b__law_is_way, h_b__law_are_levels, h_b__law_runs, h_b__law_levels⟩ := gr9_ok e9
  obtain ⟨h_b__law_written, h_b_law⟩ := gr10_ok h
  obtain ⟨_, _, _, _, _, _, _, _, _, h_l_is_integer, h_c_is_integer, h_k_is_integer⟩ := Sh.fn_g (d := q_is_integer) (p := (Sh.gA K "is_integer")) (c.fn q_is_integer (Sh.at_ 0 rfl)) h_b_is_integer
  obtain ⟨_, _, _, _, _, _, _, _, _, h_l_is_integer_from, h_c_is_integer_from, h_k_is_integer_from⟩ := Sh.fn_g (d := q_is_integer_from) (p := (Sh.gA K "is_integer_from")) (c.fn q_is_integer_from (Sh.at_ 1 rfl)) h_b_is_integer_from
  obtain ⟨_, _, _, _, _, _, _, _, _, h_l_is_key, h_c_is_key, h_k_is_key⟩ := Sh.fn_g (d := q_is_key) (p := (Sh.gA K "is_key")) (c.fn q_is_key (Sh.at_ 2 rfl)) h_b_is_key
  obtain ⟨_, _, _, _, _, _, _, _, _, h_l_check_room, h_c_check_room, h_k_check_room⟩ := Sh.fn_g (d := q_check_room) (p := (Sh.gA K "check_room")) (c.fn q_check_room (Sh.at_ 3 rfl)) h_b_check_room
  obtain ⟨_, _, _, _, _, _, _, _, _, h_l_row_of, h_c_row_of, h_k_row_of⟩ := Sh.fn_g (d := q_row_of) (p := (Sh.gA K "row_of")) (c.fn q_row_of (Sh.at_ 4 rfl)) h_b_row_of
  obtain ⟨_, _, _, _, _, _, _, _, _, h_l_check_different, h_c_check_different, h_k_check_different⟩ := Sh.fn_g (d := q_check_different) (p := (Sh.gA K "check_different")) (c.fn q_check_different (Sh.at_ 5 rfl)) h_b_check_different
  obtain ⟨_, _, _, _, _, _, _, _, _, h_l_c___init__, h_c_c___init__, h_k_c___init__⟩ := Sh.fn_g (d := q_c___init__) (p := (Sh.mA K (Sh.gA K "Cuts") "__init__")) (c.fn q_c___init__ (Sh.at_ 6 rfl)) h_b_c___init__
  obtain ⟨_, _, _, _, _, _, _, _, _, h_l_c___eq__, h_c_c___eq__, h_k_c___eq__⟩ := Sh.fn_g (d := q_c___eq__) (p := (Sh.mA K (Sh.gA K "Cuts") "__eq__")) (c.fn q_c___eq__ (Sh.at_ 7 rfl)) h_b_c___eq__
  obtain ⟨_, _, _, _, _, _, _, _, _, h_l_c_shows, h_c_c_shows, h_k_c_shows⟩ := Sh.fn_g (d := q_c_shows) (p := (Sh.mA K (Sh.gA K "Cuts") "shows")) (c.fn q_c_shows (Sh.at_ 8 rfl)) h_b_c_shows
  obtain ⟨_, _, _, _, _, _, _, _, _, h_l_e___init__, h_c_e___init__, h_k_e___init__⟩ := Sh.fn_g (d := q_e___init__) (p := (Sh.mA K (Sh.gA K "Needs") "__init__")) (c.fn q_e___init__ (Sh.at_ 9 rfl)) h_b_e___init__
  obtain ⟨_, _, _, _, _, _, _, _, _, h_l_e___eq__, h_c_e___eq__, h_k_e___eq__⟩ := Sh.fn_g (d := q_e___eq__) (p := (Sh.mA K (Sh.gA K "Needs") "__eq__")) (c.fn q_e___eq__ (Sh.at_ 10 rfl)) h_b_e___eq__
  obtain ⟨_, _, _, _, _, _, _, _, _, h_l_e_shows, h_c_e_shows, h_k_e_shows⟩ := Sh.fn_g (d := q_e_shows) (p := (Sh.mA K (Sh.gA K "Needs") "shows")) (c.fn q_e_shows (Sh.at_ 11 rfl)) h_b_e_shows
  obtain ⟨_, _, _, _, _, _, _, _, _, h_l_judge_runs, h_c_judge_runs, h_k_judge_runs⟩ := Sh.fn_g (d := q_judge_runs) (p := (Sh.gA K "judge_runs")) (c.fn q_judge_runs (Sh.at_ 12 rfl)) h_b_judge_runs
  obtain ⟨_, _, _, _, _, _, _, _, _, h_l_input_of, h_c_input_of, h_k_input_of⟩ := Sh.fn_g (d := q_input_of) (p := (Sh.gA K "input_of")) (c.fn q_input_of (Sh.at_ 13 rfl)) h_b_input_of
  obtain ⟨_, _, _, _, _, _, _, _, _, h_l_check_number, h_c_check_number, h_k_check_number⟩ := Sh.fn_g (d := q_check_number) (p := (Sh.gA K "check_number")) (c.fn q_check_number (Sh.at_ 14 rfl)) h_b_check_number
  obtain ⟨_, _, _, _, _, _, _, _, _, h_l_given_of, h_c_given_of, h_k_given_of⟩ := Sh.fn_g (d := q_given_of) (p := (Sh.gA K "given_of")) (c.fn q_given_of (Sh.at_ 15 rfl)) h_b_given_of
  obtain ⟨_, _, _, _, _, _, _, _, _, h_l_written_by_replacement, h_c_written_by_replacement, h_k_written_by_replacement⟩ := Sh.fn_g (d := q_written_by_replacement) (p := (Sh.gA K "written_by_replacement")) (c.fn q_written_by_replacement (Sh.at_ 16 rfl)) h_b_written_by_replacement
  obtain ⟨_, _, _, _, _, _, _, _, _, h_l_is_way, h_c_is_way, h_k_is_way⟩ := Sh.fn_g (d := q_is_way) (p := (Sh.gA K "is_way")) (c.fn q_is_way (Sh.at_ 17 rfl)) h_b_is_way
  obtain ⟨_, _, _, _, _, _, _, _, _, h_l_runs_in, h_c_runs_in, h_k_runs_in⟩ := Sh.fn_g (d := q_runs_in) (p := (Sh.gA K "runs_in")) (c.fn q_runs_in (Sh.at_ 18 rfl)) h_b_runs_in
  obtain ⟨_, _, _, _, _, _, _, _, _, h_l_held_back, h_c_held_back, h_k_held_back⟩ := Sh.fn_g (d := q_held_back) (p := (Sh.gA K "held_back")) (c.fn q_held_back (Sh.at_ 19 rfl)) h_b_held_back
  obtain ⟨_, _, _, _, _, _, _, _, _, h_l__law_number, h_c__law_number, h_k__law_number⟩ := Sh.fn_g (d := q__law_number) (p := (Sh.gA K "_law_number")) (c.fn q__law_number (Sh.at_ 20 rfl)) h_b__law_number
  obtain ⟨_, _, _, _, _, _, _, _, _, h_l__law_input, h_c__law_input, h_k__law_input⟩ := Sh.fn_g (d := q__law_input) (p := (Sh.gA K "_law_input")) (c.fn q__law_input (Sh.at_ 21 rfl)) h_b__law_input
  obtain ⟨_, _, _, _, _, _, _, _, _, h_l__law_cut, h_c__law_cut, h_k__law_cut⟩ := Sh.fn_g (d := q__law_cut) (p := (Sh.gA K "_law_cut")) (c.fn q__law_cut (Sh.at_ 22 rfl)) h_b__law_cut
  obtain ⟨_, _, _, _, _, _, _, _, _, h_l__law_is_way, h_c__law_is_way, h_k__law_is_way⟩ := Sh.fn_g (d := q__law_is_way) (p := (Sh.gA K "_law_is_way")) (c.fn q__law_is_way (Sh.at_ 23 rfl)) h_b__law_is_way
  obtain ⟨_, _, _, _, _, _, _, _, _, h_l__law_are_levels, h_c__law_are_levels, h_k__law_are_levels⟩ := Sh.fn_g (d := q__law_are_levels) (p := (Sh.gA K "_law_are_levels")) (c.fn q__law_are_levels (Sh.at_ 24 rfl)) h_b__law_are_levels
  obtain ⟨_, _, _, _, _, _, _, _, _, h_l__law_runs, h_c__law_runs, h_k__law_runs⟩ := Sh.fn_g (d := q__law_runs) (p := (Sh.gA K "_law_runs")) (c.fn q__law_runs (Sh.at_ 25 rfl)) h_b__law_runs
  obtain ⟨_, _, _, _, _, _, _, _, _, h_l__law_levels, h_c__law_levels, h_k__law_levels⟩ := Sh.fn_g (d := q__law_levels) (p := (Sh.gA K "_law_levels")) (c.fn q__law_levels (Sh.at_ 26 rfl)) h_b__law_levels
  obtain ⟨_, _, _, _, _, _, _, _, _, h_l__law_written, h_c__law_written, h_k__law_written⟩ := Sh.fn_g (d := q__law_written) (p := (Sh.gA K "_law_written")) (c.fn q__law_written (Sh.at_ 27 rfl)) h_b__law_written
  obtain ⟨_, _, _, _, _, _, _, _, _, h_l_law, h_c_law, h_k_law⟩ := Sh.fn_g (d := q_law) (p := (Sh.gA K "law")) (c.fn q_law (Sh.at_ 28 rfl)) h_b_law
  exact all_mk X G hfa h_aCC h_aCE h_a_is_integer h_l_is_integer h_c_is_integer h_k_is_integer h_a_is_integer_from h_l_is_integer_from h_c_is_integer_from h_k_is_integer_from h_a_is_key h_l_is_key h_c_is_key h_k_is_key h_a_check_room h_l_check_room h_c_check_room h_k_check_room h_a_row_of h_l_row_of h_c_row_of h_k_row_of h_a_check_different h_l_check_different h_c_check_different h_k_check_different h_a_c___init__ h_i_c___init__ h_l_c___init__ h_c_c___init__ h_k_c___init__ h_a_c___eq__ h_i_c___eq__ h_l_c___eq__ h_c_c___eq__ h_k_c___eq__ h_a_c_shows h_i_c_shows h_l_c_shows h_c_c_shows h_k_c_shows h_a_e___init__ h_i_e___init__ h_l_e___init__ h_c_e___init__ h_k_e___init__ h_a_e___eq__ h_i_e___eq__ h_l_e___eq__ h_c_e___eq__ h_k_e___eq__ h_a_e_shows h_i_e_shows h_l_e_shows h_c_e_shows h_k_e_shows h_a_judge_runs h_l_judge_runs h_c_judge_runs h_k_judge_runs h_a_input_of h_l_input_of h_c_input_of h_k_input_of h_a_check_number h_l_check_number h_c_check_number h_k_check_number h_a_given_of h_l_given_of h_c_given_of h_k_given_of h_a_written_by_replacement h_l_written_by_replacement h_c_written_by_replacement h_k_written_by_replacement h_a_is_way h_l_is_way h_c_is_way h_k_is_way h_a_runs_in h_l_runs_in h_c_runs_in h_k_runs_in h_a_held_back h_l_held_back h_c_held_back h_k_held_back h_a__law_number h_l__law_number h_c__law_number h_k__law_number h_a__law_input h_l__law_input h_c__law_input h_k__law_input h_a__law_cut h_l__law_cut h_c__law_cut h_k__law_cut h_a__law_is_way h_l__law_is_way h_c__law_is_way h_k__law_is_way h_a__law_are_levels h_l__law_are_levels h_c__law_are_levels h_k__law_are_levels h_a__law_runs h_l__law_runs h_c__law_runs h_k__law_runs h_a__law_levels h_l__law_levels h_c__law_levels h_k__law_levels h_a__law_written h_l__law_written h_c__law_written h_k__law_written h_a_law h_l_law h_c_law h_k_law h_q_GREATEST_KEY h_q_MOST_PLACES h_q_MOST_ROOM h_z_all h_z_any h_z_bool h_z_dict h_z_enumerate h_z_int h_z_isinstance h_z_len h_z_list h_z_max h_z_min h_z_range h_z_sorted h_z_sum h_z_tuple h_pgC h_hdC h_po_C h_saC h_na_cWritten h_mkC h_kcC h_eneC h_eobC h_eniC h_entC h_kaC h_knC h_ktkC h_kmC h_kclC h_ktyC h_ensC_Needs h_nesC_Needs h_pgE h_hdE h_po_E h_saE h_na_eLevels h_mkE h_kcE h_eneE h_eobE h_eniE h_entE h_kaE h_knE h_ktkE h_kmE h_kclE h_ktyE h_ensE_Cuts h_nesE_Cuts
end Tw

open PySem PySem.W PySem.Calls PyProof.Rows in
set_option maxRecDepth 100000 in
set_option maxHeartbeats 0 in
theorem PySem.Challenge.cw_heaprows_k63_evidence_of_runs_holds : PySem.Challenge.rw_heaprows_k63_evidence_of_runs.Holds := by
  w_on; o_law
  refine HandSHeadRun.head_any (r := OpenLaw.row PySem.Challenge.rw_heaprows_k63_evidence_of_runs) (q := view (OpenLaw.row PySem.Challenge.rw_heaprows_k63_evidence_of_runs).prog [36]) (H := Tw.hk) (ob := Sh.obT Tw.adr Tw.fns Tw.exs Tw.tfs) (M := 20000) (loose := Tw.loose) (d := HandSHeadRun.topDef (OpenLaw.row PySem.Challenge.rw_heaprows_k63_evidence_of_runs).prog 36) (kwd := []) (Sh.obT_eq _ _ _ _)
    (by kernel_rfl) (fun s => by kernel_rfl) Tw.run (by kernel_rfl) (by kernel_rfl) (by kernel_rfl) (by rfl) (by first | assumption | decide +kernel) (by decide +kernel) ⟨rfl, rfl, rfl, rfl, rfl, by decide +kernel⟩ ?hw ?hc
  case hw => w_witness2
  case hc =>
    refine L2.walk_ofE (l := PySem.Challenge.rw_heaprows_k63_evidence_of_runs) (n := 63) (k := 11) (x := "script") (CX := L2.CX0) rfl (by decide) (by kernel_rfl) ⟨rfl, by decide, by decide⟩ ?F (fun _ _ _ _ z => z)
    intro w mg fa h Y G hmg0
    obtain ⟨K, KX, c⟩ := Y
    have hmg : mg ("law" : PySem.Str) = some (.ref fa) := (congrArg mg (show (HandSHeadRun.topDef (OpenLaw.row PySem.Challenge.rw_heaprows_k63_evidence_of_runs).prog 36).name = ("law" : PySem.Str) by kernel_rfl)).symm.trans hmg0
    obtain ⟨fd, hb, hF⟩ := Tw.law_at KX c G hmg
    exact ⟨K, fd, Tw.spLaw K, KX, hb, fun H a ns hl _ hS => ⟨a, ns, rfl, hS, hl, fun _ => rfl⟩, hF⟩
