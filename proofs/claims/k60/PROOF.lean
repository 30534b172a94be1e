import PyProof.Rows.All
import Wide.All
import OpenK.AllK
import Wide.FinOn
import HandS.ForMost
import HandS.ForExc
import HandS.IsInst
import HandS.MakeKwOnly
import HandS.ClsMeth
import HandS.Conv
import HandS.Codes
import HandS.Walk
import HandS.Style
import HandS.Flow
import HandS.Wide
import HandS.OwnEq
import HandS.OwnIter
import HandS.IterVal
import KE.KOwnIter
import PyProof.FactsAll.tuple_iterator_1
import HandS.Deep
import HandS.SortRule
import KE.GoesMore
import KE.GoesEnum
import KE.KLam
import KE.DataMinKey
import HandS.Base
import HandS.Call
import HandS.List
import HandS.Comp
import HandS.Lambda
import HandS.Nested
import HandS.Keys
import HandS.SortInts
import PyProof.NeKinds
import HandS.SetFor
import HandS.Strs
import HandS.TupSets
import KE.SortData
import HandS.Gcd
import KE.KMathGC
import HandS.Sort
import PyProof.AutoSeq1
import KE.KTurns
import HandS.TupLe
import KE.KSortTup
import HandS.Defaults
import HandS.Zip
import HandS.TryOnly
import HandS.TupAny
import KE.DataFind
import PyProof.SumWalkG
import HandS.New0
import HandS.Property
import KE.GoesZip
import KE.KStateDown
import HandS.Head0
import HandS.Head1
import HandS.Head2
import HandS.HeadHook4
import HandS.HeadWalk
import KE.KNestM
import HandS.EndTab
import HandS.Rev
import HandS.DictComp
import HandS.RevRange
import PySem.Challenge.RW_heaprows_k60_whole_changes_counted
set_option Elab.async false
set_option maxRecDepth 100000
set_option Elab.async false
set_option linter.all false
set_option maxRecDepth 100000
set_option maxHeartbeats 2000000
namespace Tw
open PySem PySem.Spec PyProof.Rows L2

/-! own rules: an instance with dunder methods -/
/-- a dunder method of the class at C, its def at f -/
structure Dn (K : PySem.W.Frag) (C : Addr) (m : Str) (f : Addr) : Prop where
  at_ : PySem.W.findIn K (.ref C) m = some (some (.ref f))
  fn : PySem.W.isFn K (.ref f) = true
  fi : PySem.W.fnIn K f = true


section
variable {X : Cx} {CX : CXT} {k n : Nat} {f C : Addr} {fd : FuncData} {ps : List Str} {sp : Sp} {E : XK} {o e : Expr} {pos : Pos} {ta tb : TE} {A1 : Around}
  {pins : List (Addr × Obj)} {σ : L2.St} {H : Hp} {s : Shared} {Q : VK}
theorem Sub.env0 (sb : Sub X n A1) (I : Inv X pins σ H s) : Env0 X.prog X.w X.K X.mg X.base A1 X.stack s H := by
  have q := I.env0
  exact ⟨by rw [sb.fr]; exact q.frames, q.mod, q.bs, q.bsz, q.funs, q.frf, q.hok, q.bare⟩
theorem run_sub {us : List Value} {vs : List V} (F : FnOk X.prog X.w X.K X.mg X.base CX k f fd ps sp) (sb : Sub X k A1) (hb : Binds X.K fd ps []) (hx : Passes CX X E) (I : Inv X pins σ H s) (r : Vals vs us) (h : sp vs H Q E) :
    wpAny (model X.prog X.w) A1 (call (.ref f) us) (EP X pins σ Q) X.xe s := by
  have hl : us.length = ps.length := by rw [← r.length]; exact F.len _ _ _ _ h
  have hb1 : BindsTo s fd ⟨us, []⟩ (ps.zip us) := by
    have z := hb s us I.kIn (by rw [List.append_nil]; exact hl)
    rw [List.append_nil] at z
    exact z
  refine wpAny_call (codeAny_mono (F.run A1 X.stack s H ⟨us, []⟩ us vs Q E sb.room (Sub.env0 sb I) hb1 r h) fun z s' hq => ?_)
  match z, hq with
  | .error e, hq => exact hx pins σ H s e s' I hq
  | .ok (.ret u), hq => exact I.after hq
  | .ok .next, hq => exact False.elim hq
  | .ok .brk, hq => exact False.elim hq
  | .ok .cont, hq => exact False.elim hq
theorem relR (a : Addr) : RelV (V.ref a) (Value.ref a) := rfl
theorem relB (b : Bool) : RelV (V.bl b) (Value.bool b) := rfl
theorem relI (i : Int) (t : Tok) : RelV (V.int i) (Value.int i t) := ⟨t, rfl⟩
/-- o[e] by the class's own def -/
def tGi (C : Addr) (sp : Sp) (E : XK) (ta tb : TE) : TE := fun σ H Q => ta σ H fun x H1 => tb σ H1 fun y H2 =>
  ∃ a dx fs, x = .ref a ∧ H2 a = some (.ins C dx fs) ∧ sp [.ref a, y] H2 Q E
theorem pe_gi (hd : Dn X.K C "__getitem__" f) (F : FnOk X.prog X.w X.K X.mg X.base CX k f fd ps sp) (hr : Room (k + 1) X.A) (hb : Binds X.K fd ps []) (hx : Passes CX X E) (ho : PE X o ta) (he : PE X e tb)
    (hs : ∀ v u, subscripted e true v u = runValue (.builtin "lifetime.subscript" ⟨[v, u], []⟩) := by intro _ _; with_unfolding_all rfl) :
    PE X (.Subscript o e pos) (tGi C sp E ta tb) := by
  refine ⟨fun pins s σ H Q I h => ?_⟩
  refine Subscript_ (binT ho he (R := fun x y H2 => ∃ a dx fs, x = .ref a ∧ H2 a = some (.ins C dx fs) ∧ sp [.ref a, y] H2 Q E) I h fun v u s2 x y H2 I2 rx ry ⟨a, dx, fs, ex, ha, q⟩ => ?_)
  subst ex
  obtain rfl : v = Value.ref a := rx
  obtain ⟨mA, O, rr, _, _, _⟩ := ins_get I2.hok ha
  obtain ⟨od, J, hl⟩ := O.look
  obtain ⟨m0, hF⟩ := I2.fr
  exact PySem.W.sub_K hF I2.ok.mod.kin J hd.at_ hd.fi hd.fn (run_sub F (Sub.in1 ⟨hr, rfl⟩) hb hx I2 (.cons (relR a) (.cons ry .nil)) q) (hs _ _)
/-- e in o, by the class's own def -/
def rIn (C : Addr) (sp : Sp) (E : XK) (neg : Bool) : R2 := fun x y H Q =>
  ∃ a dx fs, y = .ref a ∧ H a = some (.ins C dx fs) ∧ sp [.ref a, x] H (fun v H' => ∃ b, v = .bl b ∧ Q (.bl (if neg then !b else b)) H') E
theorem op_in_own (hd : Dn X.K C "__contains__" f) (F : FnOk X.prog X.w X.K X.mg X.base CX k f fd ps sp) (hr : Room k X.A) (hb : Binds X.K fd ps []) (hx : Passes CX X E) : OpR X (compareOp .In) (rIn C sp E false) := by
  intro pins s σ H x y v u Q I rx ry ⟨a, dx, fs, ey, ha, q⟩
  subst ey
  obtain rfl : u = Value.ref a := ry
  obtain ⟨mA, O, rr, _, _, _⟩ := ins_get I.hok ha
  obtain ⟨od, J, hl⟩ := O.look
  obtain ⟨m0, hF⟩ := I.fr
  refine PySem.W.in_K hF I.ok.mod.kin J hd.at_ hd.fn (thn (run_sub F ⟨hr, rfl⟩ hb hx I (.cons (relR a) (.cons rx .nil)) q) fun r s' ⟨z, H', I', rz, b, ez, q'⟩ => ?_)
  subst ez
  obtain rfl : r = Value.bool b := rz
  exact wpAny_truthy_bool ⟨_, _, I', relB b, q'⟩
/-- len(o) by the class's own def -/
def rLenO (C : Addr) (sp : Sp) (E : XK) : List V → Hp → VK → Prop := fun xs H Q =>
  ∃ a dx fs, xs = [.ref a] ∧ H a = some (.ins C dx fs) ∧ sp [.ref a] H (fun v H' => ∃ n : Nat, v = .int n ∧ n < 1000 ∧ Q (.int n) H') E
theorem call_len_own (hd : Dn X.K C "__len__" f) (F : FnOk X.prog X.w X.K X.mg X.base CX k f fd ps sp) (hr : Room (k + 1) X.A) (hb : Binds X.K fd ps []) (hx : Passes CX X E) : CallR X (.builtin "len") (rLenO C sp E) := by
  intro pins s σ H xs us Q I rv ⟨a, dx, fs, ex, ha, q⟩
  subst ex
  obtain ⟨u, rfl, ru⟩ := rv.one
  obtain rfl : u = Value.ref a := ru
  obtain ⟨mA, O, rr, _, _, _⟩ := ins_get I.hok ha
  obtain ⟨od, J, hl⟩ := O.look
  obtain ⟨m0, hF⟩ := I.fr
  refine PySem.W.len_K hF I.ok.mod.kin J hd.at_ hd.fn (thn (run_sub F (Sub.in1 ⟨hr, rfl⟩) hb hx I (.cons (relR a) .nil) q) fun r s' ⟨z, H', I', rz, n, ez, hn, q'⟩ => ?_)
  subst ez
  obtain ⟨t, rfl⟩ := rz
  exact ⟨⟨by omega, by omega⟩, _, _, I'.tok _, relI _ _, q'⟩
end

/-! for x in o, o an instance whose __iter__ says: return iter(self.F), F a tuple -/
def itTup (t : Addr) (i : Nat) : Obj := { cls := .type "tuple_iterator", data := .fields #[.ref t, .int (i : Nat) 0] }
def ItT (t it : Addr) (i : Nat) : HO := .ext fun h => h.get? it = some (itTup t i)
def rIterT (K : PySem.W.Frag) (n : Nat) : List V → Hp → VK → Prop := fun xs H Q => ∃ (t : Addr) (zs : List V), xs = [.ref t] ∧ SqT K H t zs ∧ ∀ it, H it = Option.none → n ≤ it → Q (.ref it) (upd H it (ItT t it 0))
section
variable {X : Cx}
theorem call_iterT : CallR X (.builtin "iter") (rIterT X.K X.s_0.heap.objs.size) := by
  intro pins s σ H xs us Q I r ⟨t, zs, e, hq, q⟩
  subst e
  obtain ⟨u, rfl, ru⟩ := r.one
  obtain rfl : u = Value.ref t := ru
  obtain ⟨its, rv, pl, hz⟩ := I.tuple hq
  refine Calls.call_function_entry (by decide +kernel) (by decide +kernel) PySem.W.kdk_entry_iter (PySem.W.kdk_args_iter _) ?_
  unfold Builtin.«iter»
  refine wpAny_bind (m := someArgs "iter" 1 2 _) (wpAny_of_eq (a := [Value.ref t]) (by first | rfl | kernel_rfl!) ?_)
  show wpAny _ _ (pyIter (.ref t) >>= _) _ _ _
  refine wpAny_bind (wpAny_pyIter_tuple (show s.heap.IsTuple t its.toArray from pl) ?_)
  have g : (s.heap.push (itTup t 0)).get? s.heap.objs.size = some (itTup t 0) := Heap.get?_push_size _ rfl
  have ok : ObjOk X.prog X.w (upd H s.heap.objs.size (ItT t s.heap.objs.size 0)) (s.heap.push (itTup t 0)) s.heap.objs.size (ItT t s.heap.objs.size 0) := ⟨g, ⟨_, g⟩, fun _ _ q k => k _ q⟩
  exact wpAny_pure ⟨_, rfl, .ref s.heap.objs.size, _, I.laid (t' := s.toks) (fun b u e => Heap.get?_push_of_some _ e) (Nat.le_refl _) ok, relR _, q _ (I.hok.fresh (Nat.le_refl _)) I.sz⟩
end

/-- a promise that may speak of how many objects there are when the def is called -/
def FnIt (P : Program) (w : World) (K : PySem.W.Frag) (mg : Str → Option Value) (base : Heap) (k : Nat) (f : Addr) (fd : FuncData) (ps : List Str) (sp : Nat → List V → Hp → VK → Prop) : Prop :=
  ∀ (A : Around) (outer : List Env) (s : Shared) (H : Hp) (us : List Value) (vs : List V) (Q : VK), Room k A → Env0 P w K mg base A outer s H → BindsTo s fd ⟨us, []⟩ (ps.zip us) → vs.length = ps.length → Vals vs us →
    sp s.heap.objs.size vs H Q → codeAny (model P w) A (.call (.ref f) ⟨us, []⟩) (CR CX0 outer P w H s Q E0) s
section
variable {P : Program} {w : World} {K : PySem.W.Frag} {mg : Str → Option Value} {base : Heap}
theorem fnIt_of {x qual : Str} {st : Stmt} {f : Addr} {fd : FuncData} {N ps : List Str} {k : Nat} {sp : Nat → List V → Hp → VK → Prop} (F : Fun K x qual st f fd) (S : FnScope N ps (defScope st))
    (hbody : ∀ (cdv : Value) (A : Around) (outer : List Env) (s : Shared) (H : Hp) (vs : List V) (Q : VK), Room k (A.deeper (envOfC qual (defScope st) s.heap.objs.size f cdv)) → sp s.heap.objs.size vs H Q →
      ∃ t, PSs (cxOf CX0 P w K mg base N qual (defScope st) f cdv A outer s H E0).nox (defBody st) t ∧ t { nx := fun _ H' => Q .non H', rt := Q } (start N vs) H) : FnIt P w K mg base (k + 1) f fd ps sp := by
  obtain ⟨oc, od, kV, doc, pm, an, cdv, ct, osl, rfl, lk, hcd⟩ := F.ex
  intro A outer s H us vs Q hr e0 hb hl r hsp
  have kin : K.In s.heap := e0.mod.kin.keeps fun b o e => (e0.bs b o e).1
  have lim : s.heap.NoLimit := e0.mod.nolimit.keeps fun b o e => (e0.bs b o e).1
  have kinds : ∀ y ∈ ps.zip us, (defScope st).names.lookup y.1 = some .local ∨ ((defScope st).names.lookup y.1 = some .cell ∧ ((cellsFrom (s.heap.objs.size + 1) (defScope st).names []).lookup y.1).isSome = true) := by
    intro y hy
    cases S.par y.1 (List.of_mem_zip (a := y.1) (b := y.2) hy).1 with
    | inl q => exact .inl q
    | inr q => exact .inr ⟨q, PySem.W.cellsFrom_some _ _ _ (.inl q)⟩
  apply codeAny_call_function hr.depth (kin _ _ lk) rfl S.co S.gen rfl (PySem.W.codeRec_of kin hcd) (hb _ _ _ _ ?_)
  apply wpAny_newFunctionEnv_cells S.kind kinds
  intro env he s1 x
  subst he
  refine ⟨lim.keeps x.toInCall.keep, codeAny_func ?_⟩
  obtain ⟨t, ht, hq⟩ := hbody cdv A outer s H vs Q (hr.deeper _) hsp
  have I := inv_start (CX := CX0) (P := P) (w := w) (E := E0) (cd := cdv) (qual := qual) (f := f) (outer := outer) S hr.hd e0 hl r x
  refine wpAny_mono (ht.nox.run [] s1 (start N vs) H _ I hq) (fun fl s' hs => ?_) fun e s' hs => hs
  match fl, hs with
  | .ret u, ⟨v, σ', H', J, rv, q⟩ => exact ⟨v, H', J.os, J.bare, J.base, J.hok, rv, q⟩
  | .next, ⟨σ', H', J, q⟩ => exact ⟨V.non, H', J.os, J.bare, J.base, J.hok, rfl, q⟩
  | .brk, ⟨_, _, _, q⟩ => exact False.elim q
  | .cont, ⟨_, _, _, q⟩ => exact False.elim q
end
/-- what such an __iter__ promises -/
def spIter (K : PySem.W.Frag) (C : Addr) (fld : Str) : Nat → List V → Hp → VK → Prop := fun n vs H Q => ∃ a dx fs t zs, vs = [.ref a] ∧ H a = some (.ins C dx fs) ∧ fs.lookup fld = some (.ref t) ∧ SqT K H t zs ∧
  ∀ it, H it = Option.none → n ≤ it → Q (.ref it) (upd H it (ItT t it 0))
/-- x in o, for a loop: o's own tuple is walked -/
def iOwn (K : PySem.W.Frag) (C : Addr) (fld : Str) (to : TE) : TI := fun σ H R => to σ H fun x H1 => ∃ a dx fs t zs, x = .ref a ∧ H1 a = some (.ins C dx fs) ∧ fs.lookup fld = some (.ref t) ∧ SqT K H1 t zs ∧ R (Itt K t) H1
section
variable {X : Cx} {k : Nat} {f C : Addr} {fd : FuncData} {fld : Str} {tg o : Expr} {to : TE} {pins : List (Addr × Obj)} {σ : L2.St} {H : Hp} {s : Shared} {A1 : Around}
theorem run_iter {a t dx : Addr} {fs : List (Str × V)} {zs : List V} (F : FnIt X.prog X.w X.K X.mg X.base k f fd ["self"] (spIter X.K C fld)) (sb : Sub X k A1) (hb : Binds X.K fd ["self"] []) (I : Inv X pins σ H s)
    (ha : H a = some (.ins C dx fs)) (hf : fs.lookup fld = some (.ref t)) (ht : SqT X.K H t zs) {E : Value → Shared → Prop} :
    wpAny (model X.prog X.w) A1 (call (.ref f) [.ref a]) (fun u s' => ∃ it, u = .ref it ∧ s.heap.objs.size ≤ it ∧ H it = Option.none ∧ Inv X pins σ (upd H it (ItT t it 0)) s') E s := by
  have hb1 : BindsTo s fd ⟨[.ref a], []⟩ ((["self"] : List Str).zip [Value.ref a]) := by
    have z := hb s [.ref a] I.kIn rfl
    exact z
  refine wpAny_call (codeAny_mono (F A1 X.stack s H [.ref a] [.ref a] (fun v H' => ∃ it, v = .ref it ∧ s.heap.objs.size ≤ it ∧ H it = Option.none ∧ H' = upd H it (ItT t it 0)) sb.room (Sub.env0 sb I) hb1 rfl (.cons (relR a) .nil)
    ⟨a, dx, fs, t, zs, rfl, ha, hf, ht, fun it h0 hn => ⟨it, rfl, hn, h0, rfl⟩⟩) fun z s' hq => ?_)
  match z, hq with
  | .error e, hq => exact hq.elim
  | .ok (.ret u), hq =>
    obtain ⟨v, H', I', rv, it, ev, hn, h0, eH⟩ := I.after hq
    subst ev
    rw [eH] at I'
    obtain rfl : u = Value.ref it := rv
    exact ⟨it, rfl, hn, h0, I'⟩
  | .ok .next, hq => exact False.elim hq
  | .ok .brk, hq => exact False.elim hq
  | .ok .cont, hq => exact False.elim hq
theorem pi_own (hd : Dn X.K C "__iter__" f) (F : FnIt X.prog X.w X.K X.mg X.base k f fd ["self"] (spIter X.K C fld)) (hr : Room k X.A) (hb : Binds X.K fd ["self"] []) (ho : PE X o to) : PI X tg o (iOwn X.K C fld to) := by
  refine ⟨fun pins s σ H R I h => ?_⟩
  refine thn (ho.run pins s σ H _ I h) fun u s1 ⟨x, H1, I1, rx, a, dx, fs, t, zs, ex, ha, hf, ht, q⟩ => ?_
  subst ex
  obtain rfl : u = Value.ref a := rx
  obtain ⟨mA, O, rr, _, _, _⟩ := ins_get I1.hok ha
  obtain ⟨od, J, hl⟩ := O.look
  obtain ⟨m0, hF⟩ := I1.fr
  refine PySem.W.owit_iter hF I1.ok.mod.kin J hd.at_ hd.fn (thn (run_iter F ⟨hr, rfl⟩ hb I1 ha hf ht) fun r s2 ⟨it, er, hn, h0, I2⟩ => ?_)
  subst er
  have e2 : upd H1 it (ItT t it 0) it = some (ItT t it 0) := upd_same
  have g : s2.heap.get? it = some (itTup t 0) := (I2.hok it _ e2).1
  have hT : s2.TypeIs (.ref it) "tuple_iterator" := ⟨_, g, rfl⟩
  have hfp := ItX.inv_fp I2 e2 (Nat.le_trans I1.sz hn)
  have I3 := ItX.inv_drop I2 e2
  rw [ItX.dropH_upd h0] at I3 hfp
  unfold PySem.W.OwitIt
  refine wpAny_specialOf (name := Str.ofString "__next__") hT PySem.F.slot_tuple_iterator_next.lookup ?_
  refine ⟨it, [it], _, _, H1, rfl, I3, turn_tuple t it, ⟨_, g, rfl, rfl⟩, fun b hb => ?_, q⟩
  rw [List.mem_singleton.mp hb]
  exact hfp
end
/-! C.m(e, .., k = v, ..), m a classmethod; cls(e, .., k = v, ..), cls a local name that holds the class -/
def tCMethK (C : Addr) (n m : Nat) (sp : Sp) (gV : List V → List V → List V) (E : XK) (ta : TE) (t tk : TA) : TE := fun σ H Q => ta σ H fun x H1 => x = .ref C ∧ t σ H1 fun vs H2 => tk σ H2 fun zs H3 => (.ref C :: vs).length = n ∧ zs.length = m ∧ sp (gV (.ref C :: vs) zs) H3 Q E
def tMakeLK (i : Nat) (C : Addr) (n m : Nat) (sp : Sp) (gV : List V → List V → List V) (E : XK) (t tk : TA) : TE := fun σ H Q => σ[i]? = some (some (.ref C)) ∧ tMakeK C n m sp gV E t tk σ H Q
section
variable {X : Cx} {CX : CXT} {k n i : Nat} {C p g f : Addr} {mc : Value} {sp : Sp} {E : XK} {o e : Expr} {es : List Expr} {kws : List Keyword} {m x : Str} {pos apos xpos : Pos} {ta : TE} {t tk : TA} {pl : Sem Bool} {fd : FuncData} {ps ks : List Str}
  {gv : List Value → List Value → List Value} {gV : List V → List V → List V}
theorem pe_cmethK (he : PE X o ta) (r : ClX.CRead X.K C mc) (c : ClX.CMet X.K C mc m p g) (F : FnOk X.prog X.w X.K X.mg X.base CX k g fd ps sp) (hr : Room k X.A) (hb : KBn X.K fd ps n ks gv gV) (hx : Passes CX X E) (ha : PA X (e :: es) t) (hkw : PK X kws tk)
    (hall : (backToKw pos (keywordEach kws X.env)).all (·.1.isSome) = true := by rfl) (hks : (backToKw pos (keywordEach kws X.env)).filterMap (·.1) = ks := by rfl)
    (hst : starEach (e :: es) X.env = (false, eval e X.env) :: starEach es X.env := by rfl) (hpl : ((backTo pos (starEach (e :: es) X.env)).any (·.1) || (backToKw pos (keywordEach kws X.env)).any (·.1.isNone)) = false := by rfl)
    (ht : eval (.Call (.Attribute o m apos) (e :: es) kws pos) X.env = (do
      let ov ← eval o X.env
      standAt apos.atName
      let (f, first) ← holding [ov] (getMethod ov m pl)
      callWith pos f first (backTo pos (starEach (e :: es) X.env)) (backToKw pos (keywordEach kws X.env))) := by rfl) :
    PE X (.Call (.Attribute o m apos) (e :: es) kws pos) (tCMethK C n ks.length sp gV E ta t tk) := by
  refine ⟨fun pins s σ H Q I h => ?_⟩
  refine PySem.W.methodCall_KW (pl := pl) (thn (he.run pins s σ H _ I h) fun u s1 ⟨x, H1, I1, rx, ex, q⟩ => ?_) ht
  subst ex
  obtain rfl : u = Value.ref C := rx
  refine ClX.getmethcm_ok I1 r c fun s2 I2 => ?_
  refine PySem.W.callWith_of (P := PySem.W.MethP X.K s1.heap.objs.size g (.ref C)) hpl (PySem.W.keeps_M c.fi) (evalArgs_kw2 hall (thn (ha.run pos _ s2 σ H1 _ I2 q) fun us s3 ⟨vs, H2, I3, rv, q2⟩ => ?_) hst)
  refine thn (hkw.run pos _ s3 σ H2 _ I3 q2) fun ws s4 ⟨zs, H3, I4, rz, l1, l2, q3⟩ => ⟨⟨ClX.pin_at I4, I4.kIn⟩, ?_⟩
  rw [hks]
  have r2 : Vals (V.ref C :: vs) (Value.ref C :: us) := .cons (relR C) rv
  have n1 : (Value.ref C :: us).length = n := r2.length.symm.trans l1
  have I5 := ClX.unpin I4
  refine wpAny_call (PySem.W.method_call (ClX.pin_at I4) (codeAny_mono (F.run X.A X.stack s4 H3 ⟨Value.ref C :: us, ks.zip ws⟩ _ _ Q E hr I5.env0 (hb.to _ (Value.ref C :: us) ws I5.kIn n1 (rz.length.symm.trans l2)) (hb.rel r2 rz) q3) fun z s' hq => ?_))
  match z, hq with
  | .error e, hq => exact hx pins σ H3 s4 e s' I5 hq
  | .ok (.ret u), hq => exact I5.after hq
  | .ok .next, hq => exact False.elim hq
  | .ok .brk, hq => exact False.elim hq
  | .ok .cont, hq => exact False.elim hq
theorem pe_makeLK (M : Mk X.K C f) (F : FnOk X.prog X.w X.K X.mg X.base CX k f fd ps sp) (hr : Room (k + 1) X.A) (hb : KBn X.K fd ps (n + 1) ks gv gV) (hx : Passes CX X E) (ha : PA X (e :: es) t) (hkw : PK X kws tk)
    (hN : X.N[i]? = some x) (hv : Vis X.env.scope x) (hd : (x == ("__debug__" : Str)) = false := by decide) (hcd : (x == ("__classdict__" : Str)) = false := by decide)
    (hall : (backToKw pos (keywordEach kws X.env)).all (·.1.isSome) = true := by rfl) (hks : (backToKw pos (keywordEach kws X.env)).filterMap (·.1) = ks := by rfl)
    (hst : starEach (e :: es) X.env = (false, eval e X.env) :: starEach es X.env := by rfl) (hpl : ((backTo pos (starEach (e :: es) X.env)).any (·.1) || (backToKw pos (keywordEach kws X.env)).any (·.1.isNone)) = false := by rfl) :
    PE X (.Call (.Name x xpos) (e :: es) kws pos) (tMakeLK i C n ks.length sp gV E t tk) := by
  refine ⟨fun pins s σ H Q I ⟨h0, h⟩ => ?_⟩
  refine wpAny_Call_Name_kw (thn ((pe_var (pos := xpos) (i := i) hN hv hd hcd).run pins s σ H (fun v H1 => v = .ref C ∧ H1 = H) I ⟨.ref C, h0, rfl, rfl⟩) fun u s1 ⟨v, H1, I1, r1, ev, eH⟩ => ?_)
  subst ev
  rw [eH] at I1
  obtain rfl : u = Value.ref C := r1
  refine PySem.W.callWith_KW (h₀ := X.base) I1.ok.mod.kin M.kp hall (thn (ha.run pos pins s1 σ H _ I1 h) fun us s2 ⟨vs, H2, I2, r, q⟩ => ?_) hpl hst
  refine thn (hkw.run pos pins s2 σ H2 _ I2 q) fun ws s3 ⟨zs, H3, I3, rz, l1, l2, q2⟩ => ⟨I3.kIn, ?_⟩
  rw [hks]
  exact run_makeK M F hr hb hx I3 r rz l1 l2 q2
end

/-! heaps that only grow -/
theorem Same.up {H : Hp} {p : Addr} {o : HO} (h : H p = Option.none) : Same H (upd H p o) := fun b u e => by
  rw [upd_ne (ne_of_none e h)]
  exact e
/-- a list under way at D, which was not there in H1 -/
structure Acc (H1 : Hp) (D : Addr) (acc : List V) (H : Hp) : Prop where
  s : Same H1 H
  n : H1 D = Option.none
  a : H D = some (.lst acc)
theorem Acc.start {H1 : Hp} {D : Addr} (n : H1 D = Option.none) : Acc H1 D [] (upd H1 D (.lst [])) := ⟨Same.up n, n, upd_same⟩
theorem Acc.same {H1 H H' : Hp} {D : Addr} {acc : List V} (h : Acc H1 D acc H) (s : Same H H') : Acc H1 D acc H' := ⟨h.s.trans s, h.n, s _ _ h.a⟩
theorem Acc.push {H1 H : Hp} {D : Addr} {acc zs : List V} (h : Acc H1 D acc H) : Acc H1 D zs (upd H D (.lst zs)) :=
  ⟨fun b o e => by rw [upd_ne (ne_of_none e h.n)]; exact h.s b o e, h.n, upd_same⟩
theorem Same.none' {H H' : Hp} (s : Same H H') {p : Addr} (h : H' p = Option.none) : H p = Option.none := s.free h
theorem Same.of_upd {H H' : Hp} {p : Addr} {o : HO} (h : H p = Option.none) (s : Same (upd H p o) H') : Same H H' := (Same.up h).trans s
/-- a list of ints as values -/
theorem ints_at {ns : List Int} {i : Nat} {x : V} (h : (ns.map V.int)[i]? = some x) : ∃ (hi : i < ns.length), x = .int ns[i] := by
  rw [List.getElem?_map] at h
  cases e : ns[i]? with
  | none => rw [e] at h; cases h
  | some u =>
    rw [e] at h
    obtain ⟨hi, rfl⟩ := List.getElem?_eq_some_iff.mp e
    exact ⟨hi, (Option.some.inj h).symm⟩

/-! comprehensions that pick -/
section
variable {α : Type} {H1 H : Hp} {D : Addr} {ks : List α} {f : α → Option V} {i : Nat} {c : α → V}
def PickI (H1 : Hp) (D : Addr) (ks : List α) (f : α → Option V) : Nat → Hp → Prop := fun i H => Acc H1 D ((ks.take i).filterMap f) H
theorem pick_start (n : H1 D = Option.none) : PickI H1 D ks f 0 (upd H1 D (.lst [])) := Acc.start n
theorem take_fm (hi : i < ks.length) : (ks.take (i + 1)).filterMap f = (ks.take i).filterMap f ++ (f ks[i]).toList := by
  rw [List.take_succ_eq_append_getElem hi, List.filterMap_append]
  cases h : f ks[i] <;> simp [h]
theorem pick_yes {H' : Hp} {y : V} (hi : i < ks.length) (hl : ks.length ≤ 1000) (e : f ks[i] = some y) (s : Same H H') (h : PickI H1 D ks f i H) :
    ∃ acc, H' D = some (.lst acc) ∧ acc.length < sizeLine ∧ PickI H1 D ks f (i + 1) (upd H' D (.lst (acc ++ [y]))) := by
  have h2 := Acc.same h s
  refine ⟨_, h2.a, small1000 ?_, ?_⟩
  · exact Nat.le_trans (Nat.le_trans (List.length_filterMap_le _ _) (List.length_take_le _ _)) (by omega)
  · unfold PickI
    rw [take_fm hi, e]
    exact h2.push
theorem pick_no {H' : Hp} (hi : i < ks.length) (e : f ks[i] = none) (s : Same H H') (h : PickI H1 D ks f i H) : PickI H1 D ks f (i + 1) H' := by
  unfold PickI
  rw [take_fm hi, e, Option.toList_none, List.append_nil]
  exact Acc.same h s
theorem pick_end {m : Nat} (hm : m = ks.length) (h : PickI H1 D ks f m H) : Acc H1 D (ks.filterMap f) H := by
  subst hm
  unfold PickI at h
  rw [List.take_length] at h
  exact h
theorem map_at {x : V} (h : (ks.map c)[i]? = some x) : ∃ hi : i < ks.length, x = c ks[i] := by
  rw [List.getElem?_map] at h
  cases e : ks[i]? with
  | none => rw [e] at h; cases h
  | some u =>
    rw [e] at h
    obtain ⟨hi, rfl⟩ := List.getElem?_eq_some_iff.mp e
    exact ⟨hi, (Option.some.inj h).symm⟩
end
end Tw

set_option Elab.async false
set_option linter.all false
set_option maxRecDepth 100000
set_option maxHeartbeats 2000000
namespace Tw
open PySem PySem.Spec PyProof.Rows L2
open PySem.W (InstAt looks_findIn looks_subIn ifBound_K cmp_K)
/-- a class with an own __eq__ and the usual != -/
structure EqC (K : PySem.W.Frag) (C f : Addr) : Prop where
  eq : PySem.W.findIn K (.ref C) "__eq__" = some (some (.ref f))
  fn : PySem.W.isFn K (.ref f) = true
  ne : PySem.W.findIn K (.ref C) "__ne__" = some (some (.builtin "object.__ne__"))
  ob : PySem.W.subIn K (.ref C) (.type "object") = some true
  ni : PySem.W.subIn K (.type "int") (.ref C) = some false
  nt : PySem.W.subIn K (.type "tuple") (.ref C) = some false

section
variable {prog : Program} {w : World} {A : Around} {E : Value → Shared → Prop} {s : Shared} {K : PySem.W.Frag} {x C L f : Addr} {h₀ : Heap} {m : Str → Option Value} {ox : Obj} {od : Option Obj} {b tb : Value}
theorem ne_entry {Q : PySem.Fin → Shared → Prop} (hu : A.units < cLine) (X : K.In s.heap) (I : InstAt s.heap x ox C od) (c : EqC K C f)
    (h : wpAny (model prog w) A (call (.ref f) [.ref x, b]) (fun v s' => ∃ r, v = .bool r ∧ Q (.done (.ret (.bool (!r)))) s') E s) :
    wpAny (model prog w) A (Builtin.«object.__ne__» ⟨[.ref x, b], []⟩) Q E s := by
  unfold Builtin.«object.__ne__»
  refine wpAny_bind (wpAny_of_eq (a := (Value.ref x, [b])) (by first | rfl | kernel_rfl!) ?_)
  refine wpAny_bind (wpAny_cRoomFor hu ?_)
  refine wpAny_bind (m := callSpecialIfBound? (.ref x) (Str.ofString "__eq__") [b]) (ifBound_K X I c.eq c.fn (wpAny_mono h (fun v s' hv => ?_) fun _ _ e => e))
  obtain ⟨r, e, q⟩ := hv
  subst e
  refine wpAny_bind (m := truthy (.bool r)) (wpAny_truthy_bool ?_)
  exact wpAny_pure q
theorem ne_call {Q : Value → Shared → Prop} (hu : A.in1.units < cLine) (X : K.In s.heap) (I : InstAt s.heap x ox C od) (c : EqC K C f)
    (h : wpAny (model prog w) A.in1 (call (.ref f) [.ref x, b]) (fun v s' => ∃ r, v = .bool r ∧ Q (.bool (!r)) s') E s) :
    wpAny (model prog w) A (call (.builtin "object.__ne__") [.ref x, b]) Q E s := by
  have t2 : PySem.W.Looks (model prog w) s.heap (isInstance (.ref x) (.type "object")) true := I.type.andThen (looks_subIn X c.ob)
  refine wpAny_call (codeAny_call_builtin F.cmp_object.ne.plain F.cmpEntry_ne (PySem.W.check_slot F.cmpKind_ne F.cmpSplit_ne t2 (F.cmpArgs_ne _ _) (ne_entry hu X I c (wpAny_mono h (fun v s' hv => ?_) fun _ _ e => e))))
  obtain ⟨r, e, q⟩ := hv
  exact ⟨r, e, q⟩
theorem ne_bound {Q : Option Value → Shared → Prop} (hu : A.in1.units < cLine) (X : K.In s.heap) (I : InstAt s.heap x ox C od) (c : EqC K C f)
    (h : wpAny (model prog w) A.in1 (call (.ref f) [.ref x, b]) (fun v s' => ∃ r, v = .bool r ∧ Q (some (.bool (!r))) s') E s) :
    wpAny (model prog w) A (callSpecialIfBound? (.ref x) "__ne__" [b]) Q E s := by
  simp only [callSpecialIfBound?, bindSpecialIfBound?]
  refine wpAny_holding (wpAny_bind (wpAny_bind (wpAny_bind (I.type.here ((looks_findIn X c.ne).here ?_)))))
  refine wpAny_bind (wpAny_askSetting (wpAny_ite ?_))
  have fin : wpAny (model prog w) A (call (.builtin "object.__ne__") ([.ref x] ++ [b]) >>= fun v => pure (some v)) Q E s :=
    wpAny_bind (ne_call hu X I c (wpAny_mono h (fun v s' ⟨r, e, q⟩ => ⟨r, e, wpAny_pure q⟩) fun _ _ e => e))
  have bd := F.cmp_object.ne.bind (.ref x)
  split
  · refine wpAny_bind ?_
    rw [bd]
    exact wpAny_pure (wpAny_pure (by exact fin))
  · refine wpAny_tryCatch (wpAny_bind ?_)
    rw [bd]
    exact wpAny_pure (wpAny_pure (by exact fin))
theorem ne_K {Q : Value → Shared → Prop} (hu : A.in1.units < cLine) (hu0 : A.units < cLine) (F : Fr h₀ L s.heap m) (X₀ : K.In h₀) (I : InstAt s.heap x ox C od) (hb : PySem.W.Looks (model prog w) s.heap (typeOf b) tb) (hn : PySem.W.notFirst K C tb = true) (c : EqC K C f)
    (h : wpAny (model prog w) A.in1 (call (.ref f) [.ref x, b]) (fun v s' => ∃ r, v = .bool r ∧ Q (.bool (!r)) s') E s) : wpAny (model prog w) A (richCompare .NotEq (.ref x) b) Q E s := by
  have X := X₀.keeps F.keep
  have one : wpAny (model prog w) A (tryCompare (.ref x) (cmpInfo .NotEq).2.1 b) (fun r s' => ∃ v, r = some v ∧ Q v s') E s := by
    unfold tryCompare
    refine wpAny_bind (ne_bound hu X I c (wpAny_mono h (fun v s' ⟨r, e, q⟩ => ⟨r, e, ?_⟩) fun _ _ e => e))
    exact wpAny_pure ⟨_, rfl, q⟩
  have two : ∀ r s', (∃ v, r = some v ∧ Q v s') → ∃ v, r = some v ∧ Q v s' := fun _ _ z => z
  unfold richCompare
  simp only [oneThing_ref]
  refine wpAny_holding (wpAny_bind (wpAny_cRoomFor hu0 ?_))
  refine wpAny_bind (I.type.here (wpAny_bind (hb.here ?_)))
  split
  · rename_i q
    have e : PySem.W.subIn K tb (.ref C) = some false := by
      rcases Bool.or_eq_true_iff.mp hn with e | e
      · rw [beq_iff_eq.mp e] at q; simp at q
      · exact beq_iff_eq.mp e
    refine wpAny_bind ((looks_subIn X e).here ?_)
    simp only [Bool.false_eq_true, if_false]
    refine wpAny_bind (wpAny_mono one (fun r s' ⟨v, ev, hq⟩ => ?_) fun _ _ e => e)
    subst ev
    exact wpAny_pure hq
  · refine wpAny_bind (wpAny_pure ?_)
    simp only [Bool.false_eq_true, if_false]
    refine wpAny_bind (wpAny_mono one (fun r s' ⟨v, ev, hq⟩ => ?_) fun _ _ e => e)
    subst ev
    exact wpAny_pure hq
end
/-! as rules -/
section
variable {X : Cx} {CX : CXT} {k : Nat} {f C : Addr} {fd : FuncData} {ps : List Str} {sp : Sp} {E : XK}
/-- the other operand: an instance of the same class, an int, a tuple -/
inductive Oth (H : Hp) (C : Addr) : V → Prop where
  | ins {a dx : Addr} {fs : List (Str × V)} (h : H a = some (.ins C dx fs)) : Oth H C (.ref a)
  | int (i : Int) : Oth H C (.int i)
  | tup {a : Addr} {xs : List V} (h : H a = some (.tup xs)) : Oth H C (.ref a)
def rEqO (C : Addr) (sp : Sp) (E : XK) (neg : Bool) : R2 := fun x y H Q =>
  ∃ a dx fs, x = .ref a ∧ H a = some (.ins C dx fs) ∧ Oth H C y ∧ sp [.ref a, y] H (fun v H' => ∃ r, v = .bl r ∧ Q (.bl (if neg then !r else r)) H') E
theorem oth_type {pins : List (Addr × Obj)} {σ : L2.St} {H : Hp} {s : Shared} {y : V} {u : Value} (I : Inv X pins σ H s) (ry : RelV y u) (c : EqC X.K C f) (o : Oth H C y) :
    ∃ tb, PySem.W.Looks (model X.prog X.w) s.heap (typeOf u) tb ∧ PySem.W.notFirst X.K C tb = true := by
  cases o with
  | @ins a dx fs h =>
    obtain rfl : u = Value.ref a := ry
    obtain ⟨mA, O, rr, _, _, _⟩ := ins_get I.hok h
    obtain ⟨od, J, hl⟩ := O.look
    exact ⟨_, J.type, by unfold PySem.W.notFirst; simp⟩
  | int i =>
    obtain ⟨t, rfl⟩ := ry
    exact ⟨.type "int", .now, by unfold PySem.W.notFirst; rw [c.ni]; simp⟩
  | @tup a xs h =>
    obtain rfl : u = Value.ref a := ry
    obtain ⟨_, _, _, ob, h1, h2, _⟩ := (show ObjOk X.prog X.w H s.heap a (.tup xs) from I.hok a _ h)
    exact ⟨.type "tuple", h2 ▸ (PySem.W.Looks.ld h1).andThen .now, by unfold PySem.W.notFirst; rw [c.nt]; simp⟩
theorem op_eq_own (c : EqC X.K C f) (F : FnOk X.prog X.w X.K X.mg X.base CX k f fd ps sp) (hr : Room k X.A) (hb : Binds X.K fd ps []) (hx : Passes CX X E) : OpR X (compareOp .Eq) (rEqO C sp E false) := by
  intro pins s σ H x y v u Q I rx ry ⟨a, dx, fs, ex, ha, o, q⟩
  subst ex
  obtain rfl : v = Value.ref a := rx
  obtain ⟨mA, O, rr, _, _, _⟩ := ins_get I.hok ha
  obtain ⟨od, J, hl⟩ := O.look
  obtain ⟨m0, hF⟩ := I.fr
  obtain ⟨tb, lk, nf⟩ := oth_type I ry c o
  show wpAny _ _ (richCompare .Eq (.ref a) u) _ _ _
  refine cmp_K hr.units0 hF I.ok.mod.kin J lk nf c.eq c.fn (thn (run_sub F ⟨hr, rfl⟩ hb hx I (.cons (relR a) (.cons ry .nil)) q) fun r s' ⟨z, H', I', rz, b, ez, q'⟩ => ?_)
  subst ez
  obtain rfl : r = Value.bool b := rz
  exact ⟨_, H', I', relB b, q'⟩
theorem op_ne_own (c : EqC X.K C f) (F : FnOk X.prog X.w X.K X.mg X.base CX k f fd ps sp) (hr : Room (k + 1) X.A) (hb : Binds X.K fd ps []) (hx : Passes CX X E) : OpR X (compareOp .NotEq) (rEqO C sp E true) := by
  intro pins s σ H x y v u Q I rx ry ⟨a, dx, fs, ex, ha, o, q⟩
  subst ex
  obtain rfl : v = Value.ref a := rx
  obtain ⟨mA, O, rr, _, _, _⟩ := ins_get I.hok ha
  obtain ⟨od, J, hl⟩ := O.look
  obtain ⟨m0, hF⟩ := I.fr
  obtain ⟨tb, lk, nf⟩ := oth_type I ry c o
  show wpAny _ _ (richCompare .NotEq (.ref a) u) _ _ _
  refine ne_K (Room.units0 hr.in1) hr.units0 hF I.ok.mod.kin J lk nf c (thn (run_sub F (Sub.in1 ⟨hr, rfl⟩) hb hx I (.cons (relR a) (.cons ry .nil)) q) fun r s' ⟨z, H', I', rz, b, ez, q'⟩ => ?_)
  subst ez
  exact ⟨b, rz, _, H', I', relB (!b), q'⟩
end
end Tw

set_option Elab.async false
set_option linter.all false
set_option maxRecDepth 100000
set_option maxHeartbeats 4000000
namespace Tw
open PySem PySem.Spec PyProof.Rows L2
/-! enumerate(t), t a tuple -/
def enO (s : Shared) : Obj := { cls := .type "enumerate", data := .fields #[.none, .bool false, .ref s.heap.objs.size, rawInt 0, .none, .none] }
theorem enum_newT (t : Addr) (items : Array Value) :
    Meets (Builtin.«enumerate.__new__» ⟨[.type "enumerate", .ref t], []⟩) (fun _ R s => s.heap.IsTuple t items ∧
      R (.ok (.ret (.ref (s.heap.push (itTup t 0)).objs.size))) { s with heap := (s.heap.push (itTup t 0)).push (enO s) }) :=
  .of_wp fun prog w A R s h => by
    obtain ⟨hp, g, d, tk, os⟩ := s
    obtain ⟨h1, h⟩ := h
    have hsub := sub_enumerate
    have q1 : ∀ {A' : Around} {E : Value → Shared → Prop} {Q : Value → Shared → Prop}, Q (.ref hp.objs.size) ⟨hp.push (itTup t 0), g, d, tk, os⟩ → wpAny (model prog w) A' (pyIter (.ref t)) Q E ⟨hp, g, d, tk, os⟩ :=
      fun q => wpAny_pyIter_tuple (s := ⟨hp, g, d, tk, os⟩) h1 q
    wp_walk using q1
    refine wpAny_stack_any fun st => wpAny_pure ?_
    split
    · rename_i c _ _ _ _ _
      cases (c == Value.type "enumerate")
      · wp_walk using q1
        exact ⟨_, rfl, h⟩
      · wp_walk using q1
        exact ⟨_, rfl, h⟩
    · wp_walk using q1
      exact ⟨_, rfl, h⟩
section
variable {prog : Program} {w : World} {A : Around} {E : Value → Shared → Prop} {s : Shared}
theorem call_enumT {t : Addr} {items : Array Value} {Q : Value → Shared → Prop} (hT : s.heap.IsTuple t items)
    (h : ∀ h', IsEnum h' (s.heap.objs.size + 1) s.heap.objs.size 0 .none → h'.IsTupleIter s.heap.objs.size t 0 → h'.objs.size = s.heap.objs.size + 2 →
      (∀ b o, s.heap.get? b = some o → h'.get? b = some o) → Q (.ref (s.heap.objs.size + 1)) { s with heap := h' }) :
    wpAny (model prog w) A (call (.type "enumerate") [.ref t]) Q E s := by
  refine callType_new F.called_enumerate (by decide) (F.typeCall_enumerate_1 _) (F.newCall_enumerate_1 _) (fun obj => F.args_object_init_2 obj _) F.entry_enumerate_new (enum_newT t items) ⟨hT, ?_⟩
  have hz : (s.heap.push (itTup t 0)).objs.size = s.heap.objs.size + 1 := Heap.size_push ..
  show _ ∧ _
  rw [hz]
  have he : IsEnum ((s.heap.push (itTup t 0)).push (enO s)) (s.heap.objs.size + 1) s.heap.objs.size 0 .none := by
    have q := Heap.get?_push_size (s.heap.push (itTup t 0)) (o := enO s) rfl
    rw [hz] at q
    exact q
  have hi : ((s.heap.push (itTup t 0)).push (enO s)).IsTupleIter s.heap.objs.size t 0 := ⟨_, Heap.get?_push_of_some _ (Heap.get?_push_size _ rfl), rfl, rfl⟩
  exact ⟨⟨_, he, rfl⟩, h _ he hi (by rw [Heap.size_push, hz]) fun b o x => Heap.get?_push_of_some _ (Heap.get?_push_of_some _ x)⟩
end
def IteT (K : PySem.W.Frag) (a : Addr) : It :=
  ⟨fun i H => ∃ (xs : List V) (x : V), SqT K H a xs ∧ xs[i]? = some x, fun i H v H' => ∃ T x, v = .ref T ∧ H T = Option.none ∧ H' = upd H T (.tup [.int (i : Nat), x]) ∧ ∀ xs, SqT K H a xs → xs[i]? = some x, fun i H => ∃ xs : List V, SqT K H a xs ∧ xs.length = i⟩
theorem turn_enumT {P : Program} {w : World} {K : PySem.W.Frag} {elts : List Expr} {kk : Nat} {tpos : Pos} (a e it : Addr) :
    Turn P w K (.Tuple elts kk tpos) (IteT K a) [e, it] e (fun i h => (∃ old, IsEnum h e it ((i : Nat) : Int) old) ∧ h.IsTupleIter it a i ∧ e ≠ it) where
  mem := by simp
  obj := fun i h st b hb => by
    obtain ⟨⟨old, he⟩, ⟨o, ho, hc, hd⟩, _⟩ := st
    rcases (show b = e ∨ b = it by simpa using hb) with rfl | rfl
    · exact ⟨_, he, fun v q => nomatch q⟩
    · exact ⟨o, ho, fun v q => by rw [hd] at q; cases q⟩
  keep := fun i h h' st k => let ⟨⟨old, he⟩, hi, hne⟩ := st; ⟨⟨old, k e (by simp) _ he⟩, hi.at fun o q => k it (by simp) o q, hne⟩
  item := by
    intro X hP hw hK hc i pins s σ H E I hf st hg
    subst hP hw hK
    obtain ⟨⟨old, he⟩, hit, hne⟩ := st
    obtain ⟨xs, x, hq, hx⟩ := hg
    obtain ⟨its, rv, p, hz⟩ := I.tuple hq
    have hil : i < xs.length := (List.getElem?_eq_some_iff.mp hx).1
    have hlen := rv.length
    have hel : e < s.heap.objs.size := Heap.lt_size he
    have hitl : it < s.heap.objs.size := by obtain ⟨_, q, _⟩ := hit; exact Heap.lt_size q
    have hae : e ≠ a := fun z => by
      obtain ⟨oo, h1, h2, _⟩ := p
      rw [← z, he] at h1
      cases h1
      injection h2 with q
      exact absurd q (by decide)
    have hia : it ≠ a := fun z => by
      obtain ⟨oo, h1, h2, _⟩ := p
      obtain ⟨o2, h3, h4, _⟩ := hit
      rw [← z, h3] at h1
      cases h1
      rw [h4] at h2
      injection h2 with q
      exact absurd q (by decide)
    have D := Draws.tuple (prog := X.prog) (w := X.w) (A := X.A.in1) (I.ok.hd hc) it a hia.symm its.toArray
    refine wpAny_pyNext_enum_itemD D he ⟨hit, p⟩ (by rw [List.size_toArray]; omega) hne (by simp [hne, hae]) fun u h' tk hu ho hst hT hsz hk => ?_
    obtain ⟨u2, hu2, ru⟩ := rv.get hx
    obtain rfl : u = u2 := by
      rw [List.getElem?_toArray] at hu
      exact Option.some.inj (hu.symm.trans hu2)
    refine ⟨_, rfl, wpAny_letOwnedTupleGo_enum (s := { s with heap := h', toks := tk + 1 }) ho fun h'' he' sb => ?_⟩
    have hT2 : h''.get? s.heap.objs.size = some { cls := .type "tuple", data := .seq #[.int i tk, u] } := (sb.2 _ (Nat.ne_of_gt hel)).trans hT
    have new : ObjOk X.prog X.w (upd H s.heap.objs.size (.tup [.int (i : Nat), x])) h'' s.heap.objs.size (.tup [.int (i : Nat), x]) :=
      ⟨by show 2 ≤ sizeLine; decide, [.int i tk, u], .cons ⟨_, rfl⟩ (.cons ru .nil), ⟨_, hT2, rfl, _, rfl⟩⟩
    have I1 : Inv X pins σ (upd H s.heap.objs.size (.tup [.int (i : Nat), x])) { s with heap := h'', toks := tk + 1 } :=
      I.turnedNew (ch := [e, it]) (fun b ob hb q => (sb.2 b (fun z => hb (by simp [z]))).trans (hk b ob (fun z => hb (by simp [z])) (fun z => hb (by simp [z])) q)) hf (Nat.le_refl _) new
    refine ⟨.ref s.heap.objs.size, _, I1, rfl, ⟨_, x, rfl, I.hok.fresh (Nat.le_refl _), rfl, fun ys hy => by rw [I.tuple_inj hy hq]; exact hx⟩, ⟨⟨u, ?_⟩, hst.1.at fun o q => (sb.2 it (Ne.symm hne)).trans q, hne⟩, fun b hb => ?_⟩
    · rw [show ((i + 1 : Nat) : Int) = (i : Int) + 1 by omega]
      exact he'
    · have hb' : b < s.heap.objs.size := by
        rcases (show b = e ∨ b = it by simpa using hb) with rfl | rfl
        · exact hel
        · exact hitl
      rw [upd_ne (Nat.ne_of_lt hb')]
      exact (hf b hb).1
  done := by
    intro X hP hw hK hc i pins s σ H E I hf st hg
    subst hP hw hK
    obtain ⟨⟨old, he⟩, hit, hne⟩ := st
    obtain ⟨xs, hq, hx⟩ := hg
    obtain ⟨its, rv, p, hz⟩ := I.tuple hq
    obtain ⟨f0, f1, f2, f3, f4, f5⟩ := hf it (by simp)
    have hlen := rv.length
    have hae : e ≠ a := fun z => by
      obtain ⟨oo, h1, h2, _⟩ := p
      rw [← z, he] at h1
      cases h1
      injection h2 with q
      exact absurd q (by decide)
    have hia : it ≠ a := fun z => by
      obtain ⟨oo, h1, h2, _⟩ := p
      obtain ⟨o2, h3, h4, _⟩ := hit
      rw [← z, h3] at h1
      cases h1
      rw [h4] at h2
      injection h2 with q
      exact absurd q (by decide)
    have D := Draws.tuple (prog := X.prog) (w := X.w) (A := X.A.in1) (I.ok.hd hc) it a hia.symm its.toArray
    have en : its.toArray.size = i := by rw [List.size_toArray]; omega
    refine wpAny_pyNext_enum_endD D he (by rw [en]; exact ⟨hit, p⟩) fun h' eb => ⟨rfl, I.turned (t' := s.toks) (fun b o hb q => eb b o hb q) f0 f1 f3 f4 f5⟩
  self := fun A i s Q E st h => let ⟨⟨_, he⟩, _⟩ := st; wpAny_pyIter_enum he h
theorem walk_enumT {K : PySem.W.Frag} {a : Addr} {xs : List V} : Walk (IteT K a) xs.length (fun H => SqT K H a xs) (YPair (fun i => some (.int (i : Nat))) (fun i => xs[i]?)) := by
  refine ⟨fun i _ hi q => ⟨xs, xs[i], q, by simp [hi]⟩, fun _ q => ⟨xs, q, rfl⟩, fun i H v H' _ q y => ?_⟩
  obtain ⟨T, x, h1, h2, h3, h4⟩ := y
  exact ⟨T, .int (i : Nat), x, h1, h2, h3, rfl, h4 xs q⟩
/-- enumerate of a list or of a tuple -/
def iEnS (K : PySem.W.Frag) (ta : TA) : TI := fun σ H R => ta σ H fun vs H1 => ∃ a xs, vs = [.ref a] ∧ ((SqL K H1 a xs ∧ R (Ite K a) H1) ∨ (SqT K H1 a xs ∧ R (IteT K a) H1))
theorem pi_enS {X : Cx} {e : Expr} {ta : TA} {p pos tpos : Pos} {elts : List Expr} {kk : Nat} (hg : Gl X "enumerate") (hm : X.mg "enumerate" = Option.none) (ha : PA X [e] ta) (hs : starEach [e] X.env = [(false, eval e X.env)] := by rfl) :
    PI X (.Tuple elts kk tpos) (.Call (.Name "enumerate" p) [e] [] pos) (iEnS X.K ta) := by
  refine ⟨fun pins s σ H R I h => ?_⟩
  refine Call_ (ld_blt I hg hm boot_enumerate (PyProof.Rows.callWith_type1 (thn (ha.run pos pins s σ H _ I h) fun us s1 ⟨vs, H1, I1, r1, a, xs, ex, q1⟩ => ?_) hs rfl))
  subst ex
  obtain ⟨u, rfl, ru⟩ := r1.one
  obtain rfl : u = Value.ref a := ru
  have fr : ∀ b ∈ [s1.heap.objs.size + 1, s1.heap.objs.size], FpOk X pins H1 b := fun b hb => by
    have hle : s1.heap.objs.size ≤ b := by
      rcases (show b = s1.heap.objs.size + 1 ∨ b = s1.heap.objs.size by simpa using hb) with z | z <;> omega
    exact I1.fpOk hle (I1.hok.fresh hle)
  rcases q1 with ⟨hq, q⟩ | ⟨hq, q⟩
  · obtain ⟨its, rv, p', hz⟩ := I1.list hq
    exact call_enumerate_list p'.isList fun h' he hit hsz hk => wpAny_pyIter_enum he ⟨_, _, _, _, H1, rfl, I1.kept (t' := s1.toks) hk, turn_enum a (s1.heap.objs.size + 1) s1.heap.objs.size, ⟨⟨.none, he⟩, hit, Nat.succ_ne_self _⟩, fr, q⟩
  · obtain ⟨its, rv, p', hz⟩ := I1.tuple hq
    exact call_enumT p' fun h' he hit hsz hk => wpAny_pyIter_enum he ⟨_, _, _, _, H1, rfl, I1.kept (t' := s1.toks) hk, turn_enumT a (s1.heap.objs.size + 1) s1.heap.objs.size, ⟨⟨.none, he⟩, hit, Nat.succ_ne_self _⟩, fr, q⟩
end Tw

set_option Elab.async false
set_option linter.all false
set_option maxRecDepth 100000
set_option maxHeartbeats 2000000
/-! own rules: min(xs, key=lambda x: ys[x]), ys a name of the def -/
namespace Cl
open PySem PySem.Spec PyProof.Rows L2 LamX
section
variable {prog : Program} {w : World} {A : Around} {E : Value → Shared → Prop} {s : Shared}
/-- what the lambda's scope must say -/
structure LSc (scope : Scope) (x y : Str) : Prop where
  kind : scope.kind = .function
  co : scope.isCoroutine = false
  gen : scope.isGenerator = false
  nocell : ∀ z ∈ scope.names, z.2 ≠ .cell
  px : scope.names.lookup x = some .local
  fy : scope.names.lookup y = some .free
/-- lambda x: y[x], called with an int -/
theorem lam_ix {f l c' ck : Addr} {q x y : Str} {params : Arguments} {p1 p2 p3 : Pos} {scope : Scope} {cl : List (Str × Addr)} {pm ctv u : Value} {vs : List Value} {i : Int} {t : Tok} {Q : Value → Shared → Prop}
    (S : LSc scope x y) (hd : A.depth < recursionLimit) (hf : s.heap.get? f = some (PySem.W.kla_obj "<lambda>" q params (.Subscript (.Name y p1) (.Name x p2) p3) scope cl pm c' ctv))
    (hbind : ∀ v : Value, bindArgs (PySem.W.kla_fn "<lambda>" q params (.Subscript (.Name y p1) (.Name x p2) p3) scope cl pm (.ref c') ctv) ⟨[v], []⟩ = pure [(x, v)])
    (hcode : ∃ (oc : Obj) (us : Array Value) (tk : Tok), s.heap.get? c' = some oc ∧ oc.data = .fields us ∧ us[1]? = some (.str q tk)) (hlim : s.heap.NoLimit)
    (hck : cl.lookup y = some ck) (hcell : s.heap.IsCell ck (some (.ref l))) (hl : s.heap.IsList l vs.toArray) (h0 : 0 ≤ i) (h1 : i < 2 ^ 63) (hi : vs[i.toNat]? = some u)
    (hdx : (x == ("__debug__" : Str)) = false) (hdy : (y == ("__debug__" : Str)) = false) (hcy : (y == ("__classdict__" : Str)) = false)
    (h : ∀ h' tk, s.toks ≤ tk → (∀ b o, s.heap.get? b = some o → h'.get? b = some o) → Q u { s with heap := h', toks := tk }) : wpAny (model prog w) A (call (.ref f) [.int i t]) Q E s := by
  obtain ⟨oc, us, tq, hoc, hdc, hvc⟩ := hcode
  refine wpAny_call (PySem.W.kla_callFunE hd hf rfl S.co S.gen rfl ⟨c', oc, us, tq, rfl, hoc, hdc, hvc⟩ ?_)
  rw [hbind]
  refine wpAny_pure (wpAny_newFunctionEnv S.nocell (fun z hz => by rw [List.mem_singleton.mp hz]; exact S.px) (fun h₁ hns hsb => ⟨hlim.fresh _ hsb, ?_⟩) S.kind)
  have kp : ∀ b o, s.heap.get? b = some o → h₁.get? b = some o := fun b o e => hsb.extBut b o (Nat.ne_of_lt (Heap.lt_size e)) (Heap.get?_push_of_some _ e)
  refine PySem.W.kla_codeExpr ?_
  refine wpAny_Subscript_Name list_getitem_lookup ?_
  refine wpAny_Name (wpAny_loadName_free S.kind S.fy hck (hcell.keeps kp) ?_ hcy) hdy
  refine wpAny_Name (wpAny_loadName_local S.kind S.px hns (v := .int i t) ?_ ?_) hdx
  · simp [List.lookup]
  · have hl' : h₁.IsList l vs.toArray := hl.at fun o e => kp _ _ e
    refine ⟨hl'.typeIs, wpAny_getItem_list hl' h0 h1 (by simpa using hi) ?_⟩
    exact h h₁ _ (by show s.toks ≤ s.toks + _; omega) kp
/-- what a lambda x: y[x] is, and what it reads -/
structure LamAt (h : Heap) (f : Addr) (x y : Str) (q : Str) (params : Arguments) (p1 p2 p3 : Pos) (scope : Scope) (cl : List (Str × Addr)) (pm ctv : Value) (c' ck l : Addr) (us : List Value) : Prop where
  fn : h.get? f = some (PySem.W.kla_obj "<lambda>" q params (.Subscript (.Name y p1) (.Name x p2) p3) scope cl pm c' ctv)
  code : ∃ (oc : Obj) (us : Array Value) (tk : Tok), h.get? c' = some oc ∧ oc.data = .fields us ∧ us[1]? = some (.str q tk)
  lim : h.NoLimit
  hck : cl.lookup y = some ck
  cell : h.IsCell ck (some (.ref l))
  lst : h.IsList l us.toArray
theorem LamAt.keeps {h h' : Heap} {f : Addr} {x y : Str} {q : Str} {params : Arguments} {p1 p2 p3 : Pos} {scope : Scope} {cl : List (Str × Addr)} {pm ctv : Value} {c' ck l : Addr} {us : List Value}
    (L : LamAt h f x y q params p1 p2 p3 scope cl pm ctv c' ck l us) (k : ∀ b o, h.get? b = some o → h'.get? b = some o) : LamAt h' f x y q params p1 p2 p3 scope cl pm ctv c' ck l us :=
  ⟨k _ _ L.fn, let ⟨oc, us, tk, a, b, c⟩ := L.code; ⟨oc, us, tk, k _ _ a, b, c⟩, L.lim.keeps k, L.hck, L.cell.keeps k, L.lst.at fun o e => k _ _ e⟩
theorem min_lam {f a l c' ck : Addr} {q x y : Str} {params : Arguments} {p1 p2 p3 : Pos} {scope : Scope} {cl : List (Str × Addr)} {pm ctv : Value} {cs us : List Value} {ns : Nat → Int} {kf : Nat → Int} {Q : Value → Shared → Prop}
    (hh : A.handled = none) (S : LSc scope x y) (hd : A.depth < recursionLimit) (L : LamAt s.heap f x y q params p1 p2 p3 scope cl pm ctv c' ck l us)
    (hbind : ∀ v : Value, bindArgs (PySem.W.kla_fn "<lambda>" q params (.Subscript (.Name y p1) (.Name x p2) p3) scope cl pm (.ref c') ctv) ⟨[v], []⟩ = pure [(x, v)])
    (hdx : (x == ("__debug__" : Str)) = false) (hdy : (y == ("__debug__" : Str)) = false) (hcy : (y == ("__classdict__" : Str)) = false)
    (ht : s.heap.IsTuple a cs.toArray) (hc : ∀ i, i < cs.length → ∃ t, cs[i]? = some (.int (ns i) t)) (hne : 0 < cs.length)
    (hk : ∀ i, i < cs.length → 0 ≤ ns i ∧ ns i < 2 ^ 63 ∧ ∃ t, us[(ns i).toNat]? = some (.int (kf i) t))
    (h : ∀ v h' tk, cs[argBest (fun i j => decide (kf i < kf j)) (cs.length - 1)]? = some v → (∀ b o, s.heap.get? b = some o → h'.get? b = some o) → Q v { s with heap := h', toks := tk }) :
    wpAny (model prog w) A (call (.builtin "min") [.ref a] [(Str.ofString "key", .ref f)]) Q E s := by
  have hd1 : A.in1.depth < recursionLimit := hd
  refine call_min_walkK (PySem.W.iter_tupleW (A := A.in1) hh ht fun s₂ e2 W st hfp hfr kp2 => ?_)
  have sz2 : s.heap.objs.size < s₂.heap.objs.size := hfp _ List.mem_cons_self
  have old : ∀ {s' : Shared}, Moved [s₂.heap.objs.size, s.heap.objs.size] (fun a b => b = a) s₂ s' → ∀ b o, s.heap.get? b = some o → s'.heap.get? b = some o := fun {s'} m b o e => by
    have lt := Heap.lt_size e
    refine m.heap b o (fun hm => ?_) (kp2 b o e)
    rcases List.mem_cons.mp hm with z | hm
    · rw [z] at lt
      exact Nat.lt_irrefl _ (Nat.lt_trans lt sz2)
    · rw [List.mem_singleton.mp hm] at lt
      exact Nat.lt_irrefl _ lt
  have szc : cs.toArray.size = cs.length := by simp
  refine ⟨s.heap.objs.size, [s.heap.objs.size, a], [s.heap.objs.size], (fun a b => b = a), cs.toArray.size, _, _, fun s' => Moved [s₂.heap.objs.size, s.heap.objs.size] (fun a b => b = a) s₂ s', fun i k _ => ∃ t, k = .int (kf i) t, fun i j => decide (kf i < kf j), rfl, W, st, hfp, by rw [szc]; exact hne, ⟨?_, ?_, ?_, ?_⟩, Moved.refl fun _ => rfl, ?_⟩
  · exact fun s1 s' J m => J.trans (fun _ _ _ h1 h2 => h2.trans h1) m
  · exact fun i k s1 s' v _ => v
  · intro i v s1 o Q' E' hi hP J stI hS cont
    rw [szc] at hi
    obtain ⟨t, ec⟩ := hc i hi
    have ev : v = .int (ns i) t := by
      have hP' : cs[i]? = some v := by simpa using hP
      rw [ec] at hP'
      exact (Option.some.inj hP').symm
    subst ev
    obtain ⟨h0, h1, tk, eu⟩ := hk i hi
    have L1 := L.keeps (old J)
    refine lam_ix S hd1 L1.fn hbind L1.code L1.lim L1.hck L1.cell L1.lst h0 h1 eu hdx hdy hcy fun h' tk' hle kp => ?_
    exact cont _ _ (J.then_heap hle fun b o _ e => kp b o e) (W.frame _ s1 h' tk' stI hle fun b _ o e => kp b o e) (kp _ _ hS) ⟨_, rfl⟩ fun j k' z => z
  · intro i j ki kj s1 Q' E' J vi vj q
    exact CmpOf.ints_lt (prog := prog) (w := w) (A := A.in1) (P := fun i v => ∃ t, v = .int (kf i) t) kf (fun i v h => h) i j ki kj s1 Q' E' vi vj q
  · intro v s' hP J
    rw [szc] at hP
    have hP' : cs[argBest (fun i j => decide (kf i < kf j)) (cs.length - 1)]? = some v := by simpa using hP
    have e : s' = { s with heap := s'.heap, toks := s'.toks } := by
      obtain ⟨hp, g, d, tk, os⟩ := s'
      subst e2
      have h1 : g = s.gens := J.gens
      have h2 : d = s.drawn := J.drawn
      have h3 : os = s.os := J.os
      subst h1 h2 h3
      rfl
    rw [e]
    exact h v s'.heap s'.toks hP' (old J)
end
/-- the first of the least -/
def FirstLeast (kf : Nat → Int) (n j : Nat) : Prop := j < n ∧ (∀ i, i < n → kf j ≤ kf i) ∧ ∀ i, i < j → kf j < kf i
theorem best_is (kf : Nat → Int) : ∀ n, FirstLeast kf (n + 1) (argBest (fun i j => decide (kf i < kf j)) n)
  | 0 => ⟨Nat.zero_lt_one, fun i h => by rw [Nat.lt_one_iff.mp h]; exact Int.le_refl _, fun i h => nomatch h⟩
  | n + 1 => by
    obtain ⟨a, b, c⟩ := best_is kf n
    show FirstLeast kf (n + 2) (if decide (kf (n + 1) < kf (argBest (fun i j => decide (kf i < kf j)) n)) = true then n + 1 else argBest (fun i j => decide (kf i < kf j)) n)
    by_cases h : kf (n + 1) < kf (argBest (fun i j => decide (kf i < kf j)) n)
    · rw [if_pos (decide_eq_true h)]
      refine ⟨by omega, fun i hi => ?_, fun i hi => ?_⟩
      · by_cases e : i = n + 1
        · rw [e]
          exact Int.le_refl _
        · have := b i (by omega)
          omega
      · have := b i (by omega)
        omega
    · rw [if_neg (fun z => h (of_decide_eq_true z))]
      refine ⟨by omega, fun i hi => ?_, c⟩
      by_cases e : i = n + 1
      · rw [e]
        omega
      · exact b i (by omega)
theorem first_one {kf : Nat → Int} {n i j : Nat} (a : FirstLeast kf n i) (b : FirstLeast kf n j) : i = j := by
  rcases Nat.lt_trichotomy i j with h | h | h
  · have h1 := b.2.2 i h
    have h2 := a.2.1 j b.1
    omega
  · exact h
  · have h1 := a.2.2 j h
    have h2 := b.2.1 i a.1
    omega
/-- the item of ns whose key in ks is the least, the first such one -/
def LeastAt (ks ns : List Int) (m : Int) : Prop := ∃ j, FirstLeast (fun i => ks.getD (ns.getD i 0).toNat 0) ns.length j ∧ m = ns.getD j 0
theorem _root_.LamX.ExtN.rd {H H' : Hp} (e : ExtN H H') {a : Addr} {u : HO} (n : ∀ ps, u ≠ .tbl ps) (h : Rd H a u) : Rd H' a u := by
  rcases h with h | ⟨o, h⟩
  · exact .inl (e _ _ h n)
  · exact .inr ⟨o, e _ _ h fun ps z => nomatch z⟩
theorem _root_.LamX.ExtN.sqL {K : PySem.W.Frag} {H H' : Hp} (e : ExtN H H') {a : Addr} {xs : List V} (h : SqL K H a xs) : SqL K H' a xs := h.elim (fun h => .inl (e.rd (fun ps z => nomatch z) h)) .inr
theorem _root_.LamX.ExtN.sqT {K : PySem.W.Frag} {H H' : Hp} (e : ExtN H H') {a : Addr} {xs : List V} (h : SqT K H a xs) : SqT K H' a xs := h.elim (fun h => .inl (e.rd (fun ps z => nomatch z) h)) .inr
section
variable {X : Cx}
def tMinLam (K : PySem.W.Frag) (T : List (Addr × Str)) (j : Nat) (te : TE) : TE := fun σ H Q => te σ H fun v H1 => ∃ (a l : Addr) (ns ks : List Int), v = .ref a ∧ SqT K H1 a (ns.map V.int) ∧ σ[j]? = some (some (.ref l)) ∧ SqL K H1 l (ks.map V.int) ∧ 0 < ns.length ∧ (∀ n ∈ ns, 0 ≤ n ∧ n < ks.length) ∧
  Tabs T H1 ∧ ∀ (m : Int) (H2 : Hp), ExtN H1 H2 → Tabs T H2 → LeastAt ks ns m → Q (.int m) H2
/-- min(e, key=lambda x: y[x]), y a name of the def that it shares with the lambda -/
theorem pe_minlam {T : List (Addr × Str)} {c P : Addr} {p p1 p2 p3 lpos kpos pos : Pos} {e : Expr} {te : TE} {x y : Str} {j : Nat} {params : Arguments} {scope : Scope}
    (hg : Gl X "min") (hm : X.mg "min" = none) (he : PE X e te) (hd : X.A.depth < recursionLimit) (hh : X.A.handled = none) (TB : TabB X.base X.mg c P) (hcode : X.env.code = .ref c) (hmT : (P, X.env.qual ++ "<lambda>") ∈ T)
    (hu : ∀ q ∈ T, q.1 = P → q.2 = X.env.qual ++ "<lambda>") (S : LSc scope x y) (hfy : X.env.scope.names.lookup y = some .cell) (hfr : ∀ z ∈ scope.names, z.2 = .free → z.1 = y) (hN : X.N[j]? = some y) (hdef : defaultsOf params X.env = ([], []))
    (hbind : ∀ (q : Str) (cl : List (Str × Addr)) (pm cv ctv v : Value), bindArgs (PySem.W.kla_fn "<lambda>" q params (.Subscript (.Name y p1) (.Name x p2) p3) scope cl pm cv ctv) ⟨[v], []⟩ = pure [(x, v)])
    (hs : starEach [e] X.env = (false, eval e X.env) :: starEach [] X.env := by rfl)
    (hdx : (x == ("__debug__" : Str)) = false := by decide) (hdy : (y == ("__debug__" : Str)) = false := by decide) (hcy : (y == ("__classdict__" : Str)) = false := by decide) :
    PE X (.Call (.Name "min" p) [e] [⟨some "key", .Lambda params (.Subscript (.Name y p1) (.Name x p2) p3) scope lpos, kpos⟩] pos) (tMinLam X.K T j te) := by
  refine ⟨fun pins s σ H Q I h => ?_⟩
  have hfree : ∀ z ∈ scope.names, z.2 = .free → ∃ c, X.env.cells.lookup z.1 = some c := fun z hz e => I.ok.has _ (.inl (by rw [hfr z hz e]; exact hfy))
  refine wpAny_Call_Name_kw (ld_blt I hg hm (u := .builtin "min") (by decide +kernel) ?_)
  refine PyProof.Rows.callWith_kw ?_ (by rw [hs]; rfl) (by rw [hs]; rfl) (by rfl) (by rfl)
  rw [hs]
  show wpAny _ _ (spliced ((false, eval e X.env) :: backTo pos (starEach [] X.env))) _ _ s
  refine Calls.spliced_cons (thn (he.run pins s σ H _ I h) fun u s1 ⟨v, H1, I1, r1, a, l, ns, ks, ev, ht, hσ, hl, hne, hin, hT, q⟩ => Calls.spliced_nil ?_)
  subst ev
  obtain rfl : u = Value.ref a := r1
  show wpAny _ _ (evalAll ((do let v ← eval (.Lambda params (.Subscript (.Name y p1) (.Name x p2) p3) scope lpos) X.env; standAt pos; pure v) :: [])) _ _ s1
  refine wpAny_evalAll_cons (wpAny_bind (lam_make2 I1 TB hcode hmT hu hT hdef hfree fun f c' pm ctv H2 s2 I2 eN T2 hf hfn hff hco => wpAny_bind (wpAny_standAt (wpAny_pure (wpAny_evalAll_nil ?_)))))
  show wpAny _ _ (call (.builtin "min") [.ref a] [(Str.ofString "key", .ref f)]) _ _ s2
  obtain ⟨cs, rc, tc, _⟩ := I2.tuple (eN.sqT ht)
  obtain ⟨us, ru, pl, hz2⟩ := I2.list (eN.sqL hl)
  obtain ⟨m, _, look⟩ := I2.loc
  obtain ⟨u0, r0, lk⟩ := look j y _ hN hσ (.inr (.inl hfy))
  obtain rfl : u0 = Value.ref l := r0
  have cellAt : ∃ ck, X.env.cells.lookup y = some ck ∧ s2.heap.IsCell ck (some (.ref l)) := by
    rcases lk with ⟨k, _⟩ | ⟨_, ck, e1, e2⟩
    · rw [show X.env.kindOf y = some .cell from hfy] at k
      cases k
    · exact ⟨ck, e1, e2⟩
  obtain ⟨ck, eck, hcell⟩ := cellAt
  obtain ⟨⟨oc, vs, tk, o1, o2, o3⟩, _, _⟩ := I2.hok c' _ hco
  have lc : cs.length = ns.length := by rw [← rc.length, List.length_map]
  have lu : us.length = ks.length := by rw [← ru.length, List.length_map]
  have nsAt : ∀ i, i < ns.length → ∃ t, cs[i]? = some (.int (ns.getD i 0) t) := fun i hi => by
    obtain ⟨z, ez, rz⟩ := rc.get (i := i) (x := V.int (ns.getD i 0)) (by rw [List.getElem?_map, List.getD_eq_getElem?_getD, List.getElem?_eq_getElem hi]; rfl)
    obtain ⟨t, rfl⟩ := rz
    exact ⟨t, ez⟩
  refine min_lam (ns := fun i => ns.getD i 0) (kf := fun i => ks.getD (ns.getD i 0).toNat 0) hh S hd ⟨hf, ⟨oc, vs, tk, o1, o2, o3⟩, I2.nolimit, NdefX.clo_has hfree (PySem.mem_of_lookup S.fy) eck, hcell, pl.isList⟩ (fun v => hbind _ _ _ _ _ v) hdx hdy hcy tc (fun i hi => nsAt i (by omega)) (by omega)
    (fun i hi => ?_) fun v h' tk2 hv kp => ?_
  · have hi' : i < ns.length := by omega
    have hmem : ns.getD i 0 ∈ ns := by rw [List.getD_eq_getElem?_getD, List.getElem?_eq_getElem hi']; exact List.getElem_mem hi'
    obtain ⟨b0, b1⟩ := hin _ hmem
    have hs63 := line63
    rw [List.length_map] at hz2
    have hk' : (ns.getD i 0).toNat < ks.length := by omega
    obtain ⟨z, ez, rz⟩ := ru.get (i := (ns.getD i 0).toNat) (x := V.int (ks.getD (ns.getD i 0).toNat 0)) (by rw [List.getElem?_map, List.getD_eq_getElem?_getD (l := ks), List.getElem?_eq_getElem hk']; rfl)
    obtain ⟨t, rfl⟩ := rz
    exact ⟨b0, by omega, t, ez⟩
  · obtain ⟨n, en⟩ : ∃ n, ns.length = n + 1 := ⟨ns.length - 1, by omega⟩
    have fl := best_is (fun i => ks.getD (ns.getD i 0).toNat 0) n
    rw [← en] at fl
    rw [lc, show ns.length - 1 = n by omega] at hv
    obtain ⟨t, et⟩ := nsAt _ fl.1
    rw [et] at hv
    cases hv
    exact ⟨.int _, H2, I2.kept kp, ⟨t, rfl⟩, q _ H2 eN T2 ⟨_, fl, rfl⟩⟩
end
end Cl

set_option Elab.async false
set_option linter.all false
set_option maxRecDepth 100000
set_option maxHeartbeats 2000000
/-! own rule: list(o), o an instance with an __iter__ over its tuple and a __len__ -/
namespace Tw
open PySem PySem.Spec PyProof.Rows L2
def rListO (K : PySem.W.Frag) (C : Addr) (fld : Str) (sp : Sp) (E : XK) : List V → Hp → VK → Prop := fun xs H Q => ∃ (a dx : Addr) (fs : List (Str × V)) (t : Addr) (zs : List V), xs = [.ref a] ∧ H a = some (.ins C dx fs) ∧ fs.lookup fld = some (.ref t) ∧ SqT K H t zs ∧ zs.length ≤ 900 ∧
  sp [.ref a] H (fun v H' => ∃ n : Nat, v = .int n ∧ n < 1000 ∧ H' = H) E ∧ ∀ q, H q = none → Q (.ref q) (upd H q (.lst zs))
theorem ty_ne {a b : String} (h : Value.type a = Value.type b) (n : decide (a = b) = false) : False := by
  injection h with h
  exact of_decide_eq_false n h
theorem if_yes {α : Type} {M : Model} {A : Around} {E : Value → Shared → Prop} {s : Shared} {c : Bool} {a b : Sem α} {Q : α → Shared → Prop} (hc : c = true) (h : wpAny M A a Q E s) : wpAny M A (if c = true then a else b) Q E s := by
  rw [hc, if_pos rfl]
  exact h
section
variable {X : Cx} {k : Nat} {f : Addr} {fd : FuncData} {ps : List Str} {sp : Sp} {A1 : Around} {pins : List (Addr × Obj)} {σ : L2.St} {H : Hp} {s : Shared} {Q : VK}
/-- a def that raises nothing, called within a built-in -/
theorem run_sub0 {us : List Value} {vs : List V} {R : Value → Shared → Prop} (F : FnOk X.prog X.w X.K X.mg X.base CX0 k f fd ps sp) (sb : Sub X k A1) (hb : L2.Binds X.K fd ps []) (I : Inv X pins σ H s) (r : Vals vs us) (h : sp vs H Q E0) :
    wpAny (model X.prog X.w) A1 (call (.ref f) us) (EP X pins σ Q) R s := by
  have hl : us.length = ps.length := by rw [← r.length]; exact F.len _ _ _ _ h
  have hb1 : BindsTo s fd ⟨us, []⟩ (ps.zip us) := by
    have z := hb s us I.kIn (by rw [List.append_nil]; exact hl)
    rw [List.append_nil] at z
    exact z
  refine wpAny_call (codeAny_mono (F.run A1 X.stack s H ⟨us, []⟩ us vs Q E0 sb.room (Sub.env0 sb I) hb1 r h) fun z s' hq => ?_)
  match z, hq with
  | .error e, hq => exact False.elim hq
  | .ok (.ret u), hq => exact I.after hq
  | .ok .next, hq => exact False.elim hq
  | .ok .brk, hq => exact False.elim hq
  | .ok .cont, hq => exact False.elim hq
end
section
variable {X : Cx} {kI k : Nat} {fi fl C : Addr} {fdI fdL : FuncData} {psL : List Str} {spL : Sp} {fld : Str}
theorem call_listO (hdI : Dn X.K C "__iter__" fi) (FI : FnIt X.prog X.w X.K X.mg X.base k fi fdI ["self"] (spIter X.K C fld)) (bI : L2.Binds X.K fdI ["self"] [])
    (hdL : Dn X.K C "__len__" fl) (FL : FnOk X.prog X.w X.K X.mg X.base CX0 k fl fdL psL spL) (bL : L2.Binds X.K fdL psL []) (hr : Room (k + 3) X.A) : CallR X (.type "list") (rListO X.K C fld spL E0) := by
  intro pins s σ H xs us Q I rv h
  obtain ⟨a, dx, fs, t, zs, rfl, ha, hf, ht, hz, hlen, q⟩ := h
  obtain ⟨u, rfl, ru⟩ := rv.one
  cases ru
  have sb1 : Sub X (k + 1) X.A.in1.in1 := Sub.in1 (Sub.in1 (⟨hr, rfl⟩ : Sub X (k + 3) X.A))
  have sb : Sub X k X.A.in1.in1 := sb1.mono (Nat.le_succ k)
  refine callType_codes (Q₁ := fun obj s₁ => obj = .ref s.heap.objs.size ∧ s₁ = { s with heap := s.heap.push { cls := .type "list", data := .seq #[] } }) PySem.F.called_list (PySem.F.typeCall_list_1 _) PySem.F.entry_list_init
    (code_list_new _ ⟨rfl, rfl⟩) fun obj s₁ h₁ => ?_
  obtain ⟨rfl, rfl⟩ := h₁
  have hS : (s.heap.push { cls := .type "list", data := .seq #[] }).get? s.heap.objs.size = some { cls := .type "list", data := .seq #[] } := Heap.get?_push_size _ rfl
  refine ⟨⟨_, hS, rfl⟩, PySem.F.args_list_init_2 _ _, ?_⟩
  have nS : H s.heap.objs.size = none := I.hok.fresh (Nat.le_refl _)
  have fS : FpOk X pins H s.heap.objs.size := I.fpOk (Nat.le_refl _) nS
  have I1 : Inv X pins σ H { s with heap := s.heap.push { cls := .type "list", data := .seq #[] } } := I.kept (t' := s.toks) fun b u e => Heap.get?_push_of_some _ e
  show wpAny _ _ (do let old ← Builtin.List.listItems (.ref s.heap.objs.size); Builtin.List.listUpdate (.ref s.heap.objs.size) (fun _ => #[]); letGo old.toList.reverse; Builtin.List.listExtendWith (.ref s.heap.objs.size) (.ref a) .none) _ _ _
  refine wpAny_bind ?_
  unfold Builtin.List.listItems
  refine wpAny_bind (wpAny_seqItems hS rfl (wpAny_pure ?_))
  show wpAny _ _ (updateSeq s.heap.objs.size (fun _ => #[]) >>= fun _ => letGo (#[] : Array Value).toList.reverse >>= fun _ => Builtin.List.listExtendWith (.ref s.heap.objs.size) (.ref a) .none) _ _ _
  refine wpAny_bind (wpAny_updateSeq hS rfl ?_)
  have hS2 := Heap.get?_update_self (h := s.heap.push { cls := .type "list", data := .seq #[] }) (f := Obj.mapSeq fun _ => #[]) hS rfl
  have I2 := I1.turnedL (h' := (s.heap.push { cls := .type "list", data := .seq #[] }).update s.heap.objs.size (Obj.mapSeq fun _ => #[])) (t' := s.toks) (ch := [s.heap.objs.size]) (fun b o hb e => (Heap.get?_update_other _ _ (fun z => hb (by simp [z]))).trans e) (fun b hb => by rw [List.mem_singleton.mp hb]; exact fS)
  refine wpAny_bind (wpAny_letGo ?_)
  generalize hSa : s.heap.objs.size = S at *
  generalize hh2 : (s.heap.push { cls := .type "list", data := .seq #[] }).update S (Obj.mapSeq fun _ => #[]) = h2 at *
  have szS : S < h2.objs.size := Heap.lt_size hS2
  obtain ⟨mA, O, rr, _, _, _⟩ := ins_get I2.hok ha
  obtain ⟨od, J, hl⟩ := O.look
  obtain ⟨m0, hF⟩ := I2.fr
  have hne : S ≠ a := fun z => by rw [← z] at ha; rw [nS] at ha; cases ha
  have h1 : Builtin.List.listSameRef (.ref S) (.ref a) = false := by simp [Builtin.List.listSameRef, hne]
  unfold Builtin.List.listExtendWith
  refine wpAny_bind (J.type.here ?_)
  have n2 : (Value.ref C == Value.type "list") = false := rfl
  have n3 : (Value.ref C == Value.type "tuple") = false := rfl
  simp only [h1, n2, n3, Bool.or_false, Bool.false_eq_true, if_false]
  have I2p := I2.pinned (fp := [S]) (fun b hb => by rw [List.mem_singleton.mp hb]; exact fS) (fun b hb => by rw [List.mem_singleton.mp hb]; exact ⟨_, hS2, fun v z => nomatch z⟩)
  refine wpAny_bind (PySem.W.owit_iter hF I2.ok.mod.kin J hdI.at_ hdI.fn (thn (run_iter FI sb bI I2p ha hf ht) fun r s3 ⟨it, er, hn, h0, I3⟩ => ?_))
  subst er
  have e2 : upd H it (ItT t it 0) it = some (ItT t it 0) := upd_same
  have g : s3.heap.get? it = some (itTup t 0) := (I3.hok it _ e2).1
  have hS3 := (I3.pin (S, _) (List.mem_append_right _ (List.mem_append_right _ (mem_pinsAt (List.mem_singleton.mpr rfl) hS2)))).1
  have hTy : s3.TypeIs (.ref it) "tuple_iterator" := ⟨_, g, rfl⟩
  have fIt := ItX.inv_fp I3 e2 (Nat.le_trans I2.sz hn)
  have I4 := ItX.inv_drop I3 e2
  rw [ItX.dropH_upd h0] at I4 fIt
  unfold PySem.W.OwitIt
  refine wpAny_specialOf (name := Str.ofString "__next__") hTy PySem.F.slot_tuple_iterator_next.lookup ?_
  have I5 := I4.pinned (fp := [it]) (fun b hb => by rw [List.mem_singleton.mp hb]; exact fIt) (fun b hb => by rw [List.mem_singleton.mp hb]; exact ⟨_, g, fun v z => nomatch z⟩)
  show wpAny _ X.A.in1.in1 (holding [.ref it] (Builtin.List.listLengthHint (.ref a)) >>= _) _ _ s3
  obtain ⟨mA5, O5, rr5, _, _, _⟩ := ins_get I5.hok ha
  obtain ⟨od5, J5, hl5⟩ := O5.look
  obtain ⟨m5, hF5⟩ := I5.fr
  refine wpAny_bind (wpAny_holding ?_)
  have lenOk : ∀ {R : Value → Shared → Prop}, wpAny (model X.prog X.w) X.A.in1.in1 (call (.builtin "len") [.ref a]) (fun r s' => ∃ (n : Nat) (tk : Tok), r = .int n tk ∧ n < 1000 ∧ Inv X (pins ++ pinsAt [S] h2 ++ pinsAt [it] s3.heap) σ H s') R s3 := by
    intro R
    refine PySem.W.len_K hF5 I5.ok.mod.kin J5 hdL.at_ hdL.fn (thn (run_sub0 FL (Sub.in1 (Sub.mono sb1 (Nat.le_refl _))) bL I5 (.cons (relR a) .nil) hlen) fun r s' ⟨z, H', I', rz, n, ez, hn, eH⟩ => ?_)
    subst ez
    rw [eH] at I'
    obtain ⟨tk, rfl⟩ := rz
    exact ⟨⟨by omega, by omega⟩, n, _, rfl, hn, I'.tok _⟩
  unfold Builtin.List.listLengthHint
  refine wpAny_bind (wpAny_bind (J5.type.here ((PySem.W.looks_findIn I5.kIn hdL.at_).here ?_)))
  refine PySem.W.KFB.if_not rfl ?_
  refine if_yes rfl ?_
  refine wpAny_bind (wpAny_rule ?_)
  refine wpAny_bind (wpAny_attempt (thn lenOk fun r s6 ⟨n, tk, er, hn6, I6⟩ => ?_))
  subst er
  refine wpAny_bind (wpAny_of_eq (a := some ((n : Nat) : Int)) (by rfl) ?_)
  refine PySem.W.KFB.if_not (by unfold Builtin.List.listTooLong; exact decide_eq_false (by rw [sizeLine_eq, Int.toNat_natCast]; omega)) ?_
  refine wpAny_pure ?_
  -- the loop
  have I7 : Inv X pins σ H s6 := I6.unpinned.unpinned
  have hS6 := (I6.pin (S, _) (List.mem_append_right _ (List.mem_append_left _ (List.mem_append_right _ (mem_pinsAt (List.mem_singleton.mpr rfl) hS2))))).1
  have g6 := (I6.pin (it, _) (List.mem_append_right _ (List.mem_append_right _ (mem_pinsAt (List.mem_singleton.mpr rfl) g)))).1
  have fIt2 : FpOk X pins H it := ⟨fIt.1, fIt.2.1, fIt.2.2.1, fIt.2.2.2.1, fIt.2.2.2.2.1, fun p hp => fIt.2.2.2.2.2 p ((List.mem_append.mp hp).elim (fun z => List.mem_append_left _ z) fun z => List.mem_append_right _ (List.mem_append_left _ z))⟩
  have Sne' : S ≠ it := fun z => by
    rw [z, g6] at hS6
    exact ty_ne (show Value.type "tuple_iterator" = Value.type "list" from congrArg Obj.cls (Option.some.inj hS6)) (by decide +kernel)
  have loop : ∀ (s7 : Shared) (c : Nat), Inv X pins σ H s7 → s7.heap.get? S = some { cls := .type "list", data := .seq #[] c } → s7.heap.get? it = some (itTup t 0) →
      codeAny (model X.prog X.w) X.A.in1 (.builtin "list.extend.loop" ⟨[.ref S, .ref it, .none], []⟩) (wants (fun r s₂ => r = .none ∧ EP X pins σ Q (.ref S) s₂) X.xe) s7 := by
    intro s7 c J7 hS7 g7
    obtain ⟨its, rz, pl, hz2⟩ := J7.tuple ht
    have tne : t ≠ it := fun z => by
      obtain ⟨o, e1, e2, _⟩ := pl
      rw [z, g7] at e1
      rw [← Option.some.inj e1] at e2
      exact ty_ne (show Value.type "tuple_iterator" = Value.type "tuple" from e2) (by decide +kernel)
    have Sne : S ≠ it := fun z => by
      rw [z, g7] at hS7
      exact ty_ne (show Value.type "tuple_iterator" = Value.type "list" from congrArg Obj.cls (Option.some.inj hS7)) (by decide +kernel)
    have St : S ≠ t := fun z => by
      obtain ⟨o, e1, e2, _⟩ := pl
      rw [← z, hS7] at e1
      rw [← Option.some.inj e1] at e2
      exact ty_ne (show Value.type "list" = Value.type "tuple" from e2) (by decide +kernel)
    have li : its.length = zs.length := rz.length.symm
    have W := (PySem.Walks.tuple (prog := X.prog) (w := X.w) (A := X.A.in1.in1) sb1.room.hd it t tne its.toArray).toS
    refine PySem.codeAny_extend_loopS (A := X.A.in1) W (by rw [List.size_toArray, sizeLine_eq]; omega) S (fun z => ?_) .none _ 0 s7 #[] c rfl (Nat.zero_le _) ⟨⟨_, g7, rfl, rfl⟩, pl⟩ hS7 (PySem.ItemsOf.nil _) fun s8 acc c8 m hS8 hit => ?_
    · rcases List.mem_cons.mp z with z | z
      · exact Sne z
      · exact St (List.mem_singleton.mp z)
    have eacc : acc = its.toArray := by
      refine Array.ext_getElem? fun j => ?_
      by_cases hj : j < acc.size
      · rw [Array.getElem?_eq_getElem hj]
        exact (hit.2 j _ (Array.getElem?_eq_getElem hj)).symm
      · rw [Array.getElem?_eq_none (by omega), Array.getElem?_eq_none (by rw [← hit.1]; omega)]
    subst eacc
    have J8 := J7.turnedL (h' := s8.heap) (t' := s8.toks) (ch := [S, it]) (fun b o hb e => m.heap b o hb e) (fun b hb => by
      rcases List.mem_cons.mp hb with z | z
      · rw [z]; exact fS
      · rw [List.mem_singleton.mp z]; exact fIt2)
    have J9 := J8.take (h' := s8.heap) (t' := s8.toks) (it := S) (o := .lst zs) (fun _ _ _ e => e) fS ⟨by rw [sizeLine_eq]; omega, its, c8, rz, hS8⟩
    have e8 : s8 = { s7 with heap := s8.heap, toks := s8.toks } := Moved.eq_with m
    rw [e8]
    exact ⟨rfl, .ref S, _, J9, rfl, q S nS⟩
  refine wpAny_ite_split (fun _ => ?_) (fun _ => wpAny_pure ⟨plainId_quiet PySem.F.plain_extend_loop _, loop s6 _ I7 hS6 g6⟩)
  refine wpAny_bind (wpAny_rule ?_)
  refine wpAny_bind ?_
  show wpAny _ _ (updateSeq S (·.push .none) >>= fun _ => updateSeq S (·.pop)) _ _ _
  refine wpAny_bind (wpAny_updateSeq hS6 rfl ?_)
  have e9 := Heap.get?_update_self (h := s6.heap) (f := Obj.mapSeq (·.push Value.none)) hS6 rfl
  refine wpAny_updateSeq e9 rfl ?_ (by show 1 ≤ sizeLine; rw [sizeLine_eq]; decide) (by show 0 ≤ sizeLine + 1; exact Nat.zero_le _)
  have e10 := Heap.get?_update_self (h := s6.heap.update S (Obj.mapSeq (·.push Value.none))) (f := Obj.mapSeq (·.pop)) e9 rfl
  have J := I7.turnedL (h' := (s6.heap.update S (Obj.mapSeq (·.push Value.none))).update S (Obj.mapSeq (·.pop))) (t' := s6.toks) (ch := [S]) (fun b o hb e => (Heap.get?_update_other _ _ (fun z => hb (by simp [z]))).trans ((Heap.get?_update_other _ _ (fun z => hb (by simp [z]))).trans e)) (fun b hb => by rw [List.mem_singleton.mp hb]; exact fS)
  refine wpAny_pure ⟨plainId_quiet PySem.F.plain_extend_loop _, loop _ _ J e10 ?_⟩
  exact (Heap.get?_update_other _ _ Sne').trans ((Heap.get?_update_other _ _ Sne').trans g6)
end
end Tw

set_option Elab.async false
set_option linter.all false
set_option maxRecDepth 100000
set_option maxHeartbeats 2000000
/-! own rule: sorted(t), t a tuple of whole numbers -/
namespace Tw
open PySem PySem.Spec PyProof.Rows L2
section
variable {prog : Program} {w : World} {A : Around} {E : Value → Shared → Prop} {s : Shared}
/-- a tuple's items, gathered: they are met as a list's are -/
theorem gather_tup {t : Addr} {vs : List Value} {Q : List Value → Shared → Prop} (ht : s.heap.IsTuple t vs.toArray)
    (h : Q vs { s with heap := (s.heap.push (seqObj "list" #[] 0)).update s.heap.objs.size (Obj.mapSeq (· ++ vs.toArray)) }) (hz : vs.length ≤ sizeLine) :
    wpAny (model prog w) A (collect (.ref t)) Q E s := by
  obtain ⟨o, ho, hc, n, hd⟩ := ht
  unfold collect
  refine wpAny_bind (wpAny_runValue (codeAny_builtin entry_proto_collect' ?_))
  show wpAny _ _ (do again (.builtin "list.__iadd__" ⟨[← newList [], .ref t], []⟩)) _ _ s
  refine wpAny_bind (wpAny_newList (wpAny_pure ⟨Code.quiet_builtin _ (by decide +kernel), codeAny_builtin entry_list_iadd' ?_⟩))
  show wpAny _ _ (Builtin.List.listExtendWith (.ref s.heap.objs.size) (.ref t) (.ref s.heap.objs.size)) _ _ { s with heap := s.heap.push (seqObj "list" #[] 0) }
  have ho2 : (s.heap.push (seqObj "list" #[] 0)).get? t = some o := Heap.get?_push_of_some _ ho
  unfold Builtin.List.listExtendWith
  refine wpAny_bind (wpAny_typeOf (T := "tuple") ⟨o, ho2, hc⟩ ?_)
  have tt : (Value.type "tuple" == Value.type "tuple") = true := by rfl
  rw [if_pos (by rw [tt]; simp)]
  refine wpAny_bind (listItems_at ho2 hd ?_)
  refine wpAny_bind (listItems_at (xs := #[]) (n := 0) (Heap.get?_push_size _ rfl) rfl ?_)
  rw [if_neg (by simp)]
  refine wpAny_bind (listUpdate_at (xs := #[]) (n := 0) (Heap.get?_push_size _ rfl) rfl ?_ (Nat.zero_le _) (by show (#[] ++ vs.toArray).size ≤ sizeLine + 1; simp only [Array.size_append, List.size_toArray, List.length_nil]; omega))
  refine wpAny_pure ?_
  refine wpAny_bind (wpAny_load (get?_update_seq (Heap.get?_push_size _ rfl) _) ?_)
  show wpAny _ _ (pure ((#[] : Array Value) ++ vs.toArray).toList) Q E _
  rw [show ((#[] : Array Value) ++ vs.toArray).toList = vs by simp]
  exact wpAny_pure h
end
def rSortedTu (K : PySem.W.Frag) : List V → Hp → VK → Prop := fun vs H Q => ∃ (a : Addr) (ns : List Int), vs = [V.ref a] ∧ SqT K H a (ns.map V.int) ∧
  ∀ (ns' : List Int) (p : Addr), ns'.Perm ns → ns'.Pairwise (· ≤ ·) → H p = none → Q (.ref p) (upd H p (.lst (ns'.map V.int)))
section
variable {X : Cx}
theorem cr_sortedTu : CallR X (.builtin "sorted") (rSortedTu X.K) := by
  intro pins s σ H vs us Q I r h
  obtain ⟨a, ns, rfl, hs, q⟩ := h
  obtain ⟨its, rv, hl, hz⟩ := I.tuple hs
  rw [Vals.ref1 r]
  have hi := rv.ints
  have hzi : its.length ≤ sizeLine := by rw [← rv.length]; exact hz
  refine Calls.call_function_entry kind_sorted plain_sorted entry_sorted (args_sorted1 _) ?_
  unfold Builtin.«sorted»
  refine wpAny_bind (m := checkCount "sorted" 1 1 _) (wpAny_pure ?_)
  refine wpAny_bind (gather_tup hl ?_ hzi)
  refine wpAny_bind (wpAny_newList ?_ hzi)
  have hsz : ((s.heap.push (seqObj "list" #[] 0)).update s.heap.objs.size (Obj.mapSeq (· ++ its.toArray))).objs.size = s.heap.objs.size + 1 := by
    rw [Heap.size_update, size_push']
  have hoL : (((s.heap.push (seqObj "list" #[] 0)).update s.heap.objs.size (Obj.mapSeq (· ++ its.toArray))).push (seqObj "list" its.toArray 0)).get? (s.heap.objs.size + 1) = some (seqObj "list" its.toArray 0) := by
    rw [← hsz]
    exact Heap.get?_push_size _ rfl
  show wpAny _ _ _ _ _ { s with heap := ((s.heap.push (seqObj "list" #[] 0)).update s.heap.objs.size (Obj.mapSeq (· ++ its.toArray))).push (seqObj "list" its.toArray 0) }
  rw [hsz]
  refine wpAny_bind (wpAny_holding (wpAny_call_entry slot_list_sort ⟨_, hoL, rfl⟩ entry_list_sort (SrtO.list_sort_ord SrtO.swo_int hoL hzi (fun h2 => SrtO.ints_sortable hi h2) fun out h1 h2 => ⟨_, rfl, ?_⟩) (args_list_sort _)))
  refine wpAny_pure ⟨_, rfl, ?_⟩
  obtain ⟨k1, k2, k3⟩ := SrtO.ints_out hi h1 h2
  obtain ⟨ep, he'⟩ := PyProof.Rows.sortedAll_at s.heap its out.toArray
  have hlen : ((out.map SrtO.iv).map V.int).length ≤ sizeLine := by
    rw [List.length_map, k2.length_eq]
    rw [List.length_map] at hz
    exact hz
  exact ⟨.ref _, upd H (s.heap.objs.size + 1) (.lst ((out.map SrtO.iv).map V.int)), I.laid (t' := s.toks) (fun _ _ => PyProof.Rows.sortedAll_old) (Nat.le_succ _) ⟨hlen, out, ep, vals_of_ints k1, he'⟩, rfl, q _ _ k2 k3 (I.hok.fresh (Nat.le_succ _))⟩
end
end Tw

set_option Elab.async false
set_option linter.all false
set_option maxRecDepth 100000
set_option maxHeartbeats 1000000
/-! != of two tuples of two things, equal ones in turn -/
namespace Cq
open PySem PySem.SeqAt
open AutoSeq1 (wpAny_loadPart')
open MeetsSeq MeetsSeq2 MeetsSeq3 SeqRoads2
theorem pairs_ne {prog : Program} {w : World} {A : Around} {R : Result → Shared → Prop} {p q : Addr} {a b c e : Value} {k k2 : Nat} {u u2 : Option Addr} {z z2 : Array (Option Value)} {s : Shared}
    (hp : s.heap.get? p = some { cls := .type "tuple", dict := u, data := .seq #[a, b] k, slots := z }) (hq : s.heap.get? q = some { cls := .type "tuple", dict := u2, data := .seq #[c, e] k2, slots := z2 })
    (h : wpAny (model prog w) A.in1 (eqBool a c) (fun r s1 => r = true ∧ wpAny (model prog w) A.in1 (eqBool b e) (fun r s2 => r = true ∧ R (.ok (.ret (.bool false))) s2) (fun x s2 => R (.error x) s2) s1) (fun x s1 => R (.error x) s1) s) :
    wpAny (model prog w) A.in1 (Builtin.«tuple.__ne__» ⟨[.ref p, .ref q], []⟩) (GQ.FinOf prog w A R) (fun x s1 => R (.error x) s1) s := by
  have sub2 := AutoSeq1.sub_tuple_tuple
  obtain ⟨hh, gg, dd, tk, os⟩ := s
  wp_walk using wpAny_loadPart' hp, wpAny_loadPart' hq, wpAny_forIn_list _ (fun rest t s1 => t.1 = none ∧ ((rest = [(a, c), (b, e)] ∧ wpAny (model prog w) A.in1 (eqBool a c) (fun r s1 => r = true ∧ wpAny (model prog w) A.in1 (eqBool b e) (fun r s2 => r = true ∧ R (.ok (.ret (.bool false))) s2) (fun x s2 => R (.error x) s2) s1) (fun x s1 => R (.error x) s1) s1) ∨
    (rest = [(b, e)] ∧ wpAny (model prog w) A.in1 (eqBool b e) (fun r s2 => r = true ∧ R (.ok (.ret (.bool false))) s2) (fun x s2 => R (.error x) s2) s1) ∨ (rest = [] ∧ R (.ok (.ret (.bool false))) s1))) _
  case turn =>
    rintro ⟨y, x⟩ rest t s1 ⟨ht, ⟨e1, h1⟩ | ⟨e1, h1⟩ | ⟨e1, _⟩⟩
    · injection e1 with e1 e2
      injection e1 with e3 e4
      subst e3 e4 e2
      refine wpAny_bind (wpAny_mono h1 (fun r s2 g => ?_) fun _ _ g => g)
      obtain ⟨rfl, g⟩ := g
      wp_walk
      exact ⟨rfl, .inr (.inl ⟨rfl, g⟩)⟩
    · injection e1 with e1 e2
      injection e1 with e3 e4
      subst e3 e4 e2
      refine wpAny_bind (wpAny_mono h1 (fun r s2 g => ?_) fun _ _ g => g)
      obtain ⟨rfl, g⟩ := g
      wp_walk
      exact ⟨rfl, .inr (.inr ⟨rfl, g⟩)⟩
    · cases e1
  case fin =>
    rintro ⟨t1, t2⟩ s1 ⟨ht, ⟨e1, _⟩ | ⟨e1, _⟩ | ⟨_, h1⟩⟩
    · cases e1
    · cases e1
    · simp only at ht
      subst ht
      wp_walk
      simpa [Builtin.Tuple.tupleCompareSizes] using h1
  case h => exact ⟨rfl, .inl ⟨rfl, h⟩⟩
end Cq
namespace L2
open PySem PySem.Spec PyProof.Rows
theorem vals_two {a b : V} {l : List Value} (r : Vals [a, b] l) : ∃ x y, l = [x, y] ∧ RelV a x ∧ RelV b y := by
  cases r with
  | cons ra r =>
    cases r with
    | cons rb r =>
      cases r
      exact ⟨_, _, rfl, ra, rb⟩
def DPair (K : PySem.W.Frag) (D1 D2 : Eqv) : Eqv := fun x y H => ∃ (p q : Addr) (a b c e : V), x = .ref p ∧ y = .ref q ∧ SqT K H p [a, b] ∧ SqT K H q [c, e] ∧ D1 a c H ∧ D2 b e H
def rNeP (D : Eqv) : R2 := fun x y H Q => D x y H ∧ ∀ H', Ext H H' → Q (.bl false) H'
theorem op_neP {X : Cx} {n : Nat} {D1 D2 : Eqv} (g1 : EqG X n D1) (g2 : EqG X n D2) (m2 : Mon D2) (hr : Room (n + 1) X.A) : OpR X (compareOp .NotEq) (rNeP (DPair X.K D1 D2)) := by
  intro pins s σ H x y v u Q I rx ry ⟨⟨p, q, a, b, c, e, ex, ey, hp, hq, d1, d2⟩, k⟩
  subst ex ey
  cases rx
  cases ry
  have sb : Sub X (n + 1) X.A := ⟨hr, rfl⟩
  obtain ⟨its, r, e1, _⟩ := I.tuple hp
  obtain ⟨its2, r2, e2, _⟩ := I.tuple hq
  obtain ⟨va, vb, ei, ra, rb⟩ := vals_two r
  obtain ⟨vc, ve, ei2, rc, re⟩ := vals_two r2
  subst ei ei2
  obtain ⟨⟨cl, u1, da, z1⟩, o1, c1, n1, w1⟩ := id e1
  obtain ⟨⟨cl2, u2, da2, z2⟩, o2, c2, n2, w2⟩ := id e2
  dsimp only at c1 w1 c2 w2
  subst c1 w1 c2 w2
  show wpAny (model X.prog X.w) X.A (richCompare .NotEq (.ref p) (.ref q)) (EP X pins σ Q) X.xe s
  refine wpAny_richCompare_same_room (op := .NotEq) ⟨_, o1, rfl⟩ ⟨_, o2, rfl⟩ F.slot_tuple_ne (GQ.call_here F.slot_tuple_ne ⟨_, o1, rfl⟩ F.entry_tuple_ne (F.args_tuple_ne_2 _ _) ?_) hr.units0
  refine Cq.pairs_ne (R := wants (fun v s' => v ≠ .notImplemented ∧ EP X pins σ Q v s') X.xe) o1 o2 ?_
  refine wpAny_mono (g1 X.A.in1 pins s σ H _ _ va vc sb.in1 I ra rc d1) (fun t s1 ⟨ht, H1, I1, x1⟩ => ⟨ht, ?_⟩) fun _ _ g => g
  refine wpAny_mono (g2 X.A.in1 pins s1 σ H1 _ _ vb ve sb.in1 I1 rb re (m2 _ _ _ _ x1 d2)) (fun t s2 ⟨ht, H2, I2, x2⟩ => ⟨ht, ?_⟩) fun _ _ g => g
  exact ⟨(fun g => nomatch g), .bl false, H2, I2, rfl, k H2 (x1.trans x2)⟩
end L2


set_option Elab.async false
set_option linter.all false
set_option maxRecDepth 100000
set_option maxHeartbeats 4000000
/-! set(xs), xs a list of ints, as a value -/
namespace L2
open PySem PySem.Spec PyProof.Rows
section
variable {P : Program} {w : World} {A : Around} {E : Value → Shared → Prop}
/-- the set that is there at first -/
abbrev eS (w : World) : Obj := { cls := .type "set", dict := none, data := .set #[] 0 (.fresh 0 0 (!w.params.followText "set-order")) }
theorem init_over {z : Shared} {D l : Addr} {items : Array Value} {ns : List Int} {R : Result → Shared → Prop} (hh : A.handled = none) (hD : z.heap.get? D = some (eS w)) (hl : z.heap.IsList l items) (hit : IntsAre items.toList ns) (hb : ns.length + 1 < scanBound) (hne : l ≠ D)
    (q : ∀ (h' : Heap) (tk c : Nat), SetR w h' D (fun j => decide (j ∈ ns)) c → c ≤ ns.length → (∀ b o, b ≠ D → z.heap.get? b = some o → h'.get? b = some o) → R (.ok (.ret .none)) { z with heap := h', toks := tk }) :
    codeAny (model P w) A (.call (.builtin "set.__init__") ⟨[.ref D, .ref l], []⟩) R z := by
  have hn : items.size = ns.length := by
    have e := IntsAre.length hit
    rw [Array.length_toList] at e
    exact e
  have hT : Shared.TypeIs z (.ref D) "set" := ⟨_, hD, rfl⟩
  have lD : D < z.heap.objs.size := Heap.lt_size hD
  obtain ⟨⟨oc, od, oa, os⟩, hol, hcl, nl, hdl⟩ := id hl
  have ll : l < z.heap.objs.size := Heap.lt_size hol
  dsimp only at hcl hdl
  subst hcl hdl
  have no1 := F.sub_list_set
  have no2 := F.sub_list_frozenset
  have no3 : (Value.type "list" == Value.type "dict") = false := by decide
  refine codeAny_call_builtin F.called_set.init.plain F.entry_set_init (check_set_init_1 hT ?_)
  unfold Builtin.«set.__init__» noKeywords Builtin.Frozenset.updateFrom
  generalize hPI : pyIter = PI
  wp_walk
  subst hPI
  refine wpAny_pyIter_list hl ?_
  refine wpAny_bind (wpAny_runValue ?_)
  have free3 : A.in1.in1.handled = none := by simp [hh]
  have apart : l ≠ z.heap.objs.size := Nat.ne_of_lt ll
  have offS : D ∉ [z.heap.objs.size, l] := fun m => by
    rcases List.mem_cons.mp m with y | y
    · exact absurd y (Nat.ne_of_lt lD)
    · exact hne (List.mem_singleton.mp y).symm
  have each : ∀ (i : Nat) (v : Value), items[i]? = some v → ∃ k t, ns[i]? = some k ∧ v = .int k t := fun i v e => by
    have hi : i < ns.length := hn ▸ (Array.getElem?_eq_some_iff.mp e).1
    obtain ⟨t, e2⟩ := IntsAre.int_at hit i v (by rw [Array.getElem?_toList]; exact e)
    exact ⟨ns[i], t, List.getElem?_eq_getElem hi, by rw [e2, List.getD_eq_getElem?_getD, List.getElem?_eq_getElem hi]; rfl⟩
  refine set_update_ints ((Walks.list free3 _ l apart items).toS) D offS ns hn hb each (items.size - 0) 0 _ (by omega) (Nat.zero_le _) ?_ ⟨0, Nat.le_refl 0, ?_⟩ ?_
  · exact ⟨⟨_, Heap.get?_push_size _ rfl, rfl, rfl⟩, hl.push _⟩
  · exact setR_new_at (Heap.get?_push_of_some _ hD)
  rintro ⟨h', gens', drawn', tk', os'⟩ c moved hc new
  obtain rfl : gens' = z.gens := moved.gens
  obtain rfl : drawn' = z.drawn := moved.drawn
  obtain rfl : os' = z.os := moved.os
  show wpAny _ _ _ _ _ _
  refine wpAny_pure ?_
  show wpAny _ _ (ret Value.none) _ _ _
  refine wpAny_pure (q h' tk' c new (by omega) fun b o hbD e => ?_)
  have lb : b < z.heap.objs.size := Heap.lt_size e
  refine moved.heap b o (fun m => ?_) (Heap.get?_push_of_some _ e)
  rcases List.mem_cons.mp m with y | y
  · exact hbD y
  · exact absurd (List.mem_singleton.mp y) (Nat.ne_of_lt lb)
theorem set_over {z : Shared} {l : Addr} {items : Array Value} {ns : List Int} {Q : Value → Shared → Prop} (hh : A.handled = none) (hl : z.heap.IsList l items) (hit : IntsAre items.toList ns) (hb : ns.length + 1 < scanBound)
    (q : ∀ (h' : Heap) (tk c : Nat), SetR w h' z.heap.objs.size (fun j => decide (j ∈ ns)) c → c ≤ ns.length → (∀ b o, z.heap.get? b = some o → h'.get? b = some o) → Q (.ref z.heap.objs.size) { z with heap := h', toks := tk }) :
    wpAny (model P w) A (call (.type "set") [.ref l]) Q E z := by
  obtain ⟨c0, t0, mro0⟩ := F.called_set.mro
  have m1 := F.called_set.made
  have m2 := F.called_set.sub
  have m3 := F.called_set.notType
  have m4 := F.called_set.canCreate
  have m5 := F.typeCall_set_1 (.ref l)
  have ll : l < z.heap.objs.size := by
    obtain ⟨o, ho, _⟩ := id hl
    exact Heap.lt_size ho
  refine wpAny_call (codeAny_of_tree ?_)
  show wpAny _ _ (callAny (.type "set") _) _ _ _
  refine wpAny_pure ⟨Code.quiet_builtin _ (by decide +kernel), codeAny_builtin F.entry_type_call ?_⟩
  rw [Around.under_plain (weight_type_call_type "set" [.ref l] []) rfl]
  repeat any_goals first | assumption | wp_step
  have new1 : (z.heap.push (eS w)).get? z.heap.objs.size = some (eS w) := Heap.get?_push_size _ rfl
  refine codeAny_mono (code_set_led1 (.ref l) (E := E) (Q₁ := fun v y => v = .ref z.heap.objs.size ∧ y = { z with heap := z.heap.push (eS w) }) ⟨rfl, rfl⟩) fun r y hr => ?_
  cases r with
  | error e => exact hr
  | ok fl =>
    cases fl with
    | ret v =>
      obtain ⟨rfl, rfl⟩ := hr
      have hT : Shared.TypeIs { z with heap := z.heap.push (eS w) } (.ref z.heap.objs.size) "set" := ⟨_, new1, rfl⟩
      have i1 := F.called_set.init.lookup
      have i2 := F.called_set.init.bind (.ref z.heap.objs.size)
      repeat any_goals first | assumption | wp_step
      refine init_over (A := A.in1) (z := { z with heap := z.heap.push (eS w) }) (D := z.heap.objs.size) (by simp [hh]) new1 (hl.push _) hit hb (Nat.ne_of_lt ll) fun h' tk c S hc k => ?_
      show wpAny _ _ (pure (some Value.none)) _ _ _
      repeat any_goals first | assumption | wp_step
      exact q h' tk c S hc fun b o e => k b o (Nat.ne_of_lt (Heap.lt_size e)) (Heap.get?_push_of_some _ e)
    | _ => exact hr.elim
end
section
variable {X : Cx}
/-- set(xs) -/
def rSetLI (K : PySem.W.Frag) (w : World) : List V → Hp → VK → Prop := fun xs H Q => ∃ (l : Addr) (ns : List Int), xs = [V.ref l] ∧ SqL K H l (ns.map V.int) ∧ ns.length ≤ 1000 ∧ ∀ p n, n ≤ ns.length → H p = none → Q (.ref p) (upd H p (SetO w p (fun j => decide (j ∈ ns)) n))
theorem cr_setLI (hc : X.calm = true) : CallR X (.type "set") (rSetLI X.K X.w) := by
  intro pins s σ H xs us Q I r h
  obtain ⟨l, ns, rfl, hl, h1, q⟩ := h
  obtain ⟨its, rv, pl, _⟩ := I.list hl
  rw [Vals.ref1 r]
  refine set_over (I.ok.hd hc) pl.isList (ns := ns) (by simpa using rv.ints) (by unfold scanBound; omega) fun h' tk c R hc k => ?_
  exact ⟨.ref _, upd H s.heap.objs.size (SetO X.w s.heap.objs.size (fun j => decide (j ∈ ns)) c), I.laid (t' := tk) k (Nat.le_refl _) (setO_new R), rfl, q _ c hc (I.hok.fresh (Nat.le_refl _))⟩
end
end L2

set_option Elab.async false
set_option linter.all false
set_option maxRecDepth 100000
set_option maxHeartbeats 4000000
/-! sorted(xs), xs a list of tuples of ints, as long as a list may be -/
namespace L2
open PySem PySem.Spec PyProof.Rows PySem.W
abbrev tupE (ns : List Int) : PyData := .tuple (ns.map .int)
theorem tupE_le : dataLe false tupE = fun p q => decide (p ≤ q) := by
  funext p q
  show (!dataLt (.tuple (q.map .int)) (.tuple (p.map .int))) = _
  rw [dataLt_tuple]
  show (!rowLt (q.map .int) (p.map .int)) = _
  rw [dataLt_ints]
  by_cases h : q < p
  · have h' : ¬ p ≤ q := fun r => List.not_lt.mpr r h
    simp [h, h']
  · have h' : p ≤ q := List.not_lt.mp h
    simp [h, h']
section
variable {X : Cx} {pins : List (Addr × Obj)} {σ : St} {H : Hp} {s : Shared}
abbrev TupV (K : PySem.W.Frag) (H : Hp) (u : Value) (ns : List Int) : Prop := ∃ t, u = .ref t ∧ SqT K H t (ns.map V.int)
theorem tupV_of : ∀ {xs : List V} {bs : List (List Int)} {us : List Value}, Paired (TupI X.K H) xs bs → Vals xs us → EachIs (TupV X.K H) us bs
  | _, _, _, .nil, .nil => .nil
  | _, _, _, .cons ⟨t, e, h⟩ p, .cons r v => by
    subst e
    cases r
    exact .cons ⟨t, rfl, h⟩ (tupV_of p v)
theorem tupV_to : ∀ {bs : List (List Int)} {us : List Value}, EachIs (TupV X.K H) us bs → Paired (TupI X.K H) (us.map bkV) bs ∧ ∀ u ∈ us, ∃ a, u = Value.ref a
  | _, _, .nil => ⟨.nil, fun u hu => absurd hu (by simp)⟩
  | _, _, .cons ⟨t, e, h⟩ p => by
    subst e
    obtain ⟨h1, h2⟩ := tupV_to p
    refine ⟨.cons ⟨t, rfl, h⟩ h1, fun u hu => ?_⟩
    rcases List.mem_cons.mp hu with e | hu
    · exact ⟨t, e⟩
    · exact h2 u hu
theorem tupV_reads (I : Inv X pins σ H s) {u : Value} {ns : List Int} (h : TupV X.K H u ns) : ∃ as, Reads s.heap u (tupE ns) as := by
  obtain ⟨t, rfl, ht⟩ := h
  obtain ⟨its, rv, hT, _⟩ := I.tuple ht
  exact ⟨_, reads_tuple_ints hT (by simpa using rv.ints)⟩
/-- sorted(xs): the items ascending as tuples are -/
def rSortTA (K : PySem.W.Frag) : List V → Hp → VK → Prop := fun vs H Q => ∃ (a : Addr) (xs : List V) (bs : List (List Int)), vs = [V.ref a] ∧ SqL K H a xs ∧ Paired (TupI K H) xs bs ∧ (∀ b ∈ bs, b ≠ []) ∧
  ∀ (ys : List V) (p : Addr), Paired (TupI K H) ys (bs.mergeSort fun p q => decide (p ≤ q)) → H p = none → Q (.ref p) (upd H p (.lst ys))
theorem cr_sortTA (hu : X.A.units + 65 < cLine) : CallR X (.builtin "sorted") (rSortTA X.K) := by
  intro pins s σ H vs us Q I r h
  obtain ⟨a, xs, bs, rfl, hs, hp, hne, q⟩ := h
  obtain ⟨its, rv, hl, hz⟩ := I.list hs
  rw [Vals.ref1 r]
  have e0 : EachIs (TupV X.K H) its bs := tupV_of hp rv
  have hlen : bs.length = xs.length := (Paired.length hp).symm
  refine sorted_data (A := X.A) (R := TupV X.K H) (enc := tupE) hl.isList e0 (e0.mono fun u ns h => tupV_reads I h) (AllAlike.of fun b b' => by simp [alike, alike_ints]) (.inl fun d hd => ?_) (by rw [hlen]; exact hz) (fun b _ => ?_) fun out ho eo => ?_
  · obtain ⟨b, hb, rfl⟩ := List.mem_map.mp hd
    match b, hne b hb with
    | x :: r, _ => exact ⟨_, _, rfl⟩
  · have : (tupE b).depth ≤ 1 := by simp [PyData.depth, depth_ints]
    omega
  · rw [tupE_le] at eo
    obtain ⟨e1, e2⟩ := tupV_to eo
    obtain ⟨ep, he'⟩ := PyProof.Rows.sortedAll_at s.heap its out.toArray
    have hz2 : (out.map bkV).length ≤ sizeLine := by
      rw [List.length_map, ho, hlen]
      exact hz
    exact ⟨.ref _, upd H (s.heap.objs.size + 1) (.lst (out.map bkV)), I.laid (t' := s.toks) (fun _ _ => PyProof.Rows.sortedAll_old) (Nat.le_succ _) ⟨hz2, out, ep, bkV_vals e2, he'⟩, rfl, q _ _ e1 (I.hok.fresh (Nat.le_succ _))⟩
end
end L2

set_option Elab.async false
set_option linter.all false
set_option maxRecDepth 100000
set_option maxHeartbeats 4000000
/-! math.factorial -/
namespace L2
open PySem PySem.Spec PyProof.Rows
section
variable {X : Cx}
abbrev facN (n : Nat) : Nat := PySem.Builtin.Math.factorialNat n
def rFac : List V → Hp → VK → Prop := fun vs H Q => ∃ n : Nat, vs = [.int n] ∧ n ≤ 20000 ∧ Q (.int (facN n : Nat)) H
theorem cr_fac : CallR X (.builtin "math.factorial") rFac := by
  intro pins s σ H vs us Q I r h
  obtain ⟨n, rfl, hn, q⟩ := h
  cases r with
  | cons r1 r2 =>
    cases r2
    obtain ⟨t, rfl⟩ := r1
    exact PySem.W.mc_factorial (by omega) (by omega) fun _ => ⟨.int _, H, I.tok _, ⟨_, rfl⟩, q⟩
end
end L2

set_option Elab.async false
set_option linter.all false
set_option maxRecDepth 100000
set_option maxHeartbeats 4000000
/-! sorted(xs), xs a list of one item at most, whatever it is -/
namespace L2
open PySem PySem.Spec PyProof.Rows PySem.W
section
variable {X : Cx}
def rSort1 (K : PySem.W.Frag) : List V → Hp → VK → Prop := fun vs H Q => ∃ (a : Addr) (xs : List V), vs = [V.ref a] ∧ SqL K H a xs ∧ xs.length ≤ 1 ∧
  ∀ p : Addr, H p = none → Q (.ref p) (upd H p (.lst xs))
theorem cr_sort1 : CallR X (.builtin "sorted") (rSort1 X.K) := by
  intro pins s σ H vs us Q I r h
  obtain ⟨a, xs, rfl, hs, h1, q⟩ := h
  obtain ⟨its, rv, hl, hz⟩ := I.list hs
  rw [Vals.ref1 r]
  have hlen : xs.length = its.length := rv.length
  refine Srt.sorted_any hl.isList (by omega) (fun h2 => by omega) fun out hp => ?_
  have e : out = its := by
    match its, hlen with
    | [], _ => exact List.Perm.eq_nil hp
    | [x], _ => exact List.perm_singleton.mp hp
    | _ :: _ :: _, hl => simp only [List.length_cons] at hl; omega
  subst e
  obtain ⟨ep, he'⟩ := PyProof.Rows.sortedAll_at s.heap out out.toArray
  exact ⟨.ref _, upd H (s.heap.objs.size + 1) (.lst xs), I.laid (t' := s.toks) (fun _ _ => PyProof.Rows.sortedAll_old) (Nat.le_succ _) ⟨hz, out, ep, rv, he'⟩, rfl, q _ (I.hok.fresh (Nat.le_succ _))⟩
end
end L2

set_option Elab.async false
set_option linter.all false
set_option maxRecDepth 100000
set_option maxHeartbeats 4000000
/-! xs.extend(t), t a tuple -/
namespace PySem
open PySem PySem.W PySem.AutoSeq1
theorem ext_tup {l b : Addr} {items items2 : Array Value} {n n2 : Nat} {dc : Option Addr} {sl : Array (Option Value)} (hs0 : ¬(!items.isEmpty && Builtin.List.listTooLong (items.size + items2.size)) = true) (hs1 : items.size ≤ sizeLine) (hs2 : items.size + items2.size ≤ sizeLine + 1) :
    Meets (Builtin.«list.extend» ⟨[.ref l, .ref b], []⟩) (fun _ R s => s.heap.get? l = some { cls := .type "list", dict := none, data := .seq items n, slots := #[] } ∧ s.heap.get? b = some { cls := .type "tuple", dict := dc, data := .seq items2 n2, slots := sl } ∧
      R (.ok (.ret Value.none)) { s with heap := s.heap.update l (Obj.mapSeq fun x => x ++ items2), toks := s.toks }) :=
  .of_wp fun prog w A R s h => by
    obtain ⟨hp, g, d, tk, os⟩ := s
    obtain ⟨hl, hb, h⟩ := h
    have f1 := idx_int
    have f2 := sub_tuple_tuple
    have f3 := sub_list_list
    have f4 := sub_tuple_list
    have f5 := sub_list_tuple
    have hz' : (items ++ items2).size ≤ sizeLine + 1 := by rw [Array.size_append]; exact hs2
    wp_walk using (wpAny_updateSeq hl rfl (hz := hs1) (_hz' := hz')), wpAny_loadPart' hl, wpAny_loadPart' hb
    exact ⟨_, rfl, h⟩
end PySem
namespace L2
open PySem PySem.Spec PyProof.Rows PySem.W
section
variable {X : Cx}
def rExtT (K : PySem.W.Frag) : V → List V → Hp → VK → Prop := fun x vs H Q => ∃ (l b : Addr) (xs zs : List V), x = .ref l ∧ vs = [.ref b] ∧ H l = some (.lst xs) ∧ SqT K H b zs ∧ xs.length + zs.length ≤ sizeLine ∧
  Q .non (upd H l (.lst (xs ++ zs)))
theorem mt_extendT : MtM X "list.extend" (rExtT X.K) := by
  intro pins s σ H x vs v us Q I rx rv h
  obtain ⟨l, b, xs, zs, rfl, rfl, hH, hB, hz, q⟩ := h
  cases rx
  obtain ⟨u, rfl, ru⟩ := rv.one
  cases ru
  obtain ⟨z, its, n, r, hl, e⟩ := I.lstM hH
  obtain ⟨its2, r2, ⟨ob, eb, hc, n2, hd⟩, hl2⟩ := I.tuple hB
  obtain ⟨cls, dc, data, sl⟩ := ob
  dsimp only at hc hd
  subst hc hd
  have h1 := r.length
  have h2 := r2.length
  have hsz : its.toArray.size + its2.toArray.size ≤ sizeLine := by rw [List.size_toArray, List.size_toArray]; omega
  have hlong : ¬ (!its.toArray.isEmpty && Builtin.List.listTooLong (its.toArray.size + its2.toArray.size)) = true := by
    rw [notLongL hsz, Bool.and_false]
    exact Bool.false_ne_true
  refine call_meets F.slot_list_extend ⟨_, e, rfl⟩ F.entry_list_extend (F.args_list_extend_2 _ _) (PySem.ext_tup hlong (by rw [List.size_toArray]; omega) (by omega)) ⟨e, eb, ?_⟩
  refine ⟨.non, _, I.lset (its' := its ++ its2) hH e (by simp) (r.append r2) ?_, rfl, q⟩
  rw [List.length_append]
  omega
end
end L2

set_option Elab.async false
set_option linter.all false
set_option maxRecDepth 100000
set_option maxHeartbeats 4000000
/-! set(xs), xs a tuple of ints, as a value -/
namespace L2
open PySem PySem.Spec PyProof.Rows
section
variable {P : Program} {w : World} {A : Around} {E : Value → Shared → Prop}
theorem sub_tup_set : isSubtype (.type "tuple") (.type "set") = pure false := by rw [isSubtype_type]; kernel_rfl
theorem sub_tup_frz : isSubtype (.type "tuple") (.type "frozenset") = pure false := by rw [isSubtype_type]; kernel_rfl
theorem init_overT {z : Shared} {D l : Addr} {items : Array Value} {ns : List Int} {R : Result → Shared → Prop} (hh : A.handled = none) (hD : z.heap.get? D = some (eS w)) (hl : z.heap.IsTuple l items) (hit : IntsAre items.toList ns) (hb : ns.length + 1 < scanBound) (hne : l ≠ D)
    (q : ∀ (h' : Heap) (tk c : Nat), SetR w h' D (fun j => decide (j ∈ ns)) c → c ≤ ns.length → (∀ b o, b ≠ D → z.heap.get? b = some o → h'.get? b = some o) → R (.ok (.ret .none)) { z with heap := h', toks := tk }) :
    codeAny (model P w) A (.call (.builtin "set.__init__") ⟨[.ref D, .ref l], []⟩) R z := by
  have hn : items.size = ns.length := by
    have e := IntsAre.length hit
    rw [Array.length_toList] at e
    exact e
  have hT : Shared.TypeIs z (.ref D) "set" := ⟨_, hD, rfl⟩
  have lD : D < z.heap.objs.size := Heap.lt_size hD
  obtain ⟨⟨oc, od, oa, os⟩, hol, hcl, nl, hdl⟩ := id hl
  have ll : l < z.heap.objs.size := Heap.lt_size hol
  dsimp only at hcl hdl
  subst hcl hdl
  have no1 := sub_tup_set
  have no2 := sub_tup_frz
  have no3 : (Value.type "tuple" == Value.type "dict") = false := by decide
  refine codeAny_call_builtin F.called_set.init.plain F.entry_set_init (check_set_init_1 hT ?_)
  unfold Builtin.«set.__init__» noKeywords Builtin.Frozenset.updateFrom
  generalize hPI : pyIter = PI
  wp_walk
  subst hPI
  refine wpAny_pyIter_tuple hl ?_
  refine wpAny_bind (wpAny_runValue ?_)
  have free3 : A.in1.in1.handled = none := by simp [hh]
  have apart : l ≠ z.heap.objs.size := Nat.ne_of_lt ll
  have offS : D ∉ [z.heap.objs.size, l] := fun m => by
    rcases List.mem_cons.mp m with y | y
    · exact absurd y (Nat.ne_of_lt lD)
    · exact hne (List.mem_singleton.mp y).symm
  have each : ∀ (i : Nat) (v : Value), items[i]? = some v → ∃ k t, ns[i]? = some k ∧ v = .int k t := fun i v e => by
    have hi : i < ns.length := hn ▸ (Array.getElem?_eq_some_iff.mp e).1
    obtain ⟨t, e2⟩ := IntsAre.int_at hit i v (by rw [Array.getElem?_toList]; exact e)
    exact ⟨ns[i], t, List.getElem?_eq_getElem hi, by rw [e2, List.getD_eq_getElem?_getD, List.getElem?_eq_getElem hi]; rfl⟩
  refine set_update_ints ((Walks.tuple free3 _ l apart items).toS) D offS ns hn hb each (items.size - 0) 0 _ (by omega) (Nat.zero_le _) ?_ ⟨0, Nat.le_refl 0, ?_⟩ ?_
  · exact ⟨⟨_, Heap.get?_push_size _ rfl, rfl, rfl⟩, hl.push _⟩
  · exact setR_new_at (Heap.get?_push_of_some _ hD)
  rintro ⟨h', gens', drawn', tk', os'⟩ c moved hc new
  obtain rfl : gens' = z.gens := moved.gens
  obtain rfl : drawn' = z.drawn := moved.drawn
  obtain rfl : os' = z.os := moved.os
  show wpAny _ _ _ _ _ _
  refine wpAny_pure ?_
  show wpAny _ _ (ret Value.none) _ _ _
  refine wpAny_pure (q h' tk' c new (by omega) fun b o hbD e => ?_)
  have lb : b < z.heap.objs.size := Heap.lt_size e
  refine moved.heap b o (fun m => ?_) (Heap.get?_push_of_some _ e)
  rcases List.mem_cons.mp m with y | y
  · exact hbD y
  · exact absurd (List.mem_singleton.mp y) (Nat.ne_of_lt lb)
theorem set_overT {z : Shared} {l : Addr} {items : Array Value} {ns : List Int} {Q : Value → Shared → Prop} (hh : A.handled = none) (hl : z.heap.IsTuple l items) (hit : IntsAre items.toList ns) (hb : ns.length + 1 < scanBound)
    (q : ∀ (h' : Heap) (tk c : Nat), SetR w h' z.heap.objs.size (fun j => decide (j ∈ ns)) c → c ≤ ns.length → (∀ b o, z.heap.get? b = some o → h'.get? b = some o) → Q (.ref z.heap.objs.size) { z with heap := h', toks := tk }) :
    wpAny (model P w) A (call (.type "set") [.ref l]) Q E z := by
  obtain ⟨c0, t0, mro0⟩ := F.called_set.mro
  have m1 := F.called_set.made
  have m2 := F.called_set.sub
  have m3 := F.called_set.notType
  have m4 := F.called_set.canCreate
  have m5 := F.typeCall_set_1 (.ref l)
  have ll : l < z.heap.objs.size := by
    obtain ⟨o, ho, _⟩ := id hl
    exact Heap.lt_size ho
  refine wpAny_call (codeAny_of_tree ?_)
  show wpAny _ _ (callAny (.type "set") _) _ _ _
  refine wpAny_pure ⟨Code.quiet_builtin _ (by decide +kernel), codeAny_builtin F.entry_type_call ?_⟩
  rw [Around.under_plain (weight_type_call_type "set" [.ref l] []) rfl]
  repeat any_goals first | assumption | wp_step
  have new1 : (z.heap.push (eS w)).get? z.heap.objs.size = some (eS w) := Heap.get?_push_size _ rfl
  refine codeAny_mono (code_set_led1 (.ref l) (E := E) (Q₁ := fun v y => v = .ref z.heap.objs.size ∧ y = { z with heap := z.heap.push (eS w) }) ⟨rfl, rfl⟩) fun r y hr => ?_
  cases r with
  | error e => exact hr
  | ok fl =>
    cases fl with
    | ret v =>
      obtain ⟨rfl, rfl⟩ := hr
      have hT : Shared.TypeIs { z with heap := z.heap.push (eS w) } (.ref z.heap.objs.size) "set" := ⟨_, new1, rfl⟩
      have i1 := F.called_set.init.lookup
      have i2 := F.called_set.init.bind (.ref z.heap.objs.size)
      repeat any_goals first | assumption | wp_step
      refine init_overT (A := A.in1) (z := { z with heap := z.heap.push (eS w) }) (D := z.heap.objs.size) (by simp [hh]) new1 (hl.push _) hit hb (Nat.ne_of_lt ll) fun h' tk c S hc k => ?_
      show wpAny _ _ (pure (some Value.none)) _ _ _
      repeat any_goals first | assumption | wp_step
      exact q h' tk c S hc fun b o e => k b o (Nat.ne_of_lt (Heap.lt_size e)) (Heap.get?_push_of_some _ e)
    | _ => exact hr.elim
end
section
variable {X : Cx}
/-- set(xs) -/
def rSetTI (K : PySem.W.Frag) (w : World) : List V → Hp → VK → Prop := fun xs H Q => ∃ (l : Addr) (ns : List Int), xs = [V.ref l] ∧ SqT K H l (ns.map V.int) ∧ ns.length ≤ 1000 ∧ ∀ p n, n ≤ ns.length → H p = none → Q (.ref p) (upd H p (SetO w p (fun j => decide (j ∈ ns)) n))
theorem cr_setTI (hc : X.calm = true) : CallR X (.type "set") (rSetTI X.K X.w) := by
  intro pins s σ H xs us Q I r h
  obtain ⟨l, ns, rfl, hl, h1, q⟩ := h
  obtain ⟨its, rv, pl, _⟩ := I.tuple hl
  rw [Vals.ref1 r]
  refine set_overT (I.ok.hd hc) pl (ns := ns) (by simpa using rv.ints) (by unfold scanBound; omega) fun h' tk c R hc k => ?_
  exact ⟨.ref _, upd H s.heap.objs.size (SetO X.w s.heap.objs.size (fun j => decide (j ∈ ns)) c), I.laid (t' := tk) k (Nat.le_refl _) (setO_new R), rfl, q _ c hc (I.hok.fresh (Nat.le_refl _))⟩
end
end L2

set_option Elab.async false
set_option linter.all false
set_option maxRecDepth 100000
set_option maxHeartbeats 4000000
/-! t > u, both tuples of ints -/
namespace L2
open PySem PySem.Spec PyProof.Rows
abbrev gtB (ns ms : List Int) : Bool := Ob.lexAt (fun j => decide (ns.getD j 0 = ms.getD j 0)) (fun j => decide (ms.getD j 0 < ns.getD j 0)) (decide (ms.length < ns.length)) 0 (min ns.length ms.length)
def rGtT (K : PySem.W.Frag) : R2 := fun x y H Q => ∃ (t1 t2 : Addr) (ns ms : List Int), (x = .ref t1 ∧ y = .ref t2) ∧ (SqT K H t1 (ns.map V.int) ∧ SqT K H t2 (ms.map V.int)) ∧ Q (.bl (gtB ns ms)) H
theorem op_gtT {X : Cx} (few : X.A.units < cLine) : OpR X (compareOp .Gt) (rGtT X.K) := by
  rintro pins s σ H x y v u Q I rx ry ⟨t1, t2, ns, ms, ⟨rfl, rfl⟩, ⟨h1, h2⟩, q⟩
  cases rx; cases ry
  obtain ⟨us, va, pa, _⟩ := I.tuple h1
  obtain ⟨ws, vb, pb, _⟩ := I.tuple h2
  have item : ∀ {zs : List Value} {ks : List Int}, IntsAre zs ks → ∀ j (h : j < zs.toArray.size), ∃ t, zs.toArray[j] = .int (ks.getD j 0) t := fun ii j h =>
    PyProof.Rows.IntsAre.int_at ii _ _ (by simp at h; simp [h])
  have size : ∀ {zs : List Value} {ks : List Int}, IntsAre zs ks → zs.toArray.size = ks.length := fun ii => by rw [List.size_toArray]; exact ii.length
  have beq : ∀ a b : Int, decide (a = b) = (a == b) := fun a b => by
    by_cases c : a = b
    · subst c; simp
    · rw [decide_eq_false c]; exact (beq_eq_false_iff_ne.mpr c).symm
  have main := Ob.RcOp.tuples_gt (A := X.A) (s := s) (e := fun j => decide (ns.getD j 0 = ms.getD j 0)) (r := fun j => decide (ms.getD j 0 < ns.getD j 0)) pa pb few
    (fun j i1 i2 => by
      obtain ⟨k1, g1⟩ := item va.ints j i1
      obtain ⟨k2, g2⟩ := item vb.ints j i2
      rw [g1, g2, beq]
      exact SeqAt.EqAt.int_int _ _ _ _)
    (fun j i1 i2 _ => by
      obtain ⟨k1, g1⟩ := item va.ints j i1
      obtain ⟨k2, g2⟩ := item vb.ints j i2
      rw [g1, g2]
      exact Ob.RcOp.gt_int _ _ _ _)
  rw [size va.ints, size vb.ints] at main
  exact main X.prog X.w X.xe (EP X pins σ Q) ⟨.bl _, H, I, rfl, q⟩
end L2

set_option Elab.async false
set_option linter.all false
set_option maxRecDepth 100000
set_option maxHeartbeats 4000000
/-! sorted(xs), xs a list of tuples of ints, the first of which has no item -/
namespace PySem.W
open PySem PySem.Calls PyProof.Rows PySem.SeqAt
section
variable {prog : Program} {w : World} {A : Around} {E : Value → Shared → Prop} {s : Shared}
theorem call_tuple_ltZ {Q : Value → Shared → Prop} {l b : Addr} {items items2 : Array Value} {e r : Nat → Bool} (hl : s.heap.IsTuple l items) (hb : s.heap.IsTuple b items2)
    (he : ∀ j (h1 : j < items.size) (h2 : j < items2.size), EqAt A.in1 s items[j] items2[j] (e j)) (hr : ∀ j (h1 : j < items.size) (h2 : j < items2.size), e j = false → RcLt A.in1 s items[j] items2[j] (r j))
    (h : Q (.bool (firstLt e r (decide (items.size < items2.size)) (List.range (min items.size items2.size)))) s) : wpAny (model prog w) A (call (.builtin "tuple.__lt__") [.ref l, .ref b]) Q E s := by
  obtain ⟨⟨cls, dd, data, sl⟩, ho, hc, n, hd⟩ := id hl
  obtain ⟨⟨cls2, dd2, data2, sl2⟩, ho2, hc2, n2, hd2⟩ := id hb
  simp only at hc hd hc2 hd2
  subst hc hd hc2 hd2
  exact call_meets F.slot_tuple_lt ⟨_, ho, rfl⟩ F.entry_tuple_lt (F.args_tuple_lt_2 _ _) (tuple_ltAt l b items items2 n n2 dd dd2 sl sl2 e r) ⟨ho, ho2, he, hr, h⟩
theorem oneLt_tupZ {xs ys : List PyData} {a b : Value} {as bs : List Addr} {Q : Bool → Shared → Prop} (ra : Reads s.heap a (.tuple xs) as) (rb : Reads s.heap b (.tuple ys) bs) (hal : alikeAll xs ys = true)
    (hu : A.units + min (PyData.tuple xs).depth (PyData.tuple ys).depth < cLine) (hq : Q (dataLt (.tuple xs) (.tuple ys)) s) : wpAny (model prog w) A (oneLt' true a b) Q E s := by
  cases ra with
  | @tuple l o vs n _ as₁ h1 h2 h3 h4 =>
    cases rb with
    | @tuple l' o' vs' n' _ bs₁ k1 k2 k3 k4 =>
      have n1 : vs.size = xs.length := by simpa using ReadsAll.length _ _ _ h4
      have n2 : vs'.size = ys.length := by simpa using ReadsAll.length _ _ _ k4
      rw [dataLt_tuple, ← firstLt_toks xs ys hal, ← n1, ← n2] at hq
      rw [oneLt'_eq]
      simp only [if_true]
      refine wpAny_bind (wpAny_cRoomFor (room_here hu) ?_)
      refine wpAny_bind (wpAny_callSpecialIfBound?_slot (T := "tuple") ⟨_, h1, h2⟩ F.slot_tuple_lt (call_tuple_ltZ (e := pairEq xs ys) (r := fun j => dataLt (xs.getD j .none) (ys.getD j .none)) ⟨_, h1, h2, _, h3⟩ ⟨_, k1, k2, _, k3⟩ (fun j j1 j2 => ?_) (fun j j1 j2 hj => ?_) ?_))
      · have := eqAt_alikeAll xs ys A.in1 s vs.toList vs'.toList _ _ h4 k4 hal (room_in hu) j (by simpa using j1) (by simpa using j2)
        simpa using this
      · have := rcLt_alikeAll xs ys A.in1 s vs.toList vs'.toList _ _ h4 k4 hal (room_in hu) j (by simpa using j1) (by simpa using j2) hj
        simpa using this
      · exact wpAny_truthy_bool hq
end
section
variable {M : Model} {A : Around} {E : Value → Shared → Prop} {s : Shared}
def TupAt (h : Heap) (v : Value) (xs : Array Value) : Prop := ∃ a o n, v = .ref a ∧ h.get? a = some o ∧ o.cls = .type "tuple" ∧ o.data = .seq xs n
theorem first_tupZ {v : Value} {xs : Array Value} {Q : Option Value → Shared → Prop} (t : TupAt s.heap v xs) (h : Q xs[0]? s) : wpAny M A (firstOfTuple' v) Q E s := by
  obtain ⟨a, o, n, rfl, ho, hc, hd⟩ := t
  rw [kas_first_eq]
  refine wpAny_bind (Looks.here (show Looks M s.heap (typeOf (.ref a)) o.cls from (Looks.ld ho).andThen .now) ?_)
  rw [hc, if_neg (by first | decide | simp)]
  exact wpAny_bind (listItems_at ho hd (wpAny_pure h))
theorem firsts_anyZ : ∀ (vs : List Value), (∀ v ∈ vs, ∃ xs, TupAt s.heap v xs) → ∃ rs : List (Option Value), ∀ {Q : List (Option Value) → Shared → Prop}, Q rs s → wpAny M A (vs.mapM firstOfTuple') Q E s
  | [], _ => ⟨[], fun h => by rw [List.mapM_nil]; exact wpAny_pure h⟩
  | v :: vs, t => by
    obtain ⟨xs, hx⟩ := t v (.head _)
    obtain ⟨rs, hr⟩ := firsts_anyZ vs fun v hv => t v (.tail _ hv)
    refine ⟨xs[0]? :: rs, fun {Q} h => ?_⟩
    rw [List.mapM_cons]
    exact wpAny_bind (first_tupZ hx (wpAny_bind (hr (Q := fun bs s' => wpAny M A (pure (xs[0]? :: bs)) Q E s') (wpAny_pure h))))
theorem kind_tupZ {v₁ : Value} {rest : List Value} {Q : SortKind → Shared → Prop} (h1 : TupAt s.heap v₁ #[]) (hT : ∀ v ∈ rest, ∃ xs, TupAt s.heap v xs) (h : Q oneType' s) : wpAny M A (keyKind' (v₁ :: rest).toArray) Q E s := by
  obtain ⟨rs, hr⟩ := firsts_anyZ (M := M) (A := A) (E := E) rest hT
  rw [keyKind'_eq, List.mapM_toArray, map_eq_pure_bind]
  refine wpAny_bind (wpAny_bind ?_)
  rw [List.mapM_cons]
  refine wpAny_bind (first_tupZ h1 (wpAny_bind (hr ?_)))
  refine wpAny_pure (wpAny_pure ?_)
  rw [if_neg (by simp), if_neg (by simp)]
  rw [oneTypeOnly'_eq, List.mapM_toArray, map_eq_pure_bind]
  have hty : ∀ v ∈ v₁ :: rest, ∀ (Q' : Value → Shared → Prop), Q' (.type "tuple") s → wpAny M A (typeOf v) Q' E s := fun v hv Q' hq => by
    have ht : ∃ xs, TupAt s.heap v xs := by
      rcases List.mem_cons.mp hv with rfl | hv
      · exact ⟨_, h1⟩
      · exact hT v hv
    obtain ⟨xs, a, o, n, rfl, ho, hc, hd⟩ := ht
    refine Looks.here (show Looks M s.heap (typeOf (.ref a)) o.cls from (Looks.ld ho).andThen .now) ?_
    rw [hc]
    exact hq
  refine wpAny_bind (wpAny_bind (wpAny_bind (kas_mapM (r := .type "tuple") _ hty (wpAny_pure ?_))))
  have hall : ((List.map (fun _ => Value.type "tuple") (v₁ :: rest)).toArray.all fun x => x == Value.type "tuple") = true := by
    simp only [List.all_toArray, List.all_map, List.all_eq_true]
    intro _ _
    rfl
  have h0 : (List.map (fun _ => Value.type "tuple") (v₁ :: rest)).toArray[0]? = some (Value.type "tuple") := by simp
  rw [h0]
  simp only [hall, if_true]
  exact wpAny_pure (wpAny_pure h)
end
section
variable {prog : Program} {w : World} {A : Around} {E : Value → Shared → Prop} {s : Shared}
theorem reads_tupZ {v : Value} {r : List PyData} {as : List Addr} (h : Reads s.heap v (.tuple r) as) : ∃ xs, TupAt s.heap v xs := by
  cases h with
  | @tuple l o vs n _ as₁ h1 h2 h3 h4 => exact ⟨_, l, o, n, rfl, h1, h2, h3⟩
theorem reads_tup0Z {v : Value} {as : List Addr} (h : Reads s.heap v (.tuple []) as) : TupAt s.heap v #[] := by
  cases h with
  | @tuple l o vs n _ as₁ h1 h2 h3 h4 =>
    have n1 : vs.size = 0 := by simpa using ReadsAll.length _ _ _ h4
    obtain rfl : vs = #[] := Array.eq_empty_of_size_eq_zero n1
    exact ⟨l, o, n, rfl, h1, h2, h3⟩
theorem SortsAt.tupZ {vs : List Value} {ds : List PyData} (e : EachIs (fun v d => ∃ as, Reads s.heap v d as) vs (.tuple [] :: ds)) (hal : AllAlike (.tuple [] :: ds)) (ht : ∀ d, d ∈ ds → ∃ r, d = .tuple r) (hu : ∀ d, d ∈ PyData.tuple [] :: ds → A.units + d.depth < cLine) :
    SortsAt prog w A s (dataKind s.heap (.tuple [] :: ds)) vs := by
  have ht2 : ∀ d, d ∈ PyData.tuple [] :: ds → ∃ r, d = .tuple r := fun d hd => by
    rcases List.mem_cons.mp hd with rfl | hd
    · exact ⟨_, rfl⟩
    · exact ht d hd
  refine ⟨fun v hv => ?_, oneType', ?_, fun h2 E Q hq => ?_⟩
  · obtain ⟨d, hd, as, r⟩ := e.left v hv
    exact ⟨_, dataKind_some hal hd r⟩
  · intro E x y a b Q ha hb hq
    obtain ⟨d, as, hd, ra, rfl⟩ := dataKind_inv ha
    obtain ⟨d', as', hd', rb, rfl⟩ := dataKind_inv hb
    have hdd := hal d hd d' hd'
    have hroom : A.units + min d.depth d'.depth < cLine := Nat.lt_of_le_of_lt (Nat.add_le_add_left (Nat.min_le_left _ _) _) (hu d hd)
    obtain ⟨r1, rfl⟩ := ht2 d hd
    obtain ⟨r2, rfl⟩ := ht2 d' hd'
    rw [keyLt'_oneType]
    exact oneLt_tupZ ra rb (by simpa [alike] using hdd) hroom hq
  · cases e with
    | @cons v₁ _ vs _ r1 r2 =>
      obtain ⟨as, r1⟩ := r1
      refine kind_tupZ (reads_tup0Z r1) (fun v hv => ?_) hq
      obtain ⟨d, hd, as, r⟩ := r2.left v hv
      obtain ⟨r', rfl⟩ := ht d hd
      exact reads_tupZ r
end
end PySem.W
namespace PySem.W
open PySem PySem.Calls PyProof.Rows PySem.SeqAt
section
variable {prog : Program} {w : World} {A : Around} {E : Value → Shared → Prop} {s : Shared} {β : Type} {R : Value → β → Prop} {enc : β → PyData} {b0 : β} {bs : List β} {vs : List Value}
theorem sorted_tupZ {l : Addr} {Q : Value → Shared → Prop} (h0 : enc b0 = .tuple []) (ht : ∀ b, b ∈ bs → ∃ r, enc b = .tuple r) (hl : s.heap.IsList l vs.toArray) (e : EachIs R vs (b0 :: bs)) (er : EachIs (fun v b => ∃ as, Reads s.heap v (enc b) as) vs (b0 :: bs)) (hal : AllAlike ((b0 :: bs).map enc)) (hL : (b0 :: bs).length ≤ sizeLine)
    (hu : ∀ b, b ∈ b0 :: bs → A.units + 2 + (enc b).depth < cLine) (h : ∀ out, out.length = (b0 :: bs).length → EachIs R out ((b0 :: bs).mergeSort (dataLe false enc)) → Q (.ref (s.heap.objs.size + 1)) { s with heap := sortedAll s.heap vs (List.toArray out) }) :
    wpAny (model prog w) A (call (.builtin "sorted") [.ref l]) Q E s := by
  have er' : EachIs (fun v b => ∃ as, Reads (sortingHeap (copyHeap s.heap vs) (s.heap.objs.size + 1) vs) v (enc b) as) vs (b0 :: bs) := er.mono fun _ _ ⟨as, r⟩ => ⟨as, PyProof.Rows.Reads.keeps (fun _ _ => sorting_copy_old) r⟩
  have em := each_map (R := fun v d => ∃ as, Reads (sortingHeap (copyHeap s.heap vs) (s.heap.objs.size + 1) vs) v d as) enc er'
  have bm := bound_map (A := A.in1.in1) (enc := enc) (bs := b0 :: bs) hu
  have hal2 := hal
  rw [List.map_cons, h0] at em bm hal2
  refine sorted_vals (κ := dataKind (sortingHeap (copyHeap s.heap vs) (s.heap.objs.size + 1) vs) ((b0 :: bs).map enc)) hl ?_ (by rw [e.length]; exact hL) (h _ (by rw [sortVals_length false rfl]; exact e.length) (sortVals_data false e er' hal))
  rw [List.map_cons, h0]
  refine SortsAt.tupZ (s := { s with heap := sortingHeap (copyHeap s.heap vs) (s.heap.objs.size + 1) vs }) em hal2 (fun d hd => ?_) bm
  obtain ⟨b, hb, rfl⟩ := List.mem_map.mp hd
  exact ht b hb
end
end PySem.W
namespace L2
open PySem PySem.Spec PyProof.Rows PySem.W
section
variable {X : Cx} {pins : List (Addr × Obj)} {σ : St} {H : Hp} {s : Shared}
/-- sorted(xs): the items ascending as tuples are -/
def rSortT0 (K : PySem.W.Frag) : List V → Hp → VK → Prop := fun vs H Q => ∃ (a : Addr) (xs : List V) (bs : List (List Int)), vs = [V.ref a] ∧ SqL K H a xs ∧ Paired (TupI K H) xs ([] :: bs) ∧
  ∀ (ys : List V) (p : Addr), Paired (TupI K H) ys (([] :: bs).mergeSort fun p q => decide (p ≤ q)) → H p = none → Q (.ref p) (upd H p (.lst ys))
theorem cr_sortT0 (hu : X.A.units + 65 < cLine) : CallR X (.builtin "sorted") (rSortT0 X.K) := by
  intro pins s σ H vs us Q I r h
  obtain ⟨a, xs, bs, rfl, hs, hp, q⟩ := h
  obtain ⟨its, rv, hl, hz⟩ := I.list hs
  rw [Vals.ref1 r]
  have e0 : EachIs (TupV X.K H) its ([] :: bs) := tupV_of hp rv
  have hlen : ([] :: bs).length = xs.length := (Paired.length hp).symm
  refine sorted_tupZ (A := X.A) (R := TupV X.K H) (enc := tupE) rfl (fun b _ => ⟨_, rfl⟩) hl.isList e0 (e0.mono fun u ns h => tupV_reads I h) (AllAlike.of fun b b' => by simp [alike, alike_ints]) (by rw [hlen]; exact hz) (fun b _ => ?_) fun out ho eo => ?_
  · have : (tupE b).depth ≤ 1 := by simp [PyData.depth, depth_ints]
    omega
  · rw [tupE_le] at eo
    obtain ⟨e1, e2⟩ := tupV_to eo
    obtain ⟨ep, he'⟩ := PyProof.Rows.sortedAll_at s.heap its out.toArray
    have hz2 : (out.map bkV).length ≤ sizeLine := by
      rw [List.length_map, ho, hlen]
      exact hz
    exact ⟨.ref _, upd H (s.heap.objs.size + 1) (.lst (out.map bkV)), I.laid (t' := s.toks) (fun _ _ => PyProof.Rows.sortedAll_old) (Nat.le_succ _) ⟨hz2, out, ep, bkV_vals e2, he'⟩, rfl, q _ _ e1 (I.hok.fresh (Nat.le_succ _))⟩
end
end L2

set_option Elab.async false
set_option linter.all false
set_option maxRecDepth 100000
set_option maxHeartbeats 4000000
/-! o.m(e, .., k = v, ..); an expression read in one of two ways -/
namespace L2
open PySem PySem.Spec PyProof.Rows PySem.W
/-- a method with keywords -/
def tMethN (C : Addr) (m : Str) (n j : Nat) (sp : Sp) (gV : List V → List V → List V) (E : XK) (ta : TE) (t tk : TA) : TE := fun σ H Q => ta σ H fun x H1 => ∃ a dx fs, x = .ref a ∧ H1 a = some (.ins C dx fs) ∧ fs.lookup m = none ∧
  t σ H1 fun vs H2 => tk σ H2 fun zs H3 => vs.length = n ∧ zs.length = j ∧ sp (gV (x :: vs) zs) H3 Q E
section
variable {X : Cx} {CX : CXT} {k n : Nat} {f C : Addr} {fd : FuncData} {ps ks : List Str} {sp : Sp} {E : XK} {m : Str} {pos apos : Pos} {e o : Expr} {es : List Expr} {kws : List Keyword} {ta : TE} {t tk : TA} {g : List Value → List Value → List Value} {gV : List V → List V → List V}
theorem pe_methN {pl : Sem Bool} (he : PE X o ta) (c : Cls X.K C) (hm : Meth X.K C m f) (F : FnOk X.prog X.w X.K X.mg X.base CX k f fd ps sp) (hr : Room k X.A) (hb : KBn X.K fd ps (n + 1) ks g gV) (hx : Passes CX X E) (ha : PA X (e :: es) t) (hkw : PK X kws tk)
    (hall : (backToKw pos (keywordEach kws X.env)).all (·.1.isSome) = true := by rfl) (hks : (backToKw pos (keywordEach kws X.env)).filterMap (·.1) = ks := by rfl)
    (hst : starEach (e :: es) X.env = (false, eval e X.env) :: starEach es X.env := by rfl) (hpl : ((backTo pos (starEach (e :: es) X.env)).any (·.1) || (backToKw pos (keywordEach kws X.env)).any (·.1.isNone)) = false := by rfl)
    (ht : eval (.Call (.Attribute o m apos) (e :: es) kws pos) X.env = (do
      let ov ← eval o X.env
      standAt apos.atName
      let (f, first) ← holding [ov] (getMethod ov m pl)
      callWith pos f first (backTo pos (starEach (e :: es) X.env)) (backToKw pos (keywordEach kws X.env))) := by rfl) :
    PE X (.Call (.Attribute o m apos) (e :: es) kws pos) (tMethN C m n ks.length sp gV E ta t tk) := by
  refine ⟨fun pins s σ H Q I h => ?_⟩
  refine PySem.W.methodCall_KW (pl := pl) (thn (he.run pins s σ H _ I h) fun u s1 ⟨x, H1, I1, rx, a, dx, fs, ex, ea, l, q⟩ => ?_) ht
  subst ex
  obtain rfl : u = Value.ref a := rx
  refine getmeth_ok I1 ea c hm l ?_
  refine PySem.W.callWith_KW (first := [.ref a]) (h₀ := X.base) I.ok.mod.kin hm.kp hall (thn (ha.run pos pins s1 σ H1 _ I1 q) fun us s2 ⟨vs, H2, I2, r, q2⟩ => ?_) hpl hst
  refine thn (hkw.run pos pins s2 σ H2 _ I2 q2) fun ws s3 ⟨zs, H3, I3, rz, l1, l2, q3⟩ => ⟨I3.kIn, ?_⟩
  rw [hks]
  exact run_fnN (us := .ref a :: us) (vs := .ref a :: vs) F hr hb hx I3 (.cons rfl r) rz (by rw [List.length_cons, l1]) l2 q3
/-- an expression that may be read in two ways -/
theorem pe_two {a : Expr} {t1 t2 : TE} (h1 : PE X a t1) (h2 : PE X a t2) : PE X a (fun σ H Q => t1 σ H Q ∨ t2 σ H Q) :=
  ⟨fun pins s σ H Q I h => h.elim (h1.run pins s σ H Q I) (h2.run pins s σ H Q I)⟩
end
end L2

set_option Elab.async false
set_option linter.all false
set_option maxRecDepth 100000
set_option maxHeartbeats 4000000
/-! zip over two tuples, as a walk; != of own objects of two classes -/
namespace L2
open PySem PySem.Spec PyProof.Rows
theorem walk_zipT {K : PySem.W.Frag} {a b : Addr} {xs ys : List V} {n : Nat} (hn : n = min xs.length ys.length) : Walk (RZ.ItzT K a b) n (fun H => SqT K H a xs ∧ SqT K H b ys) (YPair (fun i => xs[i]?) (fun i => ys[i]?)) := by
  subst hn
  refine ⟨fun i _ hi q => ?_, fun _ q => ⟨xs, ys, q.1, q.2, by omega⟩, fun i H v H' _ q y => ?_⟩
  · have h1 : i < xs.length := by omega
    have h2 : i < ys.length := by omega
    exact ⟨xs, ys, xs[i], ys[i], q.1, q.2, by simp [h1], by simp [h2]⟩
  · obtain ⟨T, x, z, h1, h2, h3, h4, h5⟩ := y
    exact ⟨T, x, z, h1, h2, h3, h4 xs q.1, h5 ys q.2⟩
end L2
namespace Tw
open PySem PySem.Spec PyProof.Rows L2
open PySem.W (InstAt looks_findIn looks_subIn ifBound_K cmp_K)
section
variable {X : Cx} {CX : CXT} {k : Nat} {f C D : Addr} {fd : FuncData} {ps : List Str} {sp : Sp} {E : XK}
/-- != where the other one is an object of another class -/
def rNeD (C D : Addr) (sp : Sp) (E : XK) : R2 := fun x y H Q =>
  ∃ a dx fs b dy gs, x = .ref a ∧ H a = some (.ins C dx fs) ∧ y = .ref b ∧ H b = some (.ins D dy gs) ∧ sp [.ref a, y] H (fun v H' => ∃ r, v = .bl r ∧ Q (.bl (!r)) H') E
theorem op_ne_two (c : EqC X.K C f) (hd : PySem.W.notFirst X.K C (.ref D) = true) (F : FnOk X.prog X.w X.K X.mg X.base CX k f fd ps sp) (hr : Room (k + 1) X.A) (hb : Binds X.K fd ps []) (hx : Passes CX X E) : OpR X (compareOp .NotEq) (rNeD C D sp E) := by
  intro pins s σ H x y v u Q I rx ry ⟨a, dx, fs, b, dy, gs, ex, ha, ey, hb2, q⟩
  subst ex
  subst ey
  obtain rfl : v = Value.ref a := rx
  obtain rfl : u = Value.ref b := ry
  obtain ⟨mA, O, rr, _, _, _⟩ := ins_get I.hok ha
  obtain ⟨od, J, hl⟩ := O.look
  obtain ⟨mB, OB, rrB, _, _, _⟩ := ins_get I.hok hb2
  obtain ⟨odB, JB, hlB⟩ := OB.look
  obtain ⟨m0, hF⟩ := I.fr
  show wpAny _ _ (richCompare .NotEq (.ref a) (.ref b)) _ _ _
  refine ne_K (Room.units0 hr.in1) hr.units0 hF I.ok.mod.kin J JB.type hd c (thn (run_sub F (Sub.in1 ⟨hr, rfl⟩) hb hx I (.cons (relR a) (.cons (relR b) .nil)) q) fun r s' ⟨z, H', I', rz, b2, ez, q'⟩ => ?_)
  subst ez
  exact ⟨b2, rz, _, H', I', relB (!b2), q'⟩
end
end Tw

set_option Elab.async false
set_option linter.all false
set_option maxRecDepth 100000
set_option maxHeartbeats 2000000
/-! own rules: xs.count(k), t.count(k) (whole numbers); sum(d.values()) -/
namespace L2
open PySem PySem.Spec PyProof.Rows L2
theorem plain_ints : ∀ ns : List Int, PyData.plainAll (ns.map PyData.int) = true
  | [] => rfl
  | n :: ns => by
    simp only [List.map_cons, PyData.plainAll, plain_ints ns]
    rfl
theorem count_ints (k : Int) : ∀ ns : List Int, (ns.map PyData.int).countP (fun y => PyData.eqv y (.int k)) = ns.count k
  | [] => rfl
  | n :: ns => by
    rw [List.map_cons, List.countP_cons, count_ints k ns, List.count_cons]
    have e : PyData.eqv (.int n) (.int k) = (n == k) := rfl
    rw [e]
theorem dpAll_ints (K : PySem.W.Frag) (H : Hp) : ∀ ns : List Int, DpAll K H (ns.map V.int) (ns.map PyData.int)
  | [] => .nil
  | n :: ns => .cons (.int n) (dpAll_ints K H ns)
section
variable {X : Cx}
def rCountL (K : PySem.W.Frag) : V → List V → Hp → VK → Prop := fun x vs H Q => ∃ (a : Addr) (ns : List Int) (k : Int), x = .ref a ∧ vs = [.int k] ∧ SqL K H a (ns.map V.int) ∧ Q (.int (ns.count k : Nat)) H
def rCountT (K : PySem.W.Frag) : V → List V → Hp → VK → Prop := fun x vs H Q => ∃ (a : Addr) (ns : List Int) (k : Int), x = .ref a ∧ vs = [.int k] ∧ SqT K H a (ns.map V.int) ∧ Q (.int (ns.count k : Nat)) H
theorem mt_countL (hu : X.A.units + 65 < cLine) : MtR X "list.count" (rCountL X.K) := by
  intro pins s σ H x xs v us Q I rx rxs h
  obtain ⟨a, ns, k, rfl, rfl, hl, q⟩ := h
  cases rx
  cases rxs with
  | cons ry rt =>
    rename_i uy ut
    cases rt
    obtain ⟨its, rv, pl, hlen⟩ := I.list hl
    obtain ⟨as, h4⟩ := Dp.readsAll I (ns.map PyData.int) _ its (dpAll_ints _ _ ns) rv
    obtain ⟨bs, r1⟩ := Dp.reads I (.int k) _ uy (.int k) ry
    refine PySem.SeqAt.count_list_data (xs := ns.map PyData.int) (d := .int k) pl.isList h4 r1 (plain_ints ns) rfl (Nat.lt_of_le_of_lt (Nat.add_le_add_left (Nat.min_le_right _ _) _) (by simp only [PyData.depth]; omega)) ?_
    rw [count_ints]
    exact ⟨.int _, H, I.tok _, ⟨_, rfl⟩, q⟩
theorem mt_countT (hu : X.A.units + 65 < cLine) : MtR X "tuple.count" (rCountT X.K) := by
  intro pins s σ H x xs v us Q I rx rxs h
  obtain ⟨a, ns, k, rfl, rfl, hl, q⟩ := h
  cases rx
  cases rxs with
  | cons ry rt =>
    rename_i uy ut
    cases rt
    obtain ⟨its, rv, pl, hlen⟩ := I.tuple hl
    obtain ⟨as, h4⟩ := Dp.readsAll I (ns.map PyData.int) _ its (dpAll_ints _ _ ns) rv
    obtain ⟨bs, r1⟩ := Dp.reads I (.int k) _ uy (.int k) ry
    refine PySem.SeqAt.count_tuple_data (xs := ns.map PyData.int) (d := .int k) pl h4 r1 (plain_ints ns) rfl (Nat.lt_of_le_of_lt (Nat.add_le_add_left (Nat.min_le_right _ _) _) (by simp only [PyData.depth]; omega)) ?_
    rw [count_ints]
    exact ⟨.int _, H, I.tok _, ⟨_, rfl⟩, q⟩
theorem preSum_list : ∀ (is : List Int) (n : Nat), preSum (fun i => is.getD i 0) n = (is.take n).sum := by
  intro is n
  induction n with
  | zero => rfl
  | succ n ih =>
    rw [preSum, ih]
    by_cases h : n < is.length
    · rw [← List.take_append_getElem h, List.sum_append, List.getD_eq_getElem?_getD, List.getElem?_eq_getElem h]
      simp
    · rw [List.take_of_length_le (by omega), List.take_of_length_le (by omega), List.getD_eq_getElem?_getD, List.getElem?_eq_none (by omega)]
      simp
/-- sum(o.values()), a dict with int values -/
def tSumVals (td : TE) : TE := fun σ H Q => td σ H fun x H1 => ∃ (a : Addr) (kvs : List (Key × V)) (is : List Int), x = V.ref a ∧ H1 a = some (.dK kvs) ∧ kvs.map (·.2) = is.map V.int ∧ Q (.int is.sum) H1
variable {o : Expr} {p pos apos mpos : Pos} {td : TE}
theorem pe_sumVals (hc : X.calm = true) (hg : Gl X "sum") (hm : X.mg "sum" = none) (hd : PE X o td) (hbase : attributeBase o "values" X.env (eval o X.env) = eval o X.env := by rfl) (hline : (apos.endLine == mpos.line) = true := by rfl)
    (hse : starEach [Expr.Call (.Attribute o "values" apos) [] [] mpos] X.env = [(false, eval (Expr.Call (.Attribute o "values" apos) [] [] mpos) X.env)] := by rfl) :
    PE X (.Call (.Name "sum" p) [.Call (.Attribute o "values" apos) [] [] mpos] [] pos) (tSumVals td) := by
  refine ⟨fun pins s σ H Q I h => ?_⟩
  refine wpAny_Call_Name_kw (ld_blt I hg hm (u := .builtin "sum") (by first | rfl | decide +kernel) ?_ (by first | decide +kernel | decide) (by first | decide +kernel | decide))
  rw [hse]
  refine PySem.callWith_builtin1 (wpAny_Call_method0_late hbase hline (thn (hd.run pins s σ H _ I h) fun v s1 ⟨x, H1, I1, r1, a, kvs, is, ex, ha, hv, q⟩ => ?_))
  subst ex
  obtain rfl : v = Value.ref a := r1
  obtain ⟨_, hsys, vs, rel, dof⟩ := dk_of I1.hok ha
  obtain ⟨ep, dat⟩ := dof.dictAt
  have dat' := dat
  obtain ⟨ob, es, ho, ex, hdat, hko, hpr, hnd⟩ := dat'
  refine ⟨"dict", "dict.values", F.plainAttrs_dict, F.slot_dict_values, F.type_dict_values, ⟨ob, ho, ex.1⟩, fun b e => ?_, Calls.callWith_builtin rfl (PySem.evalArgs_none ?_)⟩
  · cases e
    exact ⟨ob, ho, ex.2.1⟩
  refine call_meetsIn F.slot_dict_values ⟨ob, ho, ex.1⟩ F.entry_dict_values (F.args_dict_values_1 _) (meets_dict_values (mixKind X.prog X.w) a hsys) ⟨⟨vs, dof⟩, ?_⟩
  have k1 : ∀ b u, s1.heap.get? b = some u → (s1.heap.push { cls := .type "dict_values", data := .fields #[.ref a] }).get? b = some u := fun b u e => Heap.get?_push_of_some _ e
  have dat1 : (s1.heap.push { cls := .type "dict_values", data := .fields #[.ref a] }).DictAt (mixKind X.prog X.w) a vs ep := dat.keep k1
  have hlv : vs.length = is.length := by
    have e1 := congrArg List.length hv
    rw [List.length_map, List.length_map] at e1
    rw [← e1]
    exact (KV.length rel).symm
  have hval : ∀ (i : Nat) (v : Value), (∃ k, vs[i]? = some (k, v)) → ∃ t, v = Value.int (is.getD i 0) t := fun i v ⟨k, hk⟩ => by
    obtain ⟨x, h1, h2⟩ := KV.at' rel hk
    have e1 : (kvs.map (·.2))[i]? = some x := by rw [List.getElem?_map, h1] <;> rfl
    rw [hv, List.getElem?_map] at e1
    obtain ⟨j, hj, e2⟩ := Option.map_eq_some_iff.mp e1
    subst e2
    obtain ⟨t, e3⟩ := h2
    refine ⟨t, ?_⟩
    rw [e3, List.getD_eq_getElem?_getD, hj] <;> rfl
  refine call_sum_walkG (wpAny_pyIter_values (v := s1.heap.objs.size) (d := a) ⟨_, Heap.get?_push_size _ rfl, rfl, rfl⟩ dat1 ?_)
  have hlt : a < s1.heap.objs.size := Heap.lt_size ho
  have hsz : (s1.heap.push { cls := .type "dict_values", data := .fields #[.ref a] }).objs.size = s1.heap.objs.size + 1 := Heap.size_push _ _
  refine ⟨_, _, _, _, _, _, fun i => is.getD i 0, rfl, Walks.dictValues (knd := mixKind X.prog X.w) (A := X.A.in1) (I.ok.hd hc) (s1.heap.push { cls := .type "dict_values", data := .fields #[.ref a] }).objs.size a (by rw [hsz]; exact Nat.ne_of_lt (Nat.lt_succ_of_lt hlt)) vs ep,
    ⟨⟨_, Heap.get?_push_size _ rfl, rfl, rfl⟩, dat1.keep fun b u e => Heap.get?_push_of_some _ e⟩, fun b hb => ?_, hval, fun h' tk t' hk => ?_⟩
  · show b < ((s1.heap.push _).push _).objs.size
    rw [Heap.size_push, Heap.size_push]
    rw [hsz] at hb
    rcases List.mem_cons.mp hb with e | hb
    · rw [e]
      exact Nat.lt_succ_self _
    · have e : b = a := List.mem_singleton.mp hb
      rw [e]
      exact Nat.lt_succ_of_lt (Nat.lt_succ_of_lt hlt)
  · rw [preSum_list, hlv, List.take_length]
    refine ⟨.int _, H1, I1.kept (t' := tk) fun b u e => hk b u (fun hmem => ?_) (Heap.get?_push_of_some _ (k1 b u e)), ⟨t', rfl⟩, q⟩
    have e1 : b = (s1.heap.push { cls := .type "dict_values", data := .fields #[.ref a] }).objs.size := List.mem_singleton.mp hmem
    have e2 := Heap.lt_size e
    rw [hsz] at e1
    rw [e1] at e2
    exact absurd e2 (Nat.not_lt.mpr (Nat.le_succ _))
end
/-- a dict by a comprehension, over any walk -/
theorem dc_it {J : It} {n : Nat} {G : Hp → Prop} {Y : Nat → Hp → V → Hp → Prop} (w : Walk J n G Y) {g : TG} {tt : TT} {tk tv : TE} {vs : List Nat} {σ : St} {H1 : Hp} {D : Addr} {Qd : Hp → Prop} (Pv : Nat → Hp → Prop) (h0 : Pv 0 (upd H1 D (.dK []))) (hG : ∀ i H, i ≤ n → Pv i H → G H)
    (hs : ∀ i x H H', i < n → Pv i H → Y i H x H' → g x (wipe σ vs) H' fun σ2 H2 => wipe σ2 vs = wipe σ vs ∧ tt σ2 H2 fun b H3 =>
      if b = true then tk σ2 H3 fun y H4 => tv σ2 H4 fun z H5 => ∃ kvs k, y = kV k ∧ H5 D = some (.dK kvs) ∧ kvs.length < sizeLine ∧ Pv (i + 1) (upd H5 D (.dK (putK kvs k z))) else Pv (i + 1) H3) (hd : ∀ H, Pv n H → Qd H) :
    ∃ W : Nat → Nat → Hp → Prop, (∃ m, W 0 m (upd H1 D (.dK []))) ∧ ∀ i m H, W i m H →
      (J.stop i H ∧ Qd H) ∨ (J.go i H ∧ ∃ Nx : Hp → Prop, (∀ H', Nx H' → ∃ m', m' < m ∧ W (i + 1) m' H') ∧ ∀ x H', J.yld i H x H' → g x (wipe σ vs) H' fun σ2 H2 => wipe σ2 vs = wipe σ vs ∧ tt σ2 H2 fun b H3 =>
        if b = true then tk σ2 H3 fun y H4 => tv σ2 H4 fun z H5 => ∃ kvs k, y = kV k ∧ H5 D = some (.dK kvs) ∧ kvs.length < sizeLine ∧ Nx (upd H5 D (.dK (putK kvs k z))) else Nx H3) := by
  refine ⟨fun i m H => m = n - i ∧ i ≤ n ∧ Pv i H, ⟨n, by simp, Nat.zero_le _, h0⟩, ?_⟩
  rintro i m H ⟨rfl, hi, p⟩
  have q := hG i H hi p
  by_cases hlt : i < n
  · refine .inr ⟨w.goes i H hlt q, Pv (i + 1), fun H' p' => ⟨n - (i + 1), by omega, rfl, hlt, p'⟩, fun x H' y => hs i x H H' hlt p (w.yields i H x H' hlt q y)⟩
  · have e : i = n := by omega
    subst e
    exact .inl ⟨w.stops H q, hd H p⟩
/-- what stays while a thing is locked stays behind -/
theorem same_lock {H H' : Hp} {d : Addr} {u v : HO} (h : H d = some u) (s : Same (upd H d v) H') : Same H (upd H' d u) := fun b o e => by
  by_cases hb : b = d
  · subst hb
    rw [upd_same, ← h, e]
  · rw [upd_ne hb]
    exact s b o (by rw [upd_ne hb]; exact e)
theorem ite_b {b c : Bool} {A B : Prop} (h : b = c) (k : if c = true then A else B) : if b = true then A else B := h ▸ k
/-- set(xs), xs a list or a tuple of whole numbers -/
def rSetSq (K : PySem.W.Frag) (w : World) : List V → Hp → VK → Prop := fun xs H Q => ∃ (l : Addr) (ns : List Int), xs = [V.ref l] ∧ (SqL K H l (ns.map V.int) ∨ SqT K H l (ns.map V.int)) ∧ ns.length ≤ 1000 ∧ ∀ p n, n ≤ ns.length → H p = none → Q (.ref p) (upd H p (SetO w p (fun j => decide (j ∈ ns)) n))
theorem cr_setSq {X : Cx} (hc : X.calm = true) : CallR X (.type "set") (rSetSq X.K X.w) := by
  intro pins s σ H vs us Q I rv ⟨l, ns, e, h, hl, q⟩
  rcases h with h | h
  · exact cr_setLI hc pins s σ H vs us Q I rv ⟨l, ns, e, h, hl, q⟩
  · exact cr_setTI hc pins s σ H vs us Q I rv ⟨l, ns, e, h, hl, q⟩
end L2

set_option Elab.async false
set_option linter.all false
set_option maxRecDepth 100000
set_option maxHeartbeats 2000000
/-! own rules: tuples of which it is known that they have no dict of their own: their methods -/
namespace L2
open PySem PySem.Spec PyProof.Rows L2
/-- a tuple that was made by tuple(..), with the object that it is -/
def TupF (H : Hp) (a : Addr) (xs : List V) : Prop := ∃ o : Obj, H a = some (.frz o (.tup xs)) ∧ o.dict = none
theorem TupF.same {H H' : Hp} {a : Addr} {xs : List V} (h : TupF H a xs) (s : Same H H') : TupF H' a xs := let ⟨o, e, d⟩ := h; ⟨o, s _ _ e, d⟩
theorem TupF.sq {K : PySem.W.Frag} {H : Hp} {a : Addr} {xs : List V} (h : TupF H a xs) : SqT K H a xs := let ⟨o, e, _⟩ := h; .inl (.inr ⟨o, e⟩)
section
variable {X : Cx}
/-- tuple(xs) of a list; of such a tuple itself -/
def rTupF (K : PySem.W.Frag) : List V → Hp → VK → Prop := fun xs H Q => ∃ p ys, xs = [V.ref p] ∧ ((SqL K H p ys ∧ ∀ l o, H l = none → o.dict = none → Q (.ref l) (upd H l (.frz o (.tup ys)))) ∨ (SqT K H p ys ∧ Q (.ref p) H))
theorem call_tupF : CallR X (.type "tuple") (rTupF X.K) := by
  intro pins s σ H xs us Q I r h
  obtain ⟨p, ys, rfl, h⟩ := h
  rcases h with ⟨hq, q⟩ | ⟨hq, q⟩
  · obtain ⟨u, rfl, rx⟩ := vals1 r
    cases rx
    obtain ⟨its, r', pl, hz⟩ := I.list hq
    have hlen := r'.length
    refine call_tuple_list pl.isList (fun h' kp => ?_) (by simp only [List.size_toArray] <;> omega)
    have I1 : Inv X pins σ H { s with heap := h' } := I.kept (t' := s.toks) kp
    have I2 : Inv X pins σ (upd H h'.objs.size (.frz { cls := .type "tuple", data := .seq its.toArray } (.tup ys))) { s with heap := h'.push { cls := .type "tuple", data := .seq its.toArray } } :=
      I1.laid (t' := s.toks) (fun b o e => Heap.get?_push_of_some _ e) (Nat.le_refl _) (show ObjOk X.prog X.w _ _ _ (.frz _ (.tup ys)) from ⟨Heap.get?_push_size _ rfl, hz, its, r', IsTup.new _ _⟩)
    exact ⟨.ref h'.objs.size, _, I2, rfl, q _ _ (I1.hok.fresh (Nat.le_refl _)) rfl⟩
  · exact call_tuple_of pins s σ H _ us Q I r ⟨p, ys, rfl, .inr ⟨hq, q⟩⟩
def tBMF (r : V → List V → Hp → VK → Prop) (to : TE) (t : TA) : TE := fun σ H Q => to σ H fun x H1 => (∃ a xs, x = .ref a ∧ TupF H1 a xs) ∧ t σ H1 fun xs H2 => r x xs H2 Q
variable {o e : Expr} {es : List Expr} {to : TE} {t : TA} {name : Str} {apos cpos : Pos} {T id : String} {r : V → List V → Hp → VK → Prop}
theorem pe_bmF (slot : Slot "tuple" name id) (hty : typeOf (.builtin id) = pure (.type "method_descriptor")) (hm : MtR X id r) (ho : PE X o to) (ha : PA X (e :: es) t)
    (hbase : attributeBase o name X.env (eval o X.env) = eval o X.env := by rfl)
    (hfew : ((backTo cpos (starEach (e :: es) X.env)).all (fun x => !x.1) && (backToKw cpos (keywordEach [] X.env)).all (fun x => x.1.isSome)
      && decide ((e :: es).length + ([] : List Keyword).length + (if ([] : List Keyword).isEmpty then 0 else 1) < 30)) = true := by rfl)
    (hline : (apos.endLine == cpos.line) = true := by rfl) (hs : starEach (e :: es) X.env = (false, eval e X.env) :: starEach es X.env := by rfl) (hplain : (backTo cpos (starEach es X.env)).any (·.1) = false := by rfl) :
    PE X (.Call (.Attribute o name apos) (e :: es) [] cpos) (tBMF r to t) := by
  refine ⟨fun pins s σ H Q I h => ?_⟩
  refine wpAny_Call_method_late hbase hfew hline rfl (thn (ho.run pins s σ H _ I h) fun v s1 ⟨x, H1, I1, r1, ty, q1⟩ => ?_)
  obtain ⟨a, xs, rfl, oo, ho2, hd⟩ := ty
  cases r1
  obtain ⟨g1, g2⟩ := I1.hok a _ ho2
  obtain ⟨hz, its, rv, hit⟩ := g2
  obtain ⟨o2, e2, hc, n2, hdat⟩ := hit
  rw [g1] at e2
  cases e2
  refine ⟨"tuple", id, F.plainAttrs_tuple, slot, hty, ⟨_, g1, hc⟩, fun b eb => ?_, ?_⟩
  · cases eb
    exact ⟨_, g1, hd⟩
  have hA := ha.run cpos pins s1 σ H1 _ I1 q1
  rw [hs] at hA ⊢
  refine Calls.callWith_builtin (by show (false || (backTo cpos (starEach es X.env)).any (·.1)) = false; rw [hplain] <;> rfl) (Calls.evalArgs_plain ?_)
  exact thn hA fun us s2 ⟨vs, H2, I2, r2, q2⟩ => hm pins s2 σ H2 (.ref a) vs _ us Q I2 (show RelV (.ref a) (Value.ref a) from rfl) r2 q2
theorem lay_ints : ∀ ns : List Int, PyData.canLayAll0 (ns.map PyData.int) = true
  | [] => rfl
  | n :: ns => by
    rw [List.map_cons, PyData.canLayAll0, lay_ints ns]
    rfl
/-- t.index(k), whole numbers, k there -/
def rIndexT (K : PySem.W.Frag) : V → List V → Hp → VK → Prop := fun x vs H Q => ∃ (a : Addr) (ns : List Int) (k : Int) (j : Nat), x = .ref a ∧ vs = [.int k] ∧ SqT K H a (ns.map V.int) ∧ ns[j]? = some k ∧ (∀ m, m < j → ns[m]? ≠ some k) ∧ Q (.int (j : Nat)) H
theorem mt_indexTI (hu : X.A.units + 65 < cLine) : MtR X "tuple.index" (rIndexT X.K) := by
  intro pins s σ H x xs v us Q I rx rxs h
  obtain ⟨a, ns, k, j, rfl, rfl, hl, hj, hno, q⟩ := h
  cases rx
  cases rxs with
  | cons ry rt =>
    rename_i uy ut
    cases rt
    obtain ⟨its, rv, pl, hlen⟩ := I.tuple hl
    obtain ⟨as, h4⟩ := Dp.readsAll I (ns.map PyData.int) _ its (dpAll_ints _ _ ns) rv
    obtain ⟨bs, r1⟩ := Dp.reads I (.int k) _ uy (.int k) ry
    have hjl := (List.getElem?_eq_some_iff.mp hj).1
    have hvl := rv.length
    rw [List.length_map] at hvl hlen
    obtain ⟨⟨cls, dd, data, sl⟩, ho, hc, n, hd'⟩ := id pl
    simp only at hc hd'
    subst hc hd'
    have hxs : PyData.canLayAll0 (ns.map PyData.int) = true := lay_ints ns
    have hmap : its.map (SeqAt.readOf s.heap) = ns.map PyData.int := SeqAt.readsAll_map _ its as hxs h4
    have at_ : ∀ (m : Nat) (hm : m < its.toArray.size) (z : Int), ns[m]? = some z → SeqAt.readOf s.heap its.toArray[m] = .int z := by
      intro m hm z hz
      have hml : m < its.length := by simpa using hm
      have e1 : (its.map (SeqAt.readOf s.heap))[m]? = some (.int z) := by rw [hmap, List.getElem?_map, hz]; rfl
      rw [List.getElem?_map, List.getElem?_eq_getElem hml] at e1
      have e2 : SeqAt.readOf s.heap its[m] = .int z := Option.some.inj e1
      simpa using e2
    have hj2 : j < its.toArray.size := by simp only [List.size_toArray]; omega
    refine call_meets F.slot_tuple_index ⟨_, ho, rfl⟩ F.entry_tuple_index (F.args_tuple_index_2 _ _)
      (TI.tuple_indexAt a its.toArray n dd sl uy (fun u => PyData.eqv (SeqAt.readOf s.heap u) (.int k)) j hj2 ?_ ?_) ⟨ho, SeqAt.items_eqAt (vs := its.toArray) (show ReadsAll s.heap its.toArray.toList (ns.map PyData.int) as from h4) r1 hxs rfl (Nat.lt_of_le_of_lt (Nat.add_le_add_left (Nat.min_le_right _ _) _) (by simp only [PyData.depth]; omega)), ?_⟩
    · show PyData.eqv (SeqAt.readOf s.heap its.toArray[j]) (.int k) = true
      rw [at_ j hj2 k hj]
      show (k == k) = true
      exact beq_self_eq_true k
    · intro m hm hmj
      have hmn : m < ns.length := by simp only [List.size_toArray] at hm; omega
      have hz : ns[m]? = some ns[m] := List.getElem?_eq_getElem hmn
      show PyData.eqv (SeqAt.readOf s.heap its.toArray[m]) (.int k) = false
      rw [at_ m hm _ hz]
      show (ns[m] == k) = false
      exact beq_eq_false_iff_ne.mpr fun z => hno m hmj (by rw [hz, z])
    · exact ⟨.int (j : Nat), H, I.tok _, ⟨_, rfl⟩, q⟩
/-- x.count(y), two names, x a list or a known tuple of whole numbers -/
def tCnt (K : PySem.W.Frag) (i j : Nat) : TE := fun σ H Q => ∃ (a : Addr) (ns : List Int) (k : Int), σ[i]? = some (some (.ref a)) ∧ σ[j]? = some (some (.int k)) ∧ (SqL K H a (ns.map V.int) ∨ TupF H a (ns.map V.int)) ∧ Q (.int (ns.count k : Nat)) H
theorem pe_cnt {e : Expr} {i j : Nat} (h1 : PE X e (tBM X.K "list" (rCountL X.K) (tVar i) (tCons (tVar j) tNil))) (h2 : PE X e (tBMF (rCountT X.K) (tVar i) (tCons (tVar j) tNil))) : PE X e (tCnt X.K i j) := by
  refine ⟨fun pins s σ H Q I h => ?_⟩
  obtain ⟨a, ns, k, e1, e2, h, q⟩ := h
  rcases h with h | h
  · exact h1.run pins s σ H Q I ⟨_, e1, .inl ⟨rfl, _, h⟩, _, e2, a, ns, k, rfl, rfl, h, q⟩
  · exact h2.run pins s σ H Q I ⟨_, e1, ⟨a, _, rfl, h⟩, _, e2, a, ns, k, rfl, rfl, h.sq, q⟩
end
/-- two promises of one def -/
theorem FnOk.or {P : Program} {w : World} {K : PySem.W.Frag} {mg : Str → Option Value} {base : Heap} {CX : CXT} {k : Nat} {f : Addr} {fd : FuncData} {ps : List Str} {s1 s2 : Sp} (F1 : FnOk P w K mg base CX k f fd ps s1) (F2 : FnOk P w K mg base CX k f fd ps s2) :
    FnOk P w K mg base CX k f fd ps (fun vs H Q E => s1 vs H Q E ∨ s2 vs H Q E) := by
  refine ⟨fun vs H Q E h => h.elim (F1.len vs H Q E) (F2.len vs H Q E), ?_⟩
  intro A outer s H args us vs Q E hr e b
  have h1 := F1.run A outer s H args us vs Q E hr e b
  have h2 := F2.run A outer s H args us vs Q E hr e b
  intros
  first
    | (rename_i h; exact h.elim (fun z => h1 (by assumption) z) (fun z => h2 (by assumption) z))
    | (rename_i h; exact h.elim h1 h2)
end L2

set_option Elab.async false
set_option linter.all false
set_option maxRecDepth 100000
set_option maxHeartbeats 2000000
/-! own rules: tuple(xs), xs a list or a tuple, in one reading -/
namespace L2
open PySem PySem.Spec PyProof.Rows L2
def rTupU : List V → Hp → VK → Prop := fun xs H Q => ∃ p ys, xs = [V.ref p] ∧ (H p = some (.lst ys) ∨ H p = some (.tup ys)) ∧ ∀ t H', Same H H' → H' t = some (.tup ys) → Q (.ref t) H'
theorem call_tupU {X : Cx} : CallR X (.type "tuple") rTupU := by
  intro pins s σ H xs us Q I r ⟨p, ys, e, h, q⟩
  rcases h with h | h
  · exact call_tuple_of pins s σ H xs us Q I r ⟨p, ys, e, .inl ⟨SqL.of h, fun l nl => q l _ (fun b o e => by rw [upd_ne (ne_of_none e nl)]; exact e) upd_same⟩⟩
  · exact call_tuple_of pins s σ H xs us Q I r ⟨p, ys, e, .inr ⟨SqT.of h, q p H (Same.refl _) h⟩⟩
def rCatU : R2 := fun x y H Q => ∃ a b xs ys, x = .ref a ∧ y = .ref b ∧ H a = some (.tup xs) ∧ H b = some (.tup ys) ∧ xs.length + ys.length ≤ sizeLine ∧ ∀ t H', Same H H' → H' t = some (.tup (xs ++ ys)) → Q (.ref t) H'
theorem op_catU {X : Cx} : OpR X (binaryOp .Add) rCatU := by
  intro pins s σ H x y v u Q I rx ry h
  obtain ⟨a, b, xs, ys, ex, ey, ha, hb, hz, q⟩ := h
  refine op_catA pins s σ H x y v u Q I rx ry ⟨a, b, xs, ys, ex, ey, SqT.of ha, SqT.of hb, hz, fun e => ?_, fun _ e => ?_, fun _ _ p np => q p _ (fun b o e => by rw [upd_ne (ne_of_none e np)]; exact e) upd_same⟩
  · exact q b H (fun _ _ e => e) (by rw [e]; exact hb)
  · exact q a H (fun _ _ e => e) (by rw [e, List.append_nil]; exact ha)
def rSlU : V → Option Int → Option Int → Hp → VK → Prop := fun x lo hi H Q => ∃ a xs, x = .ref a ∧ H a = some (.tup xs) ∧ ∀ (p : Addr) (H' : Hp), Same H H' → H' p = some (.tup (cutV xs lo hi)) → Q (.ref p) H'
theorem sl_tupU {X : Cx} : SlR X rSlU := by
  intro pins s σ H x v vl vu lo hi sl Q I rx hs pl pu h
  obtain ⟨a, xs, ex, hx, q⟩ := h
  refine sl_tupA pins s σ H x v vl vu lo hi sl Q I rx hs pl pu ⟨a, xs, ex, SqT.of hx, fun y => ?_, fun _ p np => q p _ (fun b o e => by rw [upd_ne (ne_of_none e np)]; exact e) upd_same⟩
  refine q a H (fun _ _ e => e) ?_
  have : cutV xs lo hi = xs := by
    unfold cutV
    rw [y.1, y.2, List.drop_zero, Nat.sub_zero, List.take_length]
  rw [this]
  exact hx
end L2
namespace Tw
open PySem PySem.Spec PyProof.Rows L2 PySem.W
section
variable {X : Cx} {CX : CXT} {k : Nat} {f C D : Addr} {fd : FuncData} {ps : List Str} {sp : Sp} {E : XK}
theorem op_eq_two (c : EqC X.K C f) (hd : PySem.W.notFirst X.K C (.ref D) = true) (F : FnOk X.prog X.w X.K X.mg X.base CX k f fd ps sp) (hr : Room k X.A) (hb : Binds X.K fd ps []) (hx : Passes CX X E) : OpR X (compareOp .Eq) (fun x y H Q =>
  ∃ a dx fs b dy gs, x = .ref a ∧ H a = some (.ins C dx fs) ∧ y = .ref b ∧ H b = some (.ins D dy gs) ∧ sp [.ref a, y] H (fun v H' => ∃ r, v = .bl r ∧ Q (.bl r) H') E) := by
  intro pins s σ H x y v u Q I rx ry ⟨a, dx, fs, b, dy, gs, ex, ha, ey, hb2, q⟩
  subst ex
  subst ey
  obtain rfl : v = Value.ref a := rx
  obtain rfl : u = Value.ref b := ry
  obtain ⟨mA, O, rr, _, _, _⟩ := ins_get I.hok ha
  obtain ⟨od, J, hl⟩ := O.look
  obtain ⟨mB, OB, rrB, _, _, _⟩ := ins_get I.hok hb2
  obtain ⟨odB, JB, hlB⟩ := OB.look
  obtain ⟨m0, hF⟩ := I.fr
  show wpAny _ _ (richCompare .Eq (.ref a) (.ref b)) _ _ _
  refine cmp_K hr.units0 hF I.ok.mod.kin J JB.type hd c.eq c.fn (thn (run_sub F ⟨hr, rfl⟩ hb hx I (.cons (relR a) (.cons (relR b) .nil)) q) fun r s' ⟨z, H', I', rz, b2, ez, q'⟩ => ?_)
  subst ez
  obtain rfl : r = Value.bool b2 := rz
  exact ⟨_, H', I', relB b2, q'⟩
end
end Tw

set_option Elab.async false
set_option linter.all false
set_option maxRecDepth 100000
set_option maxHeartbeats 2000000
/-! own rule: C() of a class that has no __init__ of its own -/
namespace L2
open PySem PySem.Spec PyProof.Rows PySem.W L2
structure MkO (K : PySem.W.Frag) (C : Addr) : Prop where
  makes : PySem.W.makesIn K C = true
  init : PySem.W.findIn K (.ref C) "__init__" = some (some (.builtin "object.__init__"))
  top : PySem.W.mroIn K C (.type "object") = some true
  kp : PySem.W.keepIn K (.ref C) = true
def tMakeO (C : Addr) : TE := fun σ H Q => ∀ x dx, H x = none → H dx = none → dx ≠ x → Q (.ref x) (upd (upd H dx (.own x)) x (.ins C dx []))
section
variable {X : Cx} {C : Addr} {x : Str} {p pos : Pos}
theorem run_makeO {pins : List (Addr × Obj)} {σ : St} {H : Hp} {s : Shared} {Q : VK} (M : MkO X.K C) (I : Inv X pins σ H s)
    (h : ∀ x dx, H x = none → H dx = none → dx ≠ x → Q (.ref x) (upd (upd H dx (.own x)) x (.ins C dx []))) :
    wpAny (model X.prog X.w) X.A (call (.ref C) []) (EP X pins σ Q) X.xe s := by
  have hq := h (s.heap.objs.size + 1) s.heap.objs.size (I.hok.fresh (Nat.le_succ _)) (I.hok.fresh (Nat.le_refl _)) (Nat.ne_of_lt (Nat.lt_succ_self _))
  have I2 := Inv.made (C := C) I
  refine wpAny_call (make_map0 I.kIn M.makes M.init (fun self => Looks.of_pure (oi_bind _)) ?_)
  have ho : ((s.heap.push PySem.W.emptyDict).push (PySem.W.instObj C s.heap.objs.size)).get? (s.heap.objs.size + 1) = some (PySem.W.instObj C s.heap.objs.size) := by
    have e := Heap.get?_push_size (s.heap.push PySem.W.emptyDict) (o := PySem.W.instObj C s.heap.objs.size) rfl
    rw [Heap.size_push] at e
    exact e
  have t1 : Looks (model X.prog X.w) ((s.heap.push PySem.W.emptyDict).push (PySem.W.instObj C s.heap.objs.size)) (typeOf (.ref (s.heap.objs.size + 1))) (.ref C) := NwA.type_at ho rfl
  have t2 : Looks (model X.prog X.w) ((s.heap.push PySem.W.emptyDict).push (PySem.W.instObj C s.heap.objs.size)) (isInstance (.ref (s.heap.objs.size + 1)) (.type "object")) true := t1.andThen (looks_mroIn I2.kIn M.top)
  refine codeAny_call_builtin oi_plain entry_oi (@check_slot (model X.prog X.w) _ _ _ "object.__init__" "object" "__init__" (.ref (s.heap.objs.size + 1)) [] [] _ oi_kind oi_split t2 (NwA.oi_args_any _ [] []) ?_)
  rw [oi_run]
  refine wpAny_pure ?_
  exact ⟨rfl, V.ref _, _, I2, rfl, hq⟩
theorem pe_makeO (M : MkO X.K C) (hg : Gl X x) (hm : X.mg x = some (.ref C)) (hdb : (x == ("__debug__" : Str)) = false := by decide) : PE X (.Call (.Name x p) [] [] pos) (tMakeO C) := by
  refine ⟨fun pins s σ H Q I h => ?_⟩
  refine wpAny_Call_Name_kw (ld_glob I hg hm ?_ hdb)
  exact PySem.W.callWith_K0 I.kIn M.kp (run_makeO M I h)
end
end L2

set_option Elab.async false
set_option linter.all false
set_option maxRecDepth 100000
set_option maxHeartbeats 2000000
/-! own rules: slices of tuples that are known to have no dict; t.index(text) -/
namespace L2
open PySem PySem.Spec PyProof.Rows L2
section
variable {X : Cx}
def rSlF (K : PySem.W.Frag) : V → Option Int → Option Int → Hp → VK → Prop := fun x lo hi H Q => ∃ a xs, x = .ref a ∧ SqT K H a xs ∧
  ¬ (HT.sIx xs.length 0 lo = 0 ∧ HT.sIx xs.length xs.length hi = xs.length) ∧ ∀ p o, H p = none → o.dict = none → Q (.ref p) (upd H p (.frz o (.tup (cutV xs lo hi))))
theorem sl_tupF : SlR X (rSlF X.K) := by
  intro pins s σ H x v vl vu lo hi sl Q I rx hs pl pu h
  obtain ⟨a, xs, rfl, hx, hw, q⟩ := h
  cases rx
  obtain ⟨its, r, ht, hz⟩ := I.tuple hx
  have hlen : its.toArray.size = xs.length := by rw [List.size_toArray]; exact r.length.symm
  refine ⟨"tuple", _, PyProof.Rows.slot_tuple_getitem.lookup, ht.typeIs, ?_⟩
  refine HT.getItem_tuple_cut ht hs pl pu (by rw [hlen]; exact hw) ?_ (by rw [hlen]; exact hz)
  rw [hlen]
  have hv := (r.drop (HT.sIx xs.length 0 lo)).take (HT.sIx xs.length xs.length hi - HT.sIx xs.length 0 lo)
  refine ⟨.ref s.heap.objs.size, _, I.laid (t' := s.toks) (o := .frz { cls := .type "tuple", data := .seq (((its.drop (HT.sIx xs.length 0 lo)).take (HT.sIx xs.length xs.length hi - HT.sIx xs.length 0 lo)).toArray) } (.tup (cutV xs lo hi))) (fun b ob q => Heap.get?_push_of_some _ q) (Nat.le_refl _) ?_, rfl, q _ _ (I.hok.fresh (Nat.le_refl _)) rfl⟩
  exact ⟨Heap.get?_push_size _ rfl, Nat.le_trans (cutV_length xs lo hi) hz, _, hv, IsTup.new _ _⟩
/-- t.index(x), texts, x there -/
def rIndexS (K : PySem.W.Frag) : V → List V → Hp → VK → Prop := fun x vs H Q => ∃ (a : Addr) (ns : List Str) (k : Str) (j : Nat), x = .ref a ∧ vs = [.str k] ∧ SqT K H a (ns.map V.str) ∧ (∀ z ∈ ns, (PyData.str z).canLay0 = true) ∧ ns[j]? = some k ∧ (∀ m, m < j → ns[m]? ≠ some k) ∧ Q (.int (j : Nat)) H
theorem dpAll_strs (K : PySem.W.Frag) (H : Hp) : ∀ ns : List Str, DpAll K H (ns.map V.str) (ns.map PyData.str)
  | [] => .nil
  | n :: ns => .cons (.str n) (dpAll_strs K H ns)
theorem lay_strs : ∀ ns : List Str, (∀ z ∈ ns, (PyData.str z).canLay0 = true) → PyData.canLayAll0 (ns.map PyData.str) = true
  | [], _ => rfl
  | n :: ns, h => by
    rw [List.map_cons, PyData.canLayAll0, lay_strs ns (fun z hz => h z (List.mem_cons_of_mem _ hz)), h n List.mem_cons_self]
    rfl
theorem str_beq (a b : Str) : PyData.eqv (.str a) (.str b) = (a == b) := rfl
theorem mt_indexTS (hu : X.A.units + 65 < cLine) : MtR X "tuple.index" (rIndexS X.K) := by
  intro pins s σ H x xs v us Q I rx rxs h
  obtain ⟨a, ns, k, j, rfl, rfl, hl, hlay, hj, hno, q⟩ := h
  cases rx
  cases rxs with
  | cons ry rt =>
    rename_i uy ut
    cases rt
    obtain ⟨its, rv, pl, hlen⟩ := I.tuple hl
    obtain ⟨as, h4⟩ := Dp.readsAll I (ns.map PyData.str) _ its (dpAll_strs _ _ ns) rv
    obtain ⟨bs, r1⟩ := Dp.reads I (.str k) _ uy (.str k) ry
    have hjl := (List.getElem?_eq_some_iff.mp hj).1
    have hvl := rv.length
    rw [List.length_map] at hvl hlen
    obtain ⟨⟨cls, dd, data, sl⟩, ho, hc, n, hd'⟩ := id pl
    simp only at hc hd'
    subst hc hd'
    have hxs : PyData.canLayAll0 (ns.map PyData.str) = true := lay_strs ns hlay
    have hmap : its.map (SeqAt.readOf s.heap) = ns.map PyData.str := SeqAt.readsAll_map _ its as hxs h4
    have at_ : ∀ (m : Nat) (hm : m < its.toArray.size) (z : Str), ns[m]? = some z → SeqAt.readOf s.heap its.toArray[m] = .str z := by
      intro m hm z hz
      have hml : m < its.length := by simpa using hm
      have e1 : (its.map (SeqAt.readOf s.heap))[m]? = some (.str z) := by rw [hmap, List.getElem?_map, hz]; rfl
      rw [List.getElem?_map, List.getElem?_eq_getElem hml] at e1
      have e2 : SeqAt.readOf s.heap its[m] = .str z := Option.some.inj e1
      simpa using e2
    have hj2 : j < its.toArray.size := by simp only [List.size_toArray]; omega
    refine call_meets F.slot_tuple_index ⟨_, ho, rfl⟩ F.entry_tuple_index (F.args_tuple_index_2 _ _)
      (TI.tuple_indexAt a its.toArray n dd sl uy (fun u => PyData.eqv (SeqAt.readOf s.heap u) (.str k)) j hj2 ?_ ?_) ⟨ho, SeqAt.items_eqAt (vs := its.toArray) (show ReadsAll s.heap its.toArray.toList (ns.map PyData.str) as from h4) r1 hxs (hlay k (List.mem_of_getElem? hj)) (Nat.lt_of_le_of_lt (Nat.add_le_add_left (Nat.min_le_right _ _) _) (by simp only [PyData.depth]; omega)), ?_⟩
    · show PyData.eqv (SeqAt.readOf s.heap its.toArray[j]) (.str k) = true
      rw [at_ j hj2 k hj]
      show (k == k) = true
      exact beq_self_eq_true k
    · intro m hm hmj
      have hmn : m < ns.length := by simp only [List.size_toArray] at hm; omega
      have hz : ns[m]? = some ns[m] := List.getElem?_eq_getElem hmn
      show PyData.eqv (SeqAt.readOf s.heap its.toArray[m]) (.str k) = false
      rw [at_ m hm _ hz]
      show (ns[m] == k) = false
      exact beq_eq_false_iff_ne.mpr fun z => hno m hmj (by rw [hz, z])
    · exact ⟨.int (j : Nat), H, I.tok _, ⟨_, rfl⟩, q⟩
end
theorem sameUp {H : Hp} {p : Addr} {o : HO} (np : H p = none) : Same H (upd H p o) := fun b u e => by
  rw [upd_ne (fun z => by rw [z, np] at e; cases e)]
  exact e
def rListK (K : PySem.W.Frag) : List V → Hp → VK → Prop := fun xs H Q => ∃ p ys, xs = [.ref p] ∧ (SqL K H p ys ∨ SqT K H p ys) ∧ ∀ l, H l = none → Q (.ref l) (upd H l (.lst ys))
theorem call_listK {X : Cx} : CallR X (.type "list") (rListK X.K) := call_list_of
def rTupK (K : PySem.W.Frag) : List V → Hp → VK → Prop := fun xs H Q => ∃ p ys, xs = [.ref p] ∧ ((SqL K H p ys ∧ ∀ l, H l = none → Q (.ref l) (upd H l (.tup ys))) ∨ (SqT K H p ys ∧ Q (.ref p) H))
theorem call_tupleK {X : Cx} : CallR X (.type "tuple") (rTupK X.K) := call_tuple_of
def tTruL (K : PySem.W.Frag) (ta : TE) : L2.TT := fun σ H Q => ta σ H fun x H' => ∃ k, TruV K x H' k ∧ Q k H'
theorem pt_truL {X : Cx} {K : PySem.W.Frag} {a : Expr} {ta : TE} (hK : X.K = K) (ha : PE X a ta) (he : ∀ whole, isTrue a X.env whole = (do let v ← whole; standAt a.pos; holding [v] (truthy v))) : PT X a (tTruL K ta) := by
  subst hK
  exact pt_truth ha he
/-! slices and sums of tuples, whichever object comes of them -/
theorem SqT.whole {xs : List V} {lo hi : Option Int} (h : HT.sIx xs.length 0 lo = 0 ∧ HT.sIx xs.length xs.length hi = xs.length) : cutV xs lo hi = xs := by
  unfold cutV
  rw [h.1, h.2, List.drop_zero, Nat.sub_zero, List.take_length]
theorem slA {K : PySem.W.Frag} {H : Hp} {a : Addr} {xs : List V} {lo hi : Option Int} {Q : VK} (ha : SqT K H a xs) (q : ∀ (H' : Hp) (p : Addr), Same H H' → SqT K H' p (cutV xs lo hi) → Q (.ref p) H') : rSlA K (.ref a) lo hi H Q :=
  ⟨a, xs, rfl, ha, fun h => q H a (Same.refl _) (by rw [SqT.whole h]; exact ha), fun _ p np => q _ p (sameUp np) (SqT.of upd_same)⟩
/-- the same, the new tuple standing by itself where the old one does -/
theorem slA' {K : PySem.W.Frag} {H : Hp} {a : Addr} {xs : List V} {lo hi : Option Int} {Q : VK} (ha : H a = some (.tup xs)) (q : ∀ (H' : Hp) (p : Addr), Same H H' → H' p = some (.tup (cutV xs lo hi)) → Q (.ref p) H') : rSlA K (.ref a) lo hi H Q :=
  ⟨a, xs, rfl, SqT.of ha, fun h => q H a (Same.refl _) (by rw [SqT.whole h]; exact ha), fun _ p np => q _ p (sameUp np) upd_same⟩
theorem catA {K : PySem.W.Frag} {H : Hp} {a b : Addr} {xs ys : List V} {Q : VK} (ha : SqT K H a xs) (hb : SqT K H b ys) (hl : xs.length + ys.length ≤ sizeLine) (q : ∀ (H' : Hp) (p : Addr), Same H H' → SqT K H' p (xs ++ ys) → Q (.ref p) H') : rCatA K (.ref a) (.ref b) H Q :=
  ⟨a, b, xs, ys, rfl, rfl, ha, hb, hl, fun h => q H b (Same.refl _) (by rw [h]; exact hb), fun _ h => q H a (Same.refl _) (by rw [h, List.append_nil]; exact ha), fun _ _ p np => q _ p (sameUp np) (SqT.of upd_same)⟩
theorem catA' {K : PySem.W.Frag} {H : Hp} {a b : Addr} {xs ys : List V} {Q : VK} (ha : H a = some (.tup xs)) (hb : H b = some (.tup ys)) (hl : xs.length + ys.length ≤ sizeLine) (q : ∀ (H' : Hp) (p : Addr), Same H H' → H' p = some (.tup (xs ++ ys)) → Q (.ref p) H') : rCatA K (.ref a) (.ref b) H Q :=
  ⟨a, b, xs, ys, rfl, rfl, SqT.of ha, SqT.of hb, hl, fun h => q H b (Same.refl _) (by rw [h]; exact hb), fun _ h => q H a (Same.refl _) (by rw [h, List.append_nil]; exact ha), fun _ _ p np => q _ p (sameUp np) upd_same⟩
theorem sIx_m1 {n : Nat} (d : Nat) (h : 1 ≤ n) : HT.sIx n d (some (-1)) = n - 1 := by
  unfold HT.sIx
  simp
  omega
theorem cutv_to (xs : List V) (k : Nat) : cutV xs none (some (k : Int)) = xs.take k := by
  unfold cutV
  rw [HT.sIx_none, HT.sIx_nat, List.drop_zero, Nat.sub_zero]
  by_cases h : k ≤ xs.length
  · rw [Nat.min_eq_left h]
  · rw [Nat.min_eq_right (by omega), List.take_length, List.take_of_length_le (by omega)]
theorem cutv_from (xs : List V) (k : Nat) : cutV xs (some (k : Int)) none = xs.drop k := by
  unfold cutV
  rw [HT.sIx_none, HT.sIx_nat]
  by_cases h : k ≤ xs.length
  · rw [Nat.min_eq_left h, List.take_of_length_le (by rw [List.length_drop]; omega)]
  · rw [Nat.min_eq_right (by omega), Nat.sub_self, List.take_zero, List.drop_eq_nil_of_le (by omega)]
theorem cutv_init {xs : List V} (h : 1 ≤ xs.length) : cutV xs none (some (-1)) = xs.dropLast := by
  unfold cutV
  rw [HT.sIx_none, sIx_m1 _ h, List.drop_zero, Nat.sub_zero, List.dropLast_eq_take]
theorem not_whole_init {n : Nat} (h : 1 ≤ n) : ¬ (HT.sIx n 0 none = 0 ∧ HT.sIx n n (some (-1)) = n) := by
  rw [sIx_m1 _ h]
  omega
theorem atV_last {α : Type} (f : α → V) (d : α) {xs : List α} (h : 1 ≤ xs.length) : atI (xs.map f) (-1) = some (f (xs.getLastD d)) := by
  unfold atI ixN
  rw [if_neg (by omega), if_pos (by rw [List.length_map]; omega), List.length_map, show ((-1 : Int) + (xs.length : Nat)).toNat = xs.length - 1 by omega]
  show (xs.map f)[xs.length - 1]? = _
  rw [List.getElem?_map, List.getElem?_eq_getElem (by omega), List.getLastD_eq_getLast?, List.getLast?_eq_getElem?, List.getElem?_eq_getElem (by omega)]
  rfl
theorem atV_nat {α : Type} (f : α → V) (d : α) {xs : List α} {i : Nat} (h : i < xs.length) : atI (xs.map f) (i : Int) = some (f (xs.getD i d)) := by
  refine atI_nat ?_
  rw [List.getElem?_map, List.getElem?_eq_getElem h, List.getD_eq_getElem?_getD, List.getElem?_eq_getElem h]
  rfl
end L2

set_option Elab.async false
set_option linter.all false
set_option maxRecDepth 100000
set_option maxHeartbeats 400000
/-! zip(xs, t): each a list or a tuple, told by a Bool (true: a tuple) -/
namespace Zm
open PySem PySem.Spec PyProof.Rows L2
open PySem.Sem (wp)
def SqM (K : PySem.W.Frag) (t : Bool) (H : Hp) (a : Addr) (xs : List V) : Prop := match t with
  | true => SqT K H a xs
  | false => SqL K H a xs
def hSq (t : Bool) (h : Heap) (a : Addr) (xs : Array Value) : Prop := match t with
  | true => h.IsTuple a xs
  | false => h.IsList a xs
def hIt (t : Bool) (h : Heap) (it a : Addr) (i : Nat) : Prop := match t with
  | true => h.IsTupleIter it a i
  | false => h.IsListIter it a i
def nIt (t : Bool) : String := if t then "tuple_iterator" else "list_iterator"
def oIt (t : Bool) (a : Addr) : Obj := { cls := .type (nIt t), data := .fields #[.ref a, .int 0 0] }
theorem hIt_young {t : Bool} {h : Heap} {it a : Addr} (e : h.get? it = some (oIt t a)) : hIt t h it a 0 := by
  cases t <;> exact ⟨_, e, rfl, rfl⟩
theorem hIt_there {t : Bool} {h : Heap} {it a : Addr} {i : Nat} (e : hIt t h it a i) : ∃ o, h.get? it = some o ∧ ∀ v, o.data ≠ .cell v := by
  cases t <;> (obtain ⟨o, e1, _, d⟩ := e; exact ⟨o, e1, fun v q => by rw [d] at q; cases q⟩)
theorem hIt_at {t : Bool} {h h' : Heap} {it a : Addr} {i : Nat} (e : hIt t h it a i) (k : ∀ o, h.get? it = some o → h'.get? it = some o) : hIt t h' it a i := by
  cases t
  · exact Heap.IsListIter.at e k
  · exact Heap.IsTupleIter.at e k
theorem hSq_lt {t : Bool} {h : Heap} {a : Addr} {xs : Array Value} (e : hSq t h a xs) : a < h.objs.size := by
  cases t <;> (obtain ⟨o, e1, _⟩ := e; exact Heap.lt_size e1)
theorem hSq_up {t : Bool} {h h' : Heap} {a : Addr} {xs : Array Value} (e : hSq t h a xs) (k : ∀ o, h.get? a = some o → h'.get? a = some o) : hSq t h' a xs := by
  cases t <;> (obtain ⟨o, e1, r⟩ := e; exact ⟨o, k _ e1, r⟩)
theorem sq_get {X : Cx} {pins : List (Addr × Obj)} {σ : L2.St} {H : Hp} {s : Shared} {t : Bool} {a : Addr} {xs : List V} (I : Inv X pins σ H s) (q : SqM X.K t H a xs) :
    ∃ its : List Value, Vals xs its ∧ hSq t s.heap a its.toArray := by
  cases t
  · obtain ⟨its, rv, p, _⟩ := I.list q
    exact ⟨its, rv, p.isList⟩
  · obtain ⟨its, rv, p, _⟩ := I.tuple q
    exact ⟨its, rv, p⟩
theorem sq_one {X : Cx} {pins : List (Addr × Obj)} {σ : L2.St} {H : Hp} {s : Shared} {t : Bool} {a : Addr} {xs ys : List V} (I : Inv X pins σ H s) (q : SqM X.K t H a xs) (q2 : SqM X.K t H a ys) : xs = ys := by
  cases t
  · exact I.list_inj q q2
  · exact I.tuple_inj q q2
section
variable {prog : Program} {w : World} {A : Around}
theorem drawM (hh : A.handled = none) (t : Bool) (it a : Addr) (hne : a ≠ it) (items : Array Value) :
    Draws prog w A it [it, a] items.size (fun i v => items[i]? = some v) (fun i h => hIt t h it a i ∧ hSq t h a items) := by
  cases t
  · exact Draws.list hh it a hne items
  · exact Draws.tuple hh it a hne items
theorem newM {E : Value → Shared → Prop} {s : Shared} {t : Bool} {a : Addr} {items : Array Value} {Q : Value → Shared → Prop} (hl : hSq t s.heap a items)
    (hQ : Q (.ref s.heap.objs.size) { s with heap := s.heap.push (oIt t a) }) : wpAny (model prog w) A (pyIter (.ref a)) Q E s := by
  cases t
  · exact wpAny_pyIter_list hl hQ
  · exact wpAny_pyIter_tuple hl hQ
end
/-- the five new things, one behind the other -/
def zNew (n : Nat) (t1 t2 : Bool) (a b : Addr) : List Obj :=
  [oIt t1 a, oIt t2 b, { cls := .type "tuple", data := .seq #[.ref n, .ref (n + 1)] }, { cls := .type "tuple", data := .seq #[.none, .none] },
   { cls := .type "zip", data := .fields #[.none, .bool false, .bool false, .ref (n + 2), .ref (n + 3)] }]
def pushes (h : Heap) (os : List Obj) : Heap := os.foldl Heap.push h
theorem pushes_size : ∀ (os : List Obj) (h : Heap), (pushes h os).objs.size = h.objs.size + os.length
  | [], _ => rfl
  | o :: os, h => by
    show (pushes (h.push o) os).objs.size = _
    rw [pushes_size os, Heap.size_push, List.length_cons]
    omega
theorem pushes_keep : ∀ (os : List Obj) (h : Heap) (c : Addr) (o : Obj), h.get? c = some o → (pushes h os).get? c = some o
  | [], _, _, _, e => e
  | _ :: os, h, c, o, e => pushes_keep os _ c o (Heap.get?_push_of_some _ e)
theorem pushes_get (os : List Obj) : ∀ (h : Heap) (i : Nat) (o : Obj), os[i]? = some o → o.isFreed = false → (pushes h os).get? (h.objs.size + i) = some o := by
  induction os with
  | nil => intro h i o e _; cases e
  | cons p os ih =>
    intro h i o e f
    cases i with
    | zero =>
      have e : some p = some o := e
      injection e with e
      rw [e]
      exact pushes_keep os (h.push o) _ _ (Heap.get?_push_size _ f)
    | succ i =>
      have r := ih (h.push p) i o e f
      have z : (h.push p).objs.size + i = h.objs.size + (i + 1) := by rw [Heap.size_push]; omega
      rw [z] at r
      exact r
theorem nA {x y : Nat} (h : x < y ∨ y < x) : ¬ @Eq Addr x y := fun e => by
  have e : @Eq Nat x y := e
  omega
theorem meets_new (t1 t2 : Bool) (a b : Addr) (xs ys : Array Value) :
    Meets (Builtin.«zip.__new__» ⟨[.type "zip", .ref a, .ref b], []⟩) (fun _ R s => hSq t1 s.heap a xs ∧ hSq t2 s.heap b ys ∧
      R (.ok (.ret (.ref (s.heap.objs.size + 4)))) { s with heap := pushes s.heap (zNew s.heap.objs.size t1 t2 a b) }) :=
  .of_wp fun prog w A R s h => by
    obtain ⟨hp, g, d, tk, os⟩ := s
    obtain ⟨h1, h2, h⟩ := h
    have hsub := sub_zip
    have h2 : hSq t2 (hp.push (oIt t1 a)) b ys := hSq_up h2 fun o e => Heap.get?_push_of_some _ e
    have q1 : ∀ {A' : Around} {E : Value → Shared → Prop} {Q : Value → Shared → Prop}, Q (.ref hp.objs.size) ⟨hp.push (oIt t1 a), g, d, tk, os⟩ → wpAny (model prog w) A' (pyIter (.ref a)) Q E ⟨hp, g, d, tk, os⟩ :=
      fun q => newM (s := ⟨hp, g, d, tk, os⟩) h1 q
    have q2 : ∀ {A' : Around} {E : Value → Shared → Prop} {Q : Value → Shared → Prop}, Q (.ref (hp.push (oIt t1 a)).objs.size) ⟨(hp.push (oIt t1 a)).push (oIt t2 b), g, d, tk, os⟩ → wpAny (model prog w) A' (pyIter (.ref b)) Q E ⟨hp.push (oIt t1 a), g, d, tk, os⟩ :=
      fun q => newM (s := ⟨hp.push (oIt t1 a), g, d, tk, os⟩) h2 q
    wp_walk using q1, q2
    refine ⟨_, rfl, ?_⟩
    have z1 : ∀ (h : Heap) (o : Obj), (h.push o).objs.size = h.objs.size + 1 := fun h o => Heap.size_push ..
    simp only [z1]
    exact h
section
variable {prog : Program} {w : World} {A : Around} {E : Value → Shared → Prop} {s : Shared}
theorem callM {t1 t2 : Bool} {a b : Addr} {xs ys : Array Value} {Q : Value → Shared → Prop} (h1 : hSq t1 s.heap a xs) (h2 : hSq t2 s.heap b ys)
    (h : Q (.ref (s.heap.objs.size + 4)) { s with heap := pushes s.heap (zNew s.heap.objs.size t1 t2 a b) }) :
    wpAny (model prog w) A (call (.type "zip") [.ref a, .ref b]) Q E s := by
  refine callType_new F.called_zip (by decide) (F.typeCall_zip_2 _ _) (F.newCall_zip_2 _ _) (fun obj => F.args_object_init_3 obj _ _) F.entry_zip_new
    (meets_new t1 t2 a b xs ys) ⟨h1, h2, ⟨_, pushes_get (zNew s.heap.objs.size t1 t2 a b) s.heap 4 _ rfl rfl, rfl⟩, h⟩
end
/-- a turn's pair is new -/
def ItM (K : PySem.W.Frag) (t1 t2 : Bool) (a b : Addr) : It :=
  ⟨fun i H => ∃ xs ys : List V, SqM K t1 H a xs ∧ SqM K t2 H b ys ∧ i < min xs.length ys.length,
    fun i H v H' => ∃ (T : Addr) (x y : V), v = .ref T ∧ H T = none ∧ H' = upd H T (.tup [x, y]) ∧ (∀ xs, SqM K t1 H a xs → xs[i]? = some x) ∧ ∀ ys, SqM K t2 H b ys → ys[i]? = some y,
    fun i H => ∃ xs ys : List V, SqM K t1 H a xs ∧ SqM K t2 H b ys ∧ i = min xs.length ys.length⟩
def StM (t1 t2 : Bool) (n : Nat) (a b : Addr) (i : Nat) (h : Heap) : Prop :=
  IsZip h (n + 4) (n + 2) (n + 3) .none ∧ IsTupOf2 h (n + 2) (.ref n) (.ref (n + 1)) ∧ (∃ x y, IsTupOf2 h (n + 3) x y) ∧ hIt t1 h n a i ∧ hIt t2 h (n + 1) b i
def five (n : Nat) : List Addr := [n + 4, n + 2, n + 3, n, n + 1]
theorem sepM {n a b : Nat} (ha : a < n) (hb : b < n) : ZipSep2 (n + 4) (n + 2) (n + 3) n (n + 1) [n, a] [n + 1, b] := by
  constructor <;> simp only [List.mem_cons, List.not_mem_nil, or_false, ne_eq, not_or, true_or, or_true] <;> first | exact nA (by omega) | exact ⟨nA (by omega), nA (by omega)⟩
theorem turnM {P : Program} {w : World} {K : PySem.W.Frag} {elts : List Expr} {kk : Nat} {tpos : Pos} {t1 t2 : Bool} {n a b : Nat} (ha : a < n) (hb : b < n) :
    Turn P w K (.Tuple elts kk tpos) (ItM K t1 t2 a b) (five n) (n + 4) (StM t1 t2 n a b) where
  mem := List.mem_cons_self
  obj := fun i h st c hc => by
    obtain ⟨g1, g2, ⟨x, y, g3⟩, g4, g5⟩ := st
    simp only [five, List.mem_cons, List.not_mem_nil, or_false] at hc
    rcases hc with q | q | q | q | q <;> subst q
    · exact ⟨_, g1, fun v q => nomatch q⟩
    · exact ⟨_, g2, fun v q => nomatch q⟩
    · exact ⟨_, g3, fun v q => nomatch q⟩
    · exact hIt_there g4
    · exact hIt_there g5
  keep := fun i h h' st k => by
    obtain ⟨g1, g2, ⟨x, y, g3⟩, g4, g5⟩ := st
    have k : ∀ d ∈ five n, ∀ o, h.get? d = some o → h'.get? d = some o := k
    simp only [five, List.forall_mem_cons, List.not_mem_nil] at k
    exact ⟨k.1 _ g1, k.2.1 _ g2, ⟨x, y, k.2.2.1 _ g3⟩, hIt_at g4 k.2.2.2.1, hIt_at g5 k.2.2.2.2.1⟩
  item := by
    intro X hP hw hK hc i pins s σ H E I hf st hg
    subst hP hw hK
    obtain ⟨g1, g2, ⟨x0, y0, g3⟩, g4, g5⟩ := st
    obtain ⟨xs, ys, qx, qy, hi⟩ := hg
    obtain ⟨us, rx, px⟩ := sq_get I qx
    obtain ⟨vs, ry, py⟩ := sq_get I qy
    have lx := rx.length
    have ly := ry.length
    have hdl : X.A.in1.handled = none := I.ok.hd hc
    refine wpAny_pyNext_zipD2_item (sepM ha hb) (drawM hdl t1 n a (Nat.ne_of_lt ha) us.toArray) (drawM hdl t2 (n + 1) b (Nat.ne_of_lt (Nat.lt_succ_of_lt hb)) vs.toArray) g1 g2 g3 ⟨g4, px⟩ ⟨g5, py⟩
      (by rw [List.size_toArray]; omega) (by rw [List.size_toArray]; omega) fun u v h' tk hu hv z1 z3 d1 d2 hT hsz hk => ?_
    have hzl : n + 4 < s.heap.objs.size := Heap.lt_size g1
    refine ⟨_, rfl, wpAny_letOwnedTupleGo_zip (s := { s with heap := h', toks := tk }) z1 fun h2 z2 sb => ?_⟩
    have hT2 : h2.get? s.heap.objs.size = some { cls := .type "tuple", data := .seq #[u, v] } := (sb.2 _ (Nat.ne_of_gt hzl)).trans hT
    obtain ⟨x, ex, rux⟩ : ∃ x, xs[i]? = some x ∧ RelV x u := by
      obtain ⟨u', hu', ru⟩ := rx.get (List.getElem?_eq_getElem (show i < xs.length by omega))
      have : us[i]? = some u := by simpa using hu
      rw [this] at hu'
      cases hu'
      exact ⟨_, List.getElem?_eq_getElem _, ru⟩
    obtain ⟨y, ey, rvy⟩ : ∃ y, ys[i]? = some y ∧ RelV y v := by
      obtain ⟨v', hv', rv⟩ := ry.get (List.getElem?_eq_getElem (show i < ys.length by omega))
      have : vs[i]? = some v := by simpa using hv
      rw [this] at hv'
      cases hv'
      exact ⟨_, List.getElem?_eq_getElem _, rv⟩
    have out : ∀ c, c ∉ five n → c ≠ n + 4 ∧ c ≠ n + 3 ∧ c ≠ n ∧ c ≠ n + 1 := fun c hc => by
      simp only [five, List.mem_cons, List.not_mem_nil, or_false, not_or] at hc
      exact ⟨hc.1, hc.2.2.1, hc.2.2.2.1, hc.2.2.2.2⟩
    have young : ObjOk X.prog X.w (upd H s.heap.objs.size (.tup [x, y])) h2 s.heap.objs.size (.tup [x, y]) :=
      ⟨by show 2 ≤ sizeLine; decide, [u, v], .cons rux (.cons rvy .nil), ⟨_, hT2, rfl, _, rfl⟩⟩
    have I1 : Inv X pins σ (upd H s.heap.objs.size (.tup [x, y])) { s with heap := h2, toks := tk } :=
      I.turnedNew (t' := tk) (ch := five n) (fun c o hb q => by
        obtain ⟨c1, c2, c3, c4⟩ := out c hb
        exact (sb.2 c c1).trans (hk c o c1 c2 c3 c4 q)) hf (Nat.le_refl _) young
    refine ⟨.ref s.heap.objs.size, _, I1, rfl, ⟨_, x, y, rfl, I.hok.fresh (Nat.le_refl _), rfl, fun l hl => by rw [sq_one I hl qx]; exact ex, fun l hl => by rw [sq_one I hl qy]; exact ey⟩, ?_, fun c hcm => ?_⟩
    · have sbk : ∀ c o, c ≠ n + 4 → h'.get? c = some o → h2.get? c = some o := fun c o hc e => (sb.2 c hc).trans e
      have dz : ∀ k : Nat, @LT.lt Nat _ k 4 → ¬ @Eq Addr (n + k) (n + 4) := fun k hk => nA (by omega)
      exact ⟨z2, sbk _ _ (dz 2 (by decide)) (hk _ _ (dz 2 (by decide)) (@nA (n + 2) (n + 3) (by omega)) (@nA (n + 2) n (by omega)) (@nA (n + 2) (n + 1) (by omega)) g2), ⟨u, v, sbk _ _ (dz 3 (by decide)) z3⟩, hIt_at d1.1 fun o e => sbk _ _ (dz 0 (by decide)) e, hIt_at d2.1 fun o e => sbk _ _ (dz 1 (by decide)) e⟩
    · have hlt : c < s.heap.objs.size := by
        have hzl : @LT.lt Nat _ (n + 4) s.heap.objs.size := hzl
        simp only [five, List.mem_cons, List.not_mem_nil, or_false] at hcm
        rcases hcm with q | q | q | q | q <;> subst q <;> show @LT.lt Nat _ _ _ <;> omega
      rw [upd_ne (Nat.ne_of_lt hlt)]
      exact (hf c hcm).1
  done := by
    intro X hP hw hK hc i pins s σ H E I hf st hg
    subst hP hw hK
    obtain ⟨g1, g2, ⟨x0, y0, g3⟩, g4, g5⟩ := st
    obtain ⟨xs, ys, qx, qy, hi⟩ := hg
    obtain ⟨us, rx, px⟩ := sq_get I qx
    obtain ⟨vs, ry, py⟩ := sq_get I qy
    have lx := rx.length
    have ly := ry.length
    have hdl : X.A.in1.handled = none := I.ok.hd hc
    refine wpAny_pyNext_zipD2_end (sepM ha hb) (drawM hdl t1 n a (Nat.ne_of_lt ha) us.toArray) (drawM hdl t2 (n + 1) b (Nat.ne_of_lt (Nat.lt_succ_of_lt hb)) vs.toArray) g1 g2 g3 ⟨g4, px⟩ ⟨g5, py⟩
      (by rw [List.size_toArray]; omega) (by rw [List.size_toArray]; omega) (by rw [List.size_toArray, List.size_toArray]; omega) fun h' tk hk => ⟨rfl, I.turnedL (t' := tk) (ch := five n) (fun c o hb q => ?_) hf⟩
    simp only [five, List.mem_cons, List.not_mem_nil, or_false, not_or] at hb
    exact hk c o hb.1 hb.2.2.1 hb.2.2.2.1 hb.2.2.2.2 q
  self := fun A i s Q E st h => wpAny_pyIter_zip st.1 h
def iZipM (K : PySem.W.Frag) (t1 t2 : Bool) (ta : TA) : TI := fun σ H R => ta σ H fun vs H1 => ∃ (a b : Addr) (xs ys : List V), vs = [.ref a, .ref b] ∧ SqM K t1 H1 a xs ∧ SqM K t2 H1 b ys ∧ R (ItM K t1 t2 a b) H1
theorem pi_zipM {X : Cx} (t1 t2 : Bool) {e e2 : Expr} {ta : TA} {p pos tpos : Pos} {elts : List Expr} {kk : Nat} (hg : Gl X "zip") (hm : X.mg "zip" = none) (ha : PA X [e, e2] ta)
    (hs : starEach [e, e2] X.env = (false, eval e X.env) :: starEach [e2] X.env := by rfl) (hpl : (backTo pos (starEach [e2] X.env)).any (·.1) = false := by rfl) :
    PI X (.Tuple elts kk tpos) (.Call (.Name "zip" p) [e, e2] [] pos) (iZipM X.K t1 t2 ta) := by
  refine ⟨fun pins s σ H R I h => ?_⟩
  refine Call_ (ld_blt I hg hm PyProof.Rows.boot_zip (PyProof.Rows.callWith_type1 (thn (ha.run pos pins s σ H _ I h) fun us s1 ⟨vs, H1, I1, r1, q1⟩ => ?_) hs hpl))
  obtain ⟨a, b, xs, ys, rfl, qx, qy, q⟩ := q1
  obtain ⟨u1, us, rfl, r, r1⟩ : ∃ u1 us', us = u1 :: us' ∧ RelV (.ref a) u1 ∧ Vals [.ref b] us' := by cases r1 with | cons r rr => exact ⟨_, _, rfl, r, rr⟩
  obtain ⟨u2, rfl, r2⟩ := vals1 r1
  cases r
  cases r2
  obtain ⟨is1, rx, px⟩ := sq_get I1 qx
  obtain ⟨is2, ry, py⟩ := sq_get I1 qy
  have la := hSq_lt px
  have lb := hSq_lt py
  refine callM px py ?_
  have gt := fun i o e f => pushes_get (zNew s1.heap.objs.size t1 t2 a b) s1.heap i o e f
  refine wpAny_pyIter_zip (gt 4 _ rfl rfl) ?_
  have I2 : Inv X pins σ H1 { s1 with heap := pushes s1.heap (zNew s1.heap.objs.size t1 t2 a b) } := I1.kept (t' := s1.toks) fun c o e => pushes_keep _ _ c o e
  refine ⟨s1.heap.objs.size + 4, five s1.heap.objs.size, _, _, H1, rfl, I2, turnM la lb, ⟨gt 4 _ rfl rfl, gt 2 _ rfl rfl, ⟨_, _, gt 3 _ rfl rfl⟩, hIt_young (gt 0 _ rfl (by cases t1 <;> rfl)), hIt_young (gt 1 _ rfl (by cases t2 <;> rfl))⟩, fun c hc => ?_, q⟩
  have hle : s1.heap.objs.size ≤ c := by
    simp only [five, List.mem_cons, List.not_mem_nil, or_false] at hc
    rcases hc with q | q | q | q | q <;> subst q <;> show @LE.le Nat _ _ _ <;> omega
  exact I1.fpOk hle (I1.hok.fresh hle)
/-- walked -/
theorem walk_zipM {K : PySem.W.Frag} {t1 t2 : Bool} {a b : Addr} {xs ys : List V} {n : Nat} (hn : n = min xs.length ys.length) :
    Walk (ItM K t1 t2 a b) n (fun H => SqM K t1 H a xs ∧ SqM K t2 H b ys) (YPair (fun i => xs[i]?) (fun i => ys[i]?)) := by
  subst hn
  refine ⟨fun i _ hi q => ⟨xs, ys, q.1, q.2, hi⟩, fun _ q => ⟨xs, ys, q.1, q.2, rfl⟩, fun i H v H' _ q y => ?_⟩
  obtain ⟨T, x, z, h1, h2, h3, h4, h5⟩ := y
  exact ⟨T, x, z, h1, h2, h3, h4 xs q.1, h5 ys q.2⟩
end Zm

set_option Elab.async false
set_option linter.all false
set_option maxRecDepth 100000
set_option maxHeartbeats 2000000
/-! own: the end's facts by addresses that are functions of the heap's part; one Bool for all of them -/
namespace Sh
open PySem PySem.Spec PyProof.Rows L2
section
variable {Kf : PySem.W.Frag}
/-- where things stand -/
def gA (Kf : PySem.W.Frag) (n : Str) : Addr := (match PySem.W.nsIn Kf mainGlobals n with | some (some (.ref z)) => z | _ => 0)
def mA (Kf : PySem.W.Frag) (cl : Addr) (n : Str) : Addr := (match PySem.W.findIn Kf (.ref cl) n with | some (some (.ref z)) => z | _ => 0)
def recA (Kf : PySem.W.Frag) (p : Addr) (n : String) : Addr := (match PySem.W.recIn Kf p n with | some (.ref z :: _) => z | _ => 0)
def recT (Kf : PySem.W.Frag) (p : Addr) (n : String) : List Value := (match PySem.W.recIn Kf p n with | some (_ :: r) => r | _ => [])
def clsA (Kf : PySem.W.Frag) (cl : Addr) (n : Str) : Addr := (match PySem.W.findCls Kf (.ref cl) (.type "type") n with | some (.get _ (.ref z) _ _) => z | _ => 0)
def tokI (Kf : PySem.W.Frag) (o : Addr) (n : Str) : Tok := (match PySem.W.nsIn Kf o n with | some (some (.int _ t)) => t | _ => default)
def tokS (Kf : PySem.W.Frag) (o : Addr) (n : Str) : Tok := (match PySem.W.nsIn Kf o n with | some (some (.str _ t)) => t | _ => default)
def fdA (Kf : PySem.W.Frag) (p : Addr) : Option FuncData := (match Kf.lookup p with | some z => (match z.data with | .func y => some y | _ => none) | none => none)
def kwA (Kf : PySem.W.Frag) (p : Addr) : Addr := (match fdA Kf p with | some y => (match y.kwdefaults with | .ref z => z | _ => 0) | none => 0)
def cdA (Kf : PySem.W.Frag) (p : Addr) : Addr := (match fdA Kf p with | some y => (match y.code with | .ref z => z | _ => 0) | none => 0)
def refB : Value → Bool
  | .ref _ => true
  | _ => false
def noB : Value → Bool
  | .none => true
  | _ => false
end
/-- one function: where it stands, what it is -/
structure FnA where
  pl : PySem.W.Frag → Addr
  nm : Str
  qn : Str
  pr : Arguments
  bd : List Stmt
  sc : Scope
abbrev FV : Type := Option (Str × Str × Arguments × FuncBody × Scope × Addr × List (Str × Addr) × Addr)
def fnV (Kf : PySem.W.Frag) (p : Addr) : FV := (match fdA Kf p with
  | some y => some (y.name, y.qualname, y.params, y.body, y.scope, y.globals, y.closure, y.builtins)
  | none => none)
def FnA.val (d : FnA) : FV := some (d.nm, d.qn, d.pr, FuncBody.stmts d.bd, d.sc, mainGlobals, [], builtinsNs)
/-- kw: its own table of keyword defaults; cd: its code object is named -/
def fnB (Kf : PySem.W.Frag) (p : Addr) (q : Str) (kw : Bool) : Bool := PySem.W.keepIn Kf (.ref p) && (match fdA Kf p with
  | some y => PySem.W.codeIn Kf y.code q && (noB y.defaults && (!kw || refB y.kwdefaults))
  | none => false)
theorem fdA_some {Kf : PySem.W.Frag} {p : Addr} {y : FuncData} (h : fdA Kf p = some y) : ∃ oc od sl, Kf.lookup p = some ⟨oc, od, .func y, sl⟩ := by
  unfold fdA at h
  cases e : Kf.lookup p with
  | none => rw [e] at h; cases h
  | some z =>
    obtain ⟨oc, od, dt, sl⟩ := z
    rw [e] at h
    cases dt with
    | func u =>
      have k : u = y := Option.some.inj h
      exact ⟨oc, od, sl, by rw [k]⟩
    | _ => cases h
theorem fn_any {Kf : PySem.W.Frag} {d : FnA} {p : Addr} {kw : Bool} (e : fnV Kf p = d.val) (c : fnB Kf p d.qn kw = true) :
    PySem.W.keepIn Kf (.ref p) = true ∧ ∃ (y : FuncData) (kV dc pm : Value) (an : Option Addr) (cd ct : Value), fdA Kf p = some y ∧ y = PySem.W.fnOf d.nm d.qn d.pr d.bd d.sc .none kV dc pm an cd ct ∧ PySem.W.codeIn Kf cd d.qn = true ∧ (kw = true → refB kV = true) := by
  obtain ⟨c1, c2⟩ := Bool.and_eq_true_iff.mp c
  refine ⟨c1, ?_⟩
  unfold fnV FnA.val at e
  cases q : fdA Kf p with
  | none => rw [q] at e; cases e
  | some y =>
    rw [q] at e c2
    obtain ⟨x1, x2, x3, x4, x5, x6, x7, x8, x9, x10, x11, x12, x13, x14, x15⟩ := y
    obtain ⟨c3, c4⟩ := Bool.and_eq_true_iff.mp c2
    obtain ⟨c5, c6⟩ := Bool.and_eq_true_iff.mp c4
    have e2 := Option.some.inj e
    simp only [Prod.mk.injEq] at e2
    obtain ⟨r1, r2, r3, r4, r5, r6, r7, r8⟩ := e2
    subst r1 r2 r3 r4 r5 r6 r7 r8
    have n8 : x8 = Value.none := by
      have c5 : noB x8 = true := c5
      cases x8 <;> first | rfl | cases c5
    subst n8
    refine ⟨_, x9, x10, x11, x12, x13, x14, rfl, rfl, c3, fun hk => ?_⟩
    rw [hk] at c6
    exact c6
theorem ref_of {v : Value} (h : refB v = true) : ∃ z, v = .ref z := by
  cases v with
  | ref z => exact ⟨z, rfl⟩
  | _ => cases h
theorem cd_ref {Kf : PySem.W.Frag} {v : Value} {q : Str} (h : PySem.W.codeIn Kf v q = true) : ∃ z, v = .ref z := He.codeIn_ref h
/-- what a function's two rows give: nothing named; its table named; its code object named -/
theorem fn_g {Kf : PySem.W.Frag} {d : FnA} {p : Addr} (e : fnV Kf p = d.val) (c : fnB Kf p d.qn false = true) :
    ∃ (oc : Value) (od : Option Addr) (sl : Array (Option Value)) (kV dc pm : Value) (an : Option Addr) (cd ct : Value), Kf.lookup p = some ⟨oc, od, .func (PySem.W.fnOf d.nm d.qn d.pr d.bd d.sc .none kV dc pm an cd ct), sl⟩ ∧ PySem.W.codeIn Kf cd d.qn = true ∧ PySem.W.keepIn Kf (.ref p) = true := by
  obtain ⟨kp, y, kV, dc, pm, an, cd, ct, hy, rfl, hc, _⟩ := fn_any e c
  obtain ⟨oc, od, sl, hl⟩ := fdA_some hy
  exact ⟨oc, od, sl, kV, dc, pm, an, cd, ct, hl, hc, kp⟩
theorem fn_k {Kf : PySem.W.Frag} {d : FnA} {p : Addr} (e : fnV Kf p = d.val) (c : fnB Kf p d.qn true = true) :
    ∃ (oc : Value) (od : Option Addr) (sl : Array (Option Value)) (dc pm : Value) (an : Option Addr) (cd ct : Value), Kf.lookup p = some ⟨oc, od, .func (PySem.W.fnOf d.nm d.qn d.pr d.bd d.sc .none (.ref (kwA Kf p)) dc pm an cd ct), sl⟩ ∧ PySem.W.codeIn Kf cd d.qn = true ∧ PySem.W.keepIn Kf (.ref p) = true := by
  obtain ⟨kp, y, kV, dc, pm, an, cd, ct, hy, rfl, hc, hk⟩ := fn_any e c
  obtain ⟨z, rfl⟩ := ref_of (hk rfl)
  obtain ⟨oc, od, sl, hl⟩ := fdA_some hy
  have ez : kwA Kf p = z := by unfold kwA; rw [hy]
  rw [ez]
  exact ⟨oc, od, sl, dc, pm, an, cd, ct, hl, hc, kp⟩
theorem fn_c {Kf : PySem.W.Frag} {d : FnA} {p : Addr} (e : fnV Kf p = d.val) (c : fnB Kf p d.qn false = true) :
    ∃ (oc : Value) (od : Option Addr) (sl : Array (Option Value)) (kV dc pm : Value) (an : Option Addr) (ct : Value), Kf.lookup p = some ⟨oc, od, .func (PySem.W.fnOf d.nm d.qn d.pr d.bd d.sc .none kV dc pm an (.ref (cdA Kf p)) ct), sl⟩ ∧ PySem.W.codeIn Kf (.ref (cdA Kf p)) d.qn = true ∧ PySem.W.keepIn Kf (.ref p) = true := by
  obtain ⟨kp, y, kV, dc, pm, an, cd, ct, hy, rfl, hc, _⟩ := fn_any e c
  obtain ⟨z, rfl⟩ := cd_ref hc
  obtain ⟨oc, od, sl, hl⟩ := fdA_some hy
  have ez : cdA Kf p = z := by unfold cdA; rw [hy]
  rw [ez]
  exact ⟨oc, od, sl, kV, dc, pm, an, ct, hl, hc, kp⟩
theorem fn_kc {Kf : PySem.W.Frag} {d : FnA} {p : Addr} (e : fnV Kf p = d.val) (c : fnB Kf p d.qn true = true) :
    ∃ (oc : Value) (od : Option Addr) (sl : Array (Option Value)) (dc pm : Value) (an : Option Addr) (ct : Value), Kf.lookup p = some ⟨oc, od, .func (PySem.W.fnOf d.nm d.qn d.pr d.bd d.sc .none (.ref (kwA Kf p)) dc pm an (.ref (cdA Kf p)) ct), sl⟩ ∧ PySem.W.codeIn Kf (.ref (cdA Kf p)) d.qn = true ∧ PySem.W.keepIn Kf (.ref p) = true := by
  obtain ⟨kp, y, kV, dc, pm, an, cd, ct, hy, rfl, hc, hk⟩ := fn_any e c
  obtain ⟨z, rfl⟩ := ref_of (hk rfl)
  obtain ⟨u, rfl⟩ := cd_ref hc
  obtain ⟨oc, od, sl, hl⟩ := fdA_some hy
  have ez : kwA Kf p = z := by unfold kwA; rw [hy]
  have eu : cdA Kf p = u := by unfold cdA; rw [hy]
  rw [ez, eu]
  exact ⟨oc, od, sl, dc, pm, an, ct, hl, hc, kp⟩
/-- a class's own maker -/
def ofB (Kf : PySem.W.Frag) (cl p : Addr) (n : Str) : Bool := (match PySem.W.findCls Kf (.ref cl) (.type "type") n with | some (.get (.builtin x) (.ref y) .none (.ref z)) => decide (x = "classmethod.__get__") && (decide (y = p) && decide (z = cl)) | _ => false)
theorem ofB_ok {Kf : PySem.W.Frag} {cl p : Addr} {n : Str} (h : ofB Kf cl p n = true) : PySem.W.findCls Kf (.ref cl) (.type "type") n = some (.get (.builtin "classmethod.__get__") (.ref p) .none (.ref cl)) := by
  unfold ofB at h
  split at h
  · rename_i x y z e
    obtain ⟨h1, h2⟩ := Bool.and_eq_true_iff.mp h
    obtain ⟨h3, h4⟩ := Bool.and_eq_true_iff.mp h2
    rw [e, of_decide_eq_true h1, of_decide_eq_true h3, of_decide_eq_true h4]
  · cases h
/-! ### the hook -/
def tabB (g : Addr → Option Obj) (Kf : PySem.W.Frag) (p : Addr × Addr) : Bool := PySem.W.codeHdIn Kf p.1 p.2 && (match g p.2 with | some z => He.emptyTab z | none => false)
abbrev AlA : Type := List FV × Bool
section
variable (as : List Addr) (fs : List FnA) (ex : PySem.W.Frag → Bool) (tf : PySem.W.Frag → List (Addr × Addr))
def obA (Kf : PySem.W.Frag) (g : Addr → Option Obj) : AlA := (fs.map fun d => fnV Kf (d.pl Kf), ex Kf && (tf Kf).all (tabB g Kf))
def obG (g : Addr → Option Obj) : AlA := obA fs ex tf (He.frT g as) g
structure Tells (h : Heap) (Kf : PySem.W.Frag) : Prop where
  fn : ∀ d ∈ fs, fnV Kf (d.pl Kf) = d.val
  ex : ex Kf = true
  hd : ∀ p ∈ tf Kf, PySem.W.codeHdIn Kf p.1 p.2 = true
  out : ∀ p ∈ tf Kf, Kf.lookup p.2 = none
  em : ∀ p ∈ tf Kf, h.get? p.2 = some (PySem.W.tabObj #[])
variable {as fs ex tf}
theorem map_all {α β : Type} {f g : α → β} : ∀ {l : List α}, l.map f = l.map g → ∀ x ∈ l, f x = g x
  | [], _, _, hx => absurd hx List.not_mem_nil
  | a :: r, h, x, hx => by
    rw [List.map_cons, List.map_cons] at h
    injection h with h1 h2
    rcases List.mem_cons.mp hx with rfl | hx
    · exact h1
    · exact map_all h2 x hx
theorem tells_of {h : Heap} (e : obG as fs ex tf h.get? = (fs.map FnA.val, true)) : Tells fs ex tf h (He.frT h.get? as) := by
  have e1 := congrArg Prod.fst e
  have e2 := congrArg Prod.snd e
  obtain ⟨b1, b2⟩ := Bool.and_eq_true_iff.mp (show (ex (He.frT h.get? as) && (tf (He.frT h.get? as)).all (tabB h.get? (He.frT h.get? as))) = true from e2)
  have key : ∀ p ∈ tf (He.frT h.get? as), PySem.W.codeHdIn (He.frT h.get? as) p.1 p.2 = true ∧ ∃ z, h.get? p.2 = some z ∧ He.emptyTab z = true := fun p hp => by
    obtain ⟨b3, b4⟩ := Bool.and_eq_true_iff.mp (List.all_eq_true.mp b2 p hp)
    refine ⟨b3, ?_⟩
    cases q : h.get? p.2 with
    | none => rw [q] at b4; cases b4
    | some z => rw [q] at b4; exact ⟨z, rfl, b4⟩
  refine ⟨map_all e1, b1, fun p hp => (key p hp).1, fun p hp => ?_, fun p hp => ?_⟩
  · obtain ⟨_, z, hz, k⟩ := key p hp
    exact He.frT_none hz k
  · obtain ⟨_, z, hz, k⟩ := key p hp
    rw [hz, He.emptyTab_eq k]
variable (as fs ex tf)
def hook : PySem.W.Hook where
  α := AlA
  obs := fun s => obG as fs ex tf s.heap.get?
  val := fun _ => (fs.map FnA.val, true)
  says := fun _ h => ∃ Kf : PySem.W.Frag, Kf.In h ∧ Tells fs ex tf h Kf
  of := fun _ _ e => ⟨_, He.frT_in, tells_of e⟩
  keeps := fun _ _ _ ⟨Kf, i, t⟩ k => ⟨Kf, PySem.W.Frag.In.keeps i k, ⟨t.fn, t.ex, t.hd, t.out, fun p hp => k _ _ (t.em p hp)⟩⟩
def obT (s : PySem.W.SharedT) : AlA := obG as fs ex tf (HandSHeadRun.getT s)
theorem obT_eq (s : PySem.W.SharedT) : obT as fs ex tf s = (hook as fs ex tf).obs s.abs := by
  have e : HandSHeadRun.getT s = s.abs.heap.get? := funext (HandSHeadRun.getT_eq s)
  show obG as fs ex tf (HandSHeadRun.getT s) = obG as fs ex tf s.abs.heap.get?
  rw [e]
end
theorem at_ {α : Type} {l : List α} {d : α} (i : Nat) (h : l[i]? = some d) : d ∈ l := List.mem_of_getElem? h
theorem band {a b : Bool} (h : (a && b) = true) : a = true ∧ b = true := Bool.and_eq_true_iff.mp h
end Sh

set_option Elab.async false
set_option linter.all false
set_option maxRecDepth 100000
set_option maxHeartbeats 2000000
namespace Tw
open PySem PySem.Spec PyProof.Rows L2
def topS (i : Nat) : Stmt := PySem.Challenge.pw_heaprows_k60_whole_changes_counted.main.body.getD i (.Pass ⟨0, 0, 0, 0⟩)
abbrev s_is_integer : Stmt := topS 22
theorem sc_is_integer : FnScope ["thing"] ["thing"] (defScope s_is_integer) := ⟨rfl, rfl, rfl, by decide +kernel, rfl, by decide +kernel, by decide +kernel⟩
abbrev s_is_integer_from : Stmt := topS 23
theorem sc_is_integer_from : FnScope ["thing", "least", "greatest"] ["thing", "least", "greatest"] (defScope s_is_integer_from) := ⟨rfl, rfl, rfl, by decide +kernel, rfl, by decide +kernel, by decide +kernel⟩
abbrev s_is_key : Stmt := topS 24
theorem sc_is_key : FnScope ["thing"] ["thing"] (defScope s_is_key) := ⟨rfl, rfl, rfl, by decide +kernel, rfl, by decide +kernel, by decide +kernel⟩
abbrev s_check_arms : Stmt := topS 25
theorem sc_check_arms : FnScope ["arms"] ["arms"] (defScope s_check_arms) := ⟨rfl, rfl, rfl, by decide +kernel, rfl, by decide +kernel, by decide +kernel⟩
abbrev s_check_many : Stmt := topS 26
theorem sc_check_many : FnScope ["many"] ["many"] (defScope s_check_many) := ⟨rfl, rfl, rfl, by decide +kernel, rfl, by decide +kernel, by decide +kernel⟩
abbrev s_check_place : Stmt := topS 27
theorem sc_check_place : FnScope ["place", "many"] ["place", "many"] (defScope s_check_place) := ⟨rfl, rfl, rfl, by decide +kernel, rfl, by decide +kernel, by decide +kernel⟩
abbrev s_check_key : Stmt := topS 28
theorem sc_check_key : FnScope ["key"] ["key"] (defScope s_check_key) := ⟨rfl, rfl, rfl, by decide +kernel, rfl, by decide +kernel, by decide +kernel⟩
abbrev s_check_room : Stmt := topS 29
theorem sc_check_room : FnScope ["room"] ["room"] (defScope s_check_room) := ⟨rfl, rfl, rfl, by decide +kernel, rfl, by decide +kernel, by decide +kernel⟩
abbrev s_check_index : Stmt := topS 30
theorem sc_check_index : FnScope ["index", "many"] ["index", "many"] (defScope s_check_index) := ⟨rfl, rfl, rfl, by decide +kernel, rfl, by decide +kernel, by decide +kernel⟩
abbrev s_check_count : Stmt := topS 48
theorem sc_check_count : FnScope ["count", "many"] ["count", "many"] (defScope s_check_count) := ⟨rfl, rfl, rfl, by decide +kernel, rfl, by decide +kernel, by decide +kernel⟩
abbrev s_row_of : Stmt := topS 31
theorem sc_row_of : FnScope ["row", "index", "key"] ["row"] (defScope s_row_of) := ⟨rfl, rfl, rfl, by decide +kernel, rfl, by decide +kernel, by decide +kernel⟩
abbrev s_is_full : Stmt := topS 32
theorem sc_is_full : FnScope ["thing", "many", "item"] ["thing", "many"] (defScope s_is_full) := ⟨rfl, rfl, rfl, by decide +kernel, rfl, by decide +kernel, by decide +kernel⟩
abbrev s_t___init__ : Stmt := inClass (topS 34) 0
theorem sc_t___init__ : FnScope ["self", "many", "arms"] ["self", "many", "arms"] (defScope s_t___init__) := ⟨rfl, rfl, rfl, by decide +kernel, rfl, by decide +kernel, by decide +kernel⟩
abbrev s_t_of : Stmt := inClass (topS 34) 1
theorem sc_t_of : FnScope ["cls", "row", "arms"] ["cls", "row", "arms"] (defScope s_t_of) := ⟨rfl, rfl, rfl, by decide +kernel, rfl, by decide +kernel, by decide +kernel⟩
abbrev s_t___len__ : Stmt := inClass (topS 34) 2
theorem sc_t___len__ : FnScope ["self"] ["self"] (defScope s_t___len__) := ⟨rfl, rfl, rfl, by decide +kernel, rfl, by decide +kernel, by decide +kernel⟩
abbrev s_t___iter__ : Stmt := inClass (topS 34) 4
theorem sc_t___iter__ : FnScope ["self"] ["self"] (defScope s_t___iter__) := ⟨rfl, rfl, rfl, by decide +kernel, rfl, by decide +kernel, by decide +kernel⟩
abbrev s_t___getitem__ : Stmt := inClass (topS 34) 5
theorem sc_t___getitem__ : FnScope ["self", "place", "first"] ["self", "place"] (defScope s_t___getitem__) := ⟨rfl, rfl, rfl, by decide +kernel, rfl, by decide +kernel, by decide +kernel⟩
abbrev s_t_parent : Stmt := inClass (topS 34) 7
theorem sc_t_parent : FnScope ["self", "place"] ["self", "place"] (defScope s_t_parent) := ⟨rfl, rfl, rfl, by decide +kernel, rfl, by decide +kernel, by decide +kernel⟩
abbrev s_t_way_to : Stmt := inClass (topS 34) 8
theorem sc_t_way_to : FnScope ["self", "place", "way", "above"] ["self", "place"] (defScope s_t_way_to) := ⟨rfl, rfl, rfl, by decide +kernel, rfl, by decide +kernel, by decide +kernel⟩
abbrev s_faults : Stmt := topS 36
theorem sc_faults : FnScope ["row", "arms", "tree", "place"] ["row", "arms"] (defScope s_faults) := ⟨rfl, rfl, rfl, by decide +kernel, rfl, by decide +kernel, by decide +kernel⟩
abbrev s_heap_of : Stmt := topS 37
theorem sc_heap_of : FnScope ["row", "arms", "wrong"] ["row", "arms"] (defScope s_heap_of) := ⟨rfl, rfl, rfl, by decide +kernel, rfl, by decide +kernel, by decide +kernel⟩
abbrev s_check_filled : Stmt := topS 46
theorem sc_check_filled : FnScope ["heap"] ["heap"] (defScope s_check_filled) := ⟨rfl, rfl, rfl, by decide +kernel, rfl, by decide +kernel, by decide +kernel⟩
abbrev s_z___init__ : Stmt := inClass (topS 39) 0
theorem sc_z___init__ : FnScope ["self", "row", "way", "looks"] ["self", "row", "way", "looks"] (defScope s_z___init__) := ⟨rfl, rfl, rfl, by decide +kernel, rfl, by decide +kernel, by decide +kernel⟩
abbrev s_sift_up : Stmt := topS 40
theorem sc_sift_up : FnScope ["row", "place", "arms", "tree", "above", "keys", "way", "looks", "parent", "here"] ["row", "place", "arms"] (defScope s_sift_up) := ⟨rfl, rfl, rfl, by decide +kernel, rfl, by decide +kernel, by decide +kernel⟩
abbrev s_sift_down : Stmt := topS 41
theorem sc_sift_down : FnScope ["row", "place", "arms", "tree", "children", "keys", "way", "looks", "here", "child"] ["row", "place", "arms"] (defScope s_sift_down) := ⟨rfl, rfl, rfl, by decide +kernel, rfl, by decide +kernel, by decide +kernel⟩
abbrev s_least_child : Stmt := topS 42
theorem sc_least_child : FnScope ["keys", "children"] ["keys", "children"] (defScope s_least_child) := ⟨rfl, rfl, rfl, by decide +kernel, rfl, by decide +kernel, by decide +kernel⟩
abbrev s_push : Stmt := topS 44
theorem sc_push : FnScope ["row", "key", "arms", "heap"] ["row", "key", "arms"] (defScope s_push) := ⟨rfl, rfl, rfl, by decide +kernel, rfl, by decide +kernel, by decide +kernel⟩
abbrev s_put_for : Stmt := topS 45
theorem sc_put_for : FnScope ["row", "key", "arms", "heap"] ["row", "key", "arms"] (defScope s_put_for) := ⟨rfl, rfl, rfl, by decide +kernel, rfl, by decide +kernel, by decide +kernel⟩
abbrev s_e___init__ : Stmt := inClass (topS 51) 0
theorem sc_e___init__ : FnScope ["self", "room", "arms"] ["self", "room", "arms"] (defScope s_e___init__) := ⟨rfl, rfl, rfl, by decide +kernel, rfl, by decide +kernel, by decide +kernel⟩
abbrev s_e___len__ : Stmt := inClass (topS 51) 2
theorem sc_e___len__ : FnScope ["self"] ["self"] (defScope s_e___len__) := ⟨rfl, rfl, rfl, by decide +kernel, rfl, by decide +kernel, by decide +kernel⟩
abbrev s_e___contains__ : Stmt := inClass (topS 51) 3
theorem sc_e___contains__ : FnScope ["self", "thing"] ["self", "thing"] (defScope s_e___contains__) := ⟨rfl, rfl, rfl, by decide +kernel, rfl, by decide +kernel, by decide +kernel⟩
abbrev s_e_heap : Stmt := inClass (topS 51) 4
theorem sc_e_heap : FnScope ["self"] ["self"] (defScope s_e_heap) := ⟨rfl, rfl, rfl, by decide +kernel, rfl, by decide +kernel, by decide +kernel⟩
abbrev s_e_entered : Stmt := inClass (topS 51) 5
theorem sc_e_entered : FnScope ["self"] ["self"] (defScope s_e_entered) := ⟨rfl, rfl, rfl, by decide +kernel, rfl, by decide +kernel, by decide +kernel⟩
abbrev s_e_see : Stmt := inClass (topS 51) 6
theorem sc_e_see : FnScope ["self", "key", "gone", "sift"] ["self", "key"] (defScope s_e_see) := ⟨rfl, rfl, rfl, by decide +kernel, rfl, by decide +kernel, by decide +kernel⟩
abbrev s_changes : Stmt := topS 52
theorem sc_changes : FnScope ["room", "row", "keeper", "key"] ["room", "row"] (defScope s_changes) := ⟨rfl, rfl, rfl, by decide +kernel, rfl, by decide +kernel, by decide +kernel⟩
abbrev s_order_code : Stmt := topS 53
theorem sc_order_code : FnScope ["order", "before", "at", "item"] ["order"] (defScope s_order_code) := ⟨rfl, rfl, rfl, by decide +kernel, rfl, by decide +kernel, by decide +kernel⟩
abbrev s_order_by : Stmt := topS 54
theorem sc_order_by : FnScope ["numbers", "left", "order", "number"] ["numbers"] (defScope s_order_by) := ⟨rfl, rfl, rfl, by decide +kernel, rfl, by decide +kernel, by decide +kernel⟩
abbrev s_is_code : Stmt := topS 58
theorem sc_is_code : FnScope ["thing", "number", "at"] ["thing"] (defScope s_is_code) := ⟨rfl, rfl, rfl, by decide +kernel, rfl, by decide +kernel, by decide +kernel⟩
abbrev s_many_orders : Stmt := topS 55
theorem sc_many_orders : FnScope ["many", "room", "number"] ["many", "room", "number"] (defScope s_many_orders) := ⟨rfl, rfl, rfl, by decide +kernel, rfl, by decide +kernel, by decide +kernel⟩
abbrev s_order_at : Stmt := topS 56
theorem sc_order_at : FnScope ["many", "room", "number", "index", "ends", "code", "left", "coming", "later", "digit"] ["many", "room", "number", "index"] (defScope s_order_at) := ⟨rfl, rfl, rfl, by decide +kernel, rfl, by decide +kernel, by decide +kernel⟩
abbrev s_order_index : Stmt := topS 57
theorem sc_order_index : FnScope ["room", "order", "code", "digit", "number", "ends", "index", "coming", "later", "lesser"] ["room", "order"] (defScope s_order_index) := ⟨rfl, rfl, rfl, by decide +kernel, rfl, by decide +kernel, by decide +kernel⟩
abbrev s_does_come : Stmt := topS 59
theorem sc_does_come : FnScope ["digit", "room"] ["digit", "room"] (defScope s_does_come) := ⟨rfl, rfl, rfl, by decide +kernel, rfl, by decide +kernel, by decide +kernel⟩
abbrev s_ends_for : Stmt := topS 60
theorem sc_ends_for : FnScope ["many", "room", "number", "ends", "at", "coming", "digit"] ["many", "room", "number"] (defScope s_ends_for) := ⟨rfl, rfl, rfl, by decide +kernel, rfl, by decide +kernel, by decide +kernel⟩
abbrev s_ends_with : Stmt := topS 61
theorem sc_ends_with : FnScope ["later", "digit", "room", "coming"] ["later", "digit", "room", "coming"] (defScope s_ends_with) := ⟨rfl, rfl, rfl, by decide +kernel, rfl, by decide +kernel, by decide +kernel⟩
abbrev s__law_number : Stmt := topS 63
theorem sc__law_number : FnScope ["script", "index", "cells", "cell", "low", "high", "total", "blend"] ["script", "index"] (defScope s__law_number) := ⟨rfl, rfl, rfl, by decide +kernel, rfl, by decide +kernel, by decide +kernel⟩
abbrev s__law_codes : Stmt := topS 64
theorem sc__law_codes : FnScope ["many", "found", "at", "late", "one", "item"] ["many"] (defScope s__law_codes) := ⟨rfl, rfl, rfl, by decide +kernel, rfl, by decide +kernel, by decide +kernel⟩
abbrev s__law_entered : Stmt := topS 65
theorem sc__law_entered : FnScope ["room", "row", "kept", "found", "key"] ["room", "row"] (defScope s__law_entered) := ⟨rfl, rfl, rfl, by decide +kernel, rfl, by decide +kernel, by decide +kernel⟩
abbrev s__law_product : Stmt := topS 66
theorem sc__law_product : FnScope ["many", "room", "found", "at", "able", "more", "late", "number", "times"] ["many", "room"] (defScope s__law_product) := ⟨rfl, rfl, rfl, by decide +kernel, rfl, by decide +kernel, by decide +kernel⟩
abbrev s__law_few_right : Stmt := topS 67
theorem sc__law_few_right : FnScope ["many", "room", "rows", "number", "row", "some", "index", "numbers"] ["many", "room"] (defScope s__law_few_right) := ⟨rfl, rfl, rfl, by decide +kernel, rfl, by decide +kernel, by decide +kernel⟩
abbrev s_law : Stmt := topS 68
theorem sc_law : FnScope ["script", "seed", "room", "many", "due", "number", "index", "row"] ["script"] (defScope s_law) := ⟨rfl, rfl, rfl, by decide +kernel, rfl, by decide +kernel, by decide +kernel⟩
/-- where the text's defs stand -/
structure Ad where
  f_is_integer : Addr
  d_is_integer : FuncData
  f_is_integer_from : Addr
  d_is_integer_from : FuncData
  f_is_key : Addr
  d_is_key : FuncData
  f_check_arms : Addr
  d_check_arms : FuncData
  f_check_many : Addr
  d_check_many : FuncData
  f_check_place : Addr
  d_check_place : FuncData
  f_check_key : Addr
  d_check_key : FuncData
  f_check_room : Addr
  d_check_room : FuncData
  f_check_index : Addr
  d_check_index : FuncData
  f_check_count : Addr
  d_check_count : FuncData
  f_row_of : Addr
  d_row_of : FuncData
  f_is_full : Addr
  d_is_full : FuncData
  f_t___init__ : Addr
  d_t___init__ : FuncData
  f_t_of : Addr
  d_t_of : FuncData
  f_t___len__ : Addr
  d_t___len__ : FuncData
  f_t___iter__ : Addr
  d_t___iter__ : FuncData
  f_t___getitem__ : Addr
  d_t___getitem__ : FuncData
  f_t_parent : Addr
  d_t_parent : FuncData
  f_t_way_to : Addr
  d_t_way_to : FuncData
  f_faults : Addr
  d_faults : FuncData
  f_heap_of : Addr
  d_heap_of : FuncData
  f_check_filled : Addr
  d_check_filled : FuncData
  f_z___init__ : Addr
  d_z___init__ : FuncData
  f_sift_up : Addr
  d_sift_up : FuncData
  f_sift_down : Addr
  d_sift_down : FuncData
  f_least_child : Addr
  d_least_child : FuncData
  f_push : Addr
  d_push : FuncData
  f_put_for : Addr
  d_put_for : FuncData
  f_e___init__ : Addr
  d_e___init__ : FuncData
  f_e___len__ : Addr
  d_e___len__ : FuncData
  f_e___contains__ : Addr
  d_e___contains__ : FuncData
  f_e_heap : Addr
  d_e_heap : FuncData
  f_e_entered : Addr
  d_e_entered : FuncData
  f_e_see : Addr
  d_e_see : FuncData
  f_changes : Addr
  d_changes : FuncData
  f_order_code : Addr
  d_order_code : FuncData
  f_order_by : Addr
  d_order_by : FuncData
  f_is_code : Addr
  d_is_code : FuncData
  f_many_orders : Addr
  d_many_orders : FuncData
  f_order_at : Addr
  d_order_at : FuncData
  f_order_index : Addr
  d_order_index : FuncData
  f_does_come : Addr
  d_does_come : FuncData
  f_ends_for : Addr
  d_ends_for : FuncData
  f_ends_with : Addr
  d_ends_with : FuncData
  f__law_number : Addr
  d__law_number : FuncData
  f__law_codes : Addr
  d__law_codes : FuncData
  f__law_entered : Addr
  d__law_entered : FuncData
  f__law_product : Addr
  d__law_product : FuncData
  f__law_few_right : Addr
  d__law_few_right : FuncData
  f_law : Addr
  d_law : FuncData
  p_e_heap : Addr
  p_e_entered : Addr
  C : Addr
  po : Addr
  CS : Addr
  CK : Addr
  CM : Addr
  c_least_child : Addr
  P_least_child : Addr
/-- what the top has written -/
structure Tx (K : PySem.W.Frag) (mg : Str → Option Value) (A : Ad) : Prop where
  F_is_integer : Fun K "is_integer" "is_integer" s_is_integer A.f_is_integer A.d_is_integer
  m_is_integer : mg "is_integer" = some (.ref A.f_is_integer)
  F_is_integer_from : Fun K "is_integer_from" "is_integer_from" s_is_integer_from A.f_is_integer_from A.d_is_integer_from
  m_is_integer_from : mg "is_integer_from" = some (.ref A.f_is_integer_from)
  F_is_key : Fun K "is_key" "is_key" s_is_key A.f_is_key A.d_is_key
  m_is_key : mg "is_key" = some (.ref A.f_is_key)
  F_check_arms : Fun K "check_arms" "check_arms" s_check_arms A.f_check_arms A.d_check_arms
  m_check_arms : mg "check_arms" = some (.ref A.f_check_arms)
  F_check_many : Fun K "check_many" "check_many" s_check_many A.f_check_many A.d_check_many
  m_check_many : mg "check_many" = some (.ref A.f_check_many)
  F_check_place : Fun K "check_place" "check_place" s_check_place A.f_check_place A.d_check_place
  m_check_place : mg "check_place" = some (.ref A.f_check_place)
  F_check_key : Fun K "check_key" "check_key" s_check_key A.f_check_key A.d_check_key
  m_check_key : mg "check_key" = some (.ref A.f_check_key)
  F_check_room : Fun K "check_room" "check_room" s_check_room A.f_check_room A.d_check_room
  m_check_room : mg "check_room" = some (.ref A.f_check_room)
  F_check_index : Fun K "check_index" "check_index" s_check_index A.f_check_index A.d_check_index
  m_check_index : mg "check_index" = some (.ref A.f_check_index)
  F_check_count : Fun K "check_count" "check_count" s_check_count A.f_check_count A.d_check_count
  m_check_count : mg "check_count" = some (.ref A.f_check_count)
  F_row_of : Fun K "row_of" "row_of" s_row_of A.f_row_of A.d_row_of
  m_row_of : mg "row_of" = some (.ref A.f_row_of)
  F_is_full : Fun K "is_full" "is_full" s_is_full A.f_is_full A.d_is_full
  m_is_full : mg "is_full" = some (.ref A.f_is_full)
  F_t___init__ : FunD K "__init__" "Tree.__init__" (defArgs s_t___init__) (defBody s_t___init__) (defScope s_t___init__) [] [("arms", V.int 2)] A.f_t___init__ A.d_t___init__
  F_t_of : FunD K "of" "Tree.of" (defArgs s_t_of) (defBody s_t_of) (defScope s_t_of) [] [("arms", V.int 2)] A.f_t_of A.d_t_of
  F_t___len__ : Fun K "__len__" "Tree.__len__" s_t___len__ A.f_t___len__ A.d_t___len__
  D_t___len__ : Dn K A.C "__len__" A.f_t___len__
  F_t___iter__ : Fun K "__iter__" "Tree.__iter__" s_t___iter__ A.f_t___iter__ A.d_t___iter__
  D_t___iter__ : Dn K A.C "__iter__" A.f_t___iter__
  F_t___getitem__ : Fun K "__getitem__" "Tree.__getitem__" s_t___getitem__ A.f_t___getitem__ A.d_t___getitem__
  D_t___getitem__ : Dn K A.C "__getitem__" A.f_t___getitem__
  F_t_parent : Fun K "parent" "Tree.parent" s_t_parent A.f_t_parent A.d_t_parent
  M_t_parent : Meth K A.C "parent" A.f_t_parent
  F_t_way_to : Fun K "way_to" "Tree.way_to" s_t_way_to A.f_t_way_to A.d_t_way_to
  M_t_way_to : Meth K A.C "way_to" A.f_t_way_to
  F_faults : FunD K "faults" "faults" (defArgs s_faults) (defBody s_faults) (defScope s_faults) [] [("arms", V.int 2)] A.f_faults A.d_faults
  m_faults : mg "faults" = some (.ref A.f_faults)
  F_heap_of : Fun K "heap_of" "heap_of" s_heap_of A.f_heap_of A.d_heap_of
  m_heap_of : mg "heap_of" = some (.ref A.f_heap_of)
  F_check_filled : Fun K "check_filled" "check_filled" s_check_filled A.f_check_filled A.d_check_filled
  m_check_filled : mg "check_filled" = some (.ref A.f_check_filled)
  F_z___init__ : Fun K "__init__" "Sift.__init__" s_z___init__ A.f_z___init__ A.d_z___init__
  F_sift_up : FunD K "sift_up" "sift_up" (defArgs s_sift_up) (defBody s_sift_up) (defScope s_sift_up) [] [("arms", V.int 2)] A.f_sift_up A.d_sift_up
  m_sift_up : mg "sift_up" = some (.ref A.f_sift_up)
  F_sift_down : FunD K "sift_down" "sift_down" (defArgs s_sift_down) (defBody s_sift_down) (defScope s_sift_down) [] [("arms", V.int 2)] A.f_sift_down A.d_sift_down
  m_sift_down : mg "sift_down" = some (.ref A.f_sift_down)
  L_least_child : ∃ (oc : Value) (od : Option Addr) (kV doc pm : Value) (an : Option Addr) (ct : Value) (osl : Array (Option Value)), A.d_least_child = PySem.W.fnOf "least_child" "least_child" (defArgs s_least_child) (defBody s_least_child) (defScope s_least_child) .none kV doc pm an (.ref A.c_least_child) ct ∧ K.lookup A.f_least_child = some ⟨oc, od, .func A.d_least_child, osl⟩ ∧ PySem.W.codeIn K (.ref A.c_least_child) "least_child" = true
  F_least_child : Fun K "least_child" "least_child" s_least_child A.f_least_child A.d_least_child
  m_least_child : mg "least_child" = some (.ref A.f_least_child)
  F_push : FunD K "push" "push" (defArgs s_push) (defBody s_push) (defScope s_push) [] [("arms", V.int 2)] A.f_push A.d_push
  m_push : mg "push" = some (.ref A.f_push)
  F_put_for : FunD K "put_for" "put_for" (defArgs s_put_for) (defBody s_put_for) (defScope s_put_for) [] [("arms", V.int 2)] A.f_put_for A.d_put_for
  m_put_for : mg "put_for" = some (.ref A.f_put_for)
  F_e___init__ : FunD K "__init__" "Keeper.__init__" (defArgs s_e___init__) (defBody s_e___init__) (defScope s_e___init__) [] [("arms", V.int 2)] A.f_e___init__ A.d_e___init__
  F_e___len__ : Fun K "__len__" "Keeper.__len__" s_e___len__ A.f_e___len__ A.d_e___len__
  D_e___len__ : Dn K A.CK "__len__" A.f_e___len__
  F_e___contains__ : Fun K "__contains__" "Keeper.__contains__" s_e___contains__ A.f_e___contains__ A.d_e___contains__
  D_e___contains__ : Dn K A.CK "__contains__" A.f_e___contains__
  F_e_heap : Fun K "heap" "Keeper.heap" s_e_heap A.f_e_heap A.d_e_heap
  P_e_heap : PropOf K A.CK "heap" A.p_e_heap A.f_e_heap
  F_e_entered : Fun K "entered" "Keeper.entered" s_e_entered A.f_e_entered A.d_e_entered
  P_e_entered : PropOf K A.CK "entered" A.p_e_entered A.f_e_entered
  F_e_see : Fun K "see" "Keeper.see" s_e_see A.f_e_see A.d_e_see
  M_e_see : Meth K A.CK "see" A.f_e_see
  F_changes : Fun K "changes" "changes" s_changes A.f_changes A.d_changes
  m_changes : mg "changes" = some (.ref A.f_changes)
  F_order_code : Fun K "order_code" "order_code" s_order_code A.f_order_code A.d_order_code
  m_order_code : mg "order_code" = some (.ref A.f_order_code)
  F_order_by : Fun K "order_by" "order_by" s_order_by A.f_order_by A.d_order_by
  m_order_by : mg "order_by" = some (.ref A.f_order_by)
  F_is_code : Fun K "is_code" "is_code" s_is_code A.f_is_code A.d_is_code
  m_is_code : mg "is_code" = some (.ref A.f_is_code)
  F_many_orders : Fun K "many_orders" "many_orders" s_many_orders A.f_many_orders A.d_many_orders
  m_many_orders : mg "many_orders" = some (.ref A.f_many_orders)
  F_order_at : Fun K "order_at" "order_at" s_order_at A.f_order_at A.d_order_at
  m_order_at : mg "order_at" = some (.ref A.f_order_at)
  F_order_index : Fun K "order_index" "order_index" s_order_index A.f_order_index A.d_order_index
  m_order_index : mg "order_index" = some (.ref A.f_order_index)
  F_does_come : Fun K "does_come" "does_come" s_does_come A.f_does_come A.d_does_come
  m_does_come : mg "does_come" = some (.ref A.f_does_come)
  F_ends_for : Fun K "ends_for" "ends_for" s_ends_for A.f_ends_for A.d_ends_for
  m_ends_for : mg "ends_for" = some (.ref A.f_ends_for)
  F_ends_with : Fun K "ends_with" "ends_with" s_ends_with A.f_ends_with A.d_ends_with
  m_ends_with : mg "ends_with" = some (.ref A.f_ends_with)
  F__law_number : Fun K "_law_number" "_law_number" s__law_number A.f__law_number A.d__law_number
  m__law_number : mg "_law_number" = some (.ref A.f__law_number)
  F__law_codes : Fun K "_law_codes" "_law_codes" s__law_codes A.f__law_codes A.d__law_codes
  m__law_codes : mg "_law_codes" = some (.ref A.f__law_codes)
  F__law_entered : Fun K "_law_entered" "_law_entered" s__law_entered A.f__law_entered A.d__law_entered
  m__law_entered : mg "_law_entered" = some (.ref A.f__law_entered)
  F__law_product : Fun K "_law_product" "_law_product" s__law_product A.f__law_product A.d__law_product
  m__law_product : mg "_law_product" = some (.ref A.f__law_product)
  F__law_few_right : Fun K "_law_few_right" "_law_few_right" s__law_few_right A.f__law_few_right A.d__law_few_right
  m__law_few_right : mg "_law_few_right" = some (.ref A.f__law_few_right)
  F_law : Fun K "law" "law" s_law A.f_law A.d_law
  m_law : mg "law" = some (.ref A.f_law)
  c_GREATEST_KEY : mg "GREATEST_KEY" = some (.int 1000000000 0) ∨ ∃ t, mg "GREATEST_KEY" = some (.int 1000000000 t)
  c_MOST_ARMS : mg "MOST_ARMS" = some (.int 4 0) ∨ ∃ t, mg "MOST_ARMS" = some (.int 4 t)
  c_MOST_ITEMS : mg "MOST_ITEMS" = some (.int 12 0) ∨ ∃ t, mg "MOST_ITEMS" = some (.int 12 t)
  c_MOST_PLACES : mg "MOST_PLACES" = some (.int 12 0) ∨ ∃ t, mg "MOST_PLACES" = some (.int 12 t)
  c_MOST_ROOM : mg "MOST_ROOM" = some (.int 12 0) ∨ ∃ t, mg "MOST_ROOM" = some (.int 12 t)
  g_all : mg "all" = none
  g_bool : mg "bool" = none
  g_enumerate : mg "enumerate" = none
  g_int : mg "int" = none
  g_isinstance : mg "isinstance" = none
  g_iter : mg "iter" = none
  g_len : mg "len" = none
  g_list : mg "list" = none
  g_max : mg "max" = none
  g_min : mg "min" = none
  g_range : mg "range" = none
  g_reversed : mg "reversed" = none
  g_sorted : mg "sorted" = none
  g_sum : mg "sum" = none
  g_tuple : mg "tuple" = none
  g_zip : mg "zip" = none
  cT : Cls K A.C
  nMany : NoAttr K A.C "many"
  nArms : NoAttr K A.C "arms"
  nPl : NoAttr K A.C "_places"
  mC : mg "Tree" = some (.ref A.C)
  mkC : Mk K A.C A.f_t___init__
  cr : ClX.CRead K A.C (.type "type")
  cof : ClX.CMet K A.C (.type "type") "of" A.po A.f_t_of
  cTS : Cls K A.CS
  nRow : NoAttr K A.CS "row"
  nWay : NoAttr K A.CS "way"
  nLooks : NoAttr K A.CS "looks"
  mCS : mg "Sift" = some (.ref A.CS)
  mkCS : Mk K A.CS A.f_z___init__
  cTK : Cls K A.CK
  kRoom : NoAttr K A.CK "room"
  kArms : NoAttr K A.CK "arms"
  kHeap : NoAttr K A.CK "_heap"
  kEnt : NoAttr K A.CK "_entered"
  kMark : NoAttr K A.CK "_mark"
  mCK : mg "Keeper" = some (.ref A.CK)
  mkCK : Mk K A.CK A.f_e___init__
  cTM : Cls K A.CM
  mCM : mg "Mark" = some (.ref A.CM)
  mkCM : L2.MkO K A.CM
def TT (A : Ad) : List (Addr × Str) := [(A.P_least_child, ("least_child" : Str) ++ ".<locals>." ++ "<lambda>")]

end Tw

set_option Elab.async false
set_option linter.all false
set_option maxRecDepth 100000
set_option maxHeartbeats 2000000
namespace Tw
open PySem PySem.Spec PyProof.Rows L2
section
variable {P : Program} {w : World} {K : PySem.W.Frag} {mg : Str → Option Value} {base : Heap} {A : Ad}
open LamX (ExtN Tabs TabS)
/-! codes of orders -/
/-- how many greater items are ahead of each item -/
def codeL (p : List Nat) : List Nat := (List.range p.length).map fun i => ((p.take i).filter fun y => decide (p.getD i 0 < y)).length
theorem codeL_len (p : List Nat) : (codeL p).length = p.length := by
  unfold codeL
  rw [List.length_map, List.length_range]
theorem codeL_at {p : List Nat} {i : Nat} (h : i < p.length) : (codeL p)[i]'(by rw [codeL_len]; exact h) = ((p.take i).filter fun y => decide (p.getD i 0 < y)).length := by
  unfold codeL
  rw [List.getElem_map, List.getElem_range]
theorem codeL_snoc (p : List Nat) (x : Nat) : codeL (p ++ [x]) = codeL p ++ [(p.filter fun y => decide (x < y)).length] := by
  unfold codeL
  rw [List.length_append, List.length_singleton, List.range_succ, List.map_append]
  congr 1
  · refine List.map_congr_left fun i hi => ?_
    have h := List.mem_range.mp hi
    rw [List.take_append_of_le_length (by omega), List.getD_eq_getElem?_getD, List.getElem?_append_left h, ← List.getD_eq_getElem?_getD]
  · rw [List.map_singleton, List.take_append_of_le_length (Nat.le_refl _), List.take_length, List.getD_eq_getElem?_getD, List.getElem?_append_right (Nat.le_refl _), Nat.sub_self]
    rfl
theorem codeL_le (p : List Nat) : ∀ (i x : Nat), (codeL p)[i]? = some x → x ≤ i := by
  intro i x h
  by_cases hi : i < p.length
  · rw [List.getElem?_eq_getElem (by rw [codeL_len]; exact hi), codeL_at hi] at h
    cases h
    refine Nat.le_trans (List.length_filter_le _ _) ?_
    rw [List.length_take]
    omega
  · rw [List.getElem?_eq_none (by rw [codeL_len]; omega)] at h
    cases h
/-- from the last item on: the items, as the numbers tell, out of those that are left -/
def decL : List Nat → List Nat → List Nat
  | _, [] => []
  | left, c :: cs => left.getD (left.length - 1 - c) 0 :: decL (left.eraseIdx (left.length - 1 - c)) cs
def orderL (c : List Nat) : List Nat := (decL (List.range c.length) c.reverse).reverse
theorem decL_len : ∀ (cs left : List Nat), (decL left cs).length = cs.length
  | [], _ => rfl
  | c :: cs, left => by
    unfold decL
    rw [List.length_cons, decL_len cs, List.length_cons]
theorem orderL_len (c : List Nat) : (orderL c).length = c.length := by
  unfold orderL
  rw [List.length_reverse, decL_len, List.length_reverse]
/-- in an ascending list, those that are greater than an item stand behind it -/
theorem above : ∀ {l : List Nat} (_ : l.Pairwise (· < ·)) {i : Nat} (h : i < l.length), (l.filter fun y => decide (l[i] < y)).length = l.length - 1 - i
  | a :: l, hp, 0, _ => by
    have h := List.pairwise_cons.mp hp
    show ((a :: l).filter fun y => decide (a < y)).length = _
    rw [List.filter_cons_of_neg (by simp), List.filter_eq_self.mpr fun y hy => by simpa using h.1 y hy]
    simp
  | a :: l, hp, i + 1, hi => by
    have h := List.pairwise_cons.mp hp
    have hi2 : i < l.length := Nat.lt_of_succ_lt_succ hi
    show ((a :: l).filter fun y => decide (l[i] < y)).length = _
    have := h.1 _ (List.getElem_mem hi2)
    rw [List.filter_cons_of_neg (by simp; omega), above h.2 hi2, List.length_cons]
    omega
theorem perm_at : ∀ (s : List Nat) (j : Nat) (h : j < s.length), (s[j] :: s.eraseIdx j).Perm s
  | a :: l, 0, _ => List.Perm.refl _
  | a :: l, j + 1, h => (List.Perm.swap a _ _).trans ((perm_at l j (Nat.lt_of_succ_lt_succ h)).cons a)
theorem getD_in {s : List Nat} {j : Nat} (h : j < s.length) : s.getD j 0 = s[j] := by
  rw [List.getD_eq_getElem?_getD, List.getElem?_eq_getElem h]
  rfl
theorem erase_asc {l : List Nat} (h : l.Pairwise (· < ·)) (i : Nat) : (l.eraseIdx i).Pairwise (· < ·) := h.sublist (List.eraseIdx_sublist l i)
/-- numbers that are a code give an order with this code -/
theorem dec_ok : ∀ (cs left : List Nat), left.Pairwise (· < ·) → cs.length = left.length → (∀ (i x : Nat), cs[i]? = some x → x < left.length - i) →
    (decL left cs).Perm left ∧ codeL (decL left cs).reverse = cs.reverse
  | [], [], _, _, _ => ⟨List.Perm.refl _, rfl⟩
  | c :: cs, left, hp, hl, hc => by
    have h0 := hc 0 c rfl
    rw [List.length_cons] at hl
    have hi : left.length - 1 - c < left.length := by omega
    obtain ⟨i1, i2⟩ := dec_ok cs (left.eraseIdx (left.length - 1 - c)) (erase_asc hp _) (by rw [List.length_eraseIdx_of_lt hi]; omega) (fun i x hx => by
      have := hc (i + 1) x hx
      rw [List.length_eraseIdx_of_lt hi]
      omega)
    unfold decL
    rw [getD_in hi]
    refine ⟨(i1.cons _).trans (perm_at _ _ hi), ?_⟩
    rw [List.reverse_cons, codeL_snoc, i2, List.reverse_cons]
    congr 2
    have e1 : ((decL (left.eraseIdx (left.length - 1 - c)) cs).reverse.filter fun y => decide (left[left.length - 1 - c] < y)).length = ((left.eraseIdx (left.length - 1 - c)).filter fun y => decide (left[left.length - 1 - c] < y)).length :=
      (((List.reverse_perm _).trans i1).filter _).length_eq
    have e2 := ((perm_at left _ hi).filter fun y => decide (left[left.length - 1 - c] < y)).length_eq
    rw [List.filter_cons_of_neg (by simp), above hp hi] at e2
    rw [e1, e2]
    omega
  | [], _ :: _, _, h, _ => by cases h
/-- the code of an order gives the order -/
theorem code_back : ∀ (q left : List Nat), q.Perm left → left.Pairwise (· < ·) → decL left (codeL q.reverse).reverse = q
  | [], _, _, _ => rfl
  | x :: q, left, hq, hp => by
    rw [List.reverse_cons, codeL_snoc, List.reverse_append, List.reverse_singleton, List.singleton_append]
    obtain ⟨i, hi, e⟩ := List.getElem_of_mem (hq.mem_iff.mp List.mem_cons_self)
    have e1 : (q.reverse.filter fun y => decide (x < y)).length = left.length - 1 - i := by
      have a := above hp hi
      rw [e] at a
      have b := (hq.filter fun y => decide (x < y)).length_eq
      rw [List.filter_cons_of_neg (by simp)] at b
      rw [← a, ← b, ((List.reverse_perm q).filter _).length_eq]
    rw [e1]
    unfold decL
    have e2 : left.length - 1 - (left.length - 1 - i) = i := by omega
    rw [e2, getD_in hi, e]
    have hq2 : q.Perm (left.eraseIdx i) := by
      have := perm_at left i hi
      rw [e] at this
      exact (List.perm_cons x).mp (hq.trans this.symm)
    rw [code_back q _ hq2 (erase_asc hp i)]
theorem order_code {p : List Nat} (h : p.Perm (List.range p.length)) : orderL (codeL p) = p := by
  unfold orderL
  rw [codeL_len]
  have := code_back p.reverse (List.range p.length) ((List.reverse_perm p).trans h) List.pairwise_lt_range
  rw [List.reverse_reverse] at this
  rw [this, List.reverse_reverse]
theorem code_order {c : List Nat} (h : ∀ (i x : Nat), c[i]? = some x → x ≤ i) : codeL (orderL c) = c ∧ (orderL c).Perm (List.range c.length) := by
  have hb : ∀ (i x : Nat), c.reverse[i]? = some x → x < (List.range c.length).length - i := fun i x hx => by
    rw [List.length_range]
    by_cases hi : i < c.length
    · rw [List.getElem?_reverse hi] at hx
      have := h _ _ hx
      omega
    · rw [List.getElem?_eq_none (by rw [List.length_reverse]; omega)] at hx
      cases hx
  obtain ⟨h1, h2⟩ := dec_ok c.reverse (List.range c.length) List.pairwise_lt_range (by rw [List.length_reverse, List.length_range]) hb
  refine ⟨?_, (List.reverse_perm _).trans h1⟩
  unfold orderL
  rw [h2, List.reverse_reverse]
/-! all orders, and all codes, of so many items -/
def ordsL (n : Nat) : Nat → List (List Nat)
  | 0 => [[]]
  | t + 1 => (ordsL n t).flatMap fun p => ((List.range n).filter fun x => decide (x ∉ p)).map fun x => p ++ [x]
def codsL : Nat → List (List Nat)
  | 0 => [[]]
  | t + 1 => (codsL t).flatMap fun p => (List.range (t + 1)).map fun x => p ++ [x]
def permB (n : Nat) (p : List Nat) : Bool := p.isPerm (List.range n)
theorem ords_ok : ∀ n, n ≤ 5 → ∀ p ∈ ordsL n n, p.Perm (List.range n) := by
  have h : ∀ n, n < 6 → (ordsL n n).all (permB n) = true := by decide +kernel
  intro n hn p hp
  exact List.isPerm_iff.mp (List.all_eq_true.mp (h n (by omega)) p hp)
theorem cods_ok : ∀ t, ∀ p ∈ codsL t, p.length = t ∧ ∀ (i x : Nat), p[i]? = some x → x ≤ i
  | 0, p, hp => by
    rw [List.mem_singleton.mp hp]
    exact ⟨rfl, fun i x h => by simp at h⟩
  | t + 1, p, hp => by
    obtain ⟨q, hq, h2⟩ := List.mem_flatMap.mp hp
    obtain ⟨x, hx, rfl⟩ := List.mem_map.mp h2
    obtain ⟨a, b⟩ := cods_ok t q hq
    have hx2 := List.mem_range.mp hx
    refine ⟨by rw [List.length_append, a]; rfl, fun i y h => ?_⟩
    by_cases hi : i < q.length
    · rw [List.getElem?_append_left hi] at h
      exact b i y h
    · rw [List.getElem?_append_right (by omega)] at h
      by_cases h0 : i = q.length
      · subst h0
        rw [Nat.sub_self] at h
        cases h
        omega
      · rw [List.getElem?_eq_none (by rw [List.length_singleton]; omega)] at h
        cases h
def natB (p : List Nat) : List Int := p.map fun x => Int.ofNat x
theorem sort_same : ∀ n, n ≤ 5 → (((codsL n).map orderL).map natB).mergeSort (fun p q => decide (p ≤ q)) = ((ordsL n n).map natB).mergeSort (fun p q => decide (p ≤ q)) := by
  have perm : ∀ n, n < 6 → (((codsL n).map orderL).isPerm (ordsL n n)) = true := by decide +kernel
  intro n hn
  have h := (List.isPerm_iff.mp (perm n (by omega))).map natB
  have tr : ∀ (a b c : List Int), decide (a ≤ b) = true → decide (b ≤ c) = true → decide (a ≤ c) = true := fun a b c h1 h2 =>
    decide_eq_true (List.le_trans (of_decide_eq_true h1) (of_decide_eq_true h2))
  have tot : ∀ (a b : List Int), (decide (a ≤ b) || decide (b ≤ a)) = true := fun a b => by
    rcases List.le_total a b with x | x
    · rw [decide_eq_true x, Bool.true_or]
    · rw [decide_eq_true x, Bool.or_true]
  refine List.Perm.eq_of_pairwise (le := fun a b => decide (a ≤ b) = true) (fun a b _ _ h1 h2 => List.le_antisymm (of_decide_eq_true h1) (of_decide_eq_true h2)) (List.pairwise_mergeSort tr tot _) (List.pairwise_mergeSort tr tot _) ?_
  exact (List.mergeSort_perm _ _).trans (h.trans (List.mergeSort_perm _ _).symm)
theorem ords_len : ∀ n, n ≤ 5 → ∀ t, t ≤ n → (ordsL n t).length ≤ 120 := by
  have h : ∀ n, n < 6 → ∀ t, t < 6 → t ≤ n → (ordsL n t).length ≤ 120 := by decide +kernel
  exact fun n hn t ht => h n (by omega) t (by omega) ht
theorem cods_len : ∀ t, t ≤ 5 → (codsL t).length ≤ 120 := by
  have h : ∀ t, t < 6 → (codsL t).length ≤ 120 := by decide +kernel
  exact fun t ht => h t (by omega)

end
end Tw

set_option Elab.async false
set_option linter.all false
set_option maxRecDepth 100000
set_option maxHeartbeats 2000000
namespace Tw
open PySem PySem.Spec PyProof.Rows L2
section
variable {P : Program} {w : World} {K : PySem.W.Frag} {mg : Str → Option Value} {base : Heap} {A : Ad}
open LamX (ExtN Tabs TabS)
/-! the codes by what enters: how many, the one at an index, the index of one -/
def wd (r d : Nat) : Nat := if d < r then 1 else 0
def cntW (r : Nat) (c : List Nat) : Nat := (c.map (wd r)).sum
theorem cntW_cons (r d : Nat) (c : List Nat) : cntW r (d :: c) = wd r d + cntW r c := by
  unfold cntW
  rw [List.map_cons, List.sum_cons]
/-- the ends of codes from place a on, k numbers -/
def allS (a : Nat) : Nat → List (List Nat)
  | 0 => [[]]
  | k + 1 => (List.range (a + 1)).flatMap fun d => (allS (a + 1) k).map (d :: ·)
/-- those in which c enter -/
def sufS (r a : Nat) : Nat → Nat → List (List Nat)
  | 0, c => if c = 0 then [[]] else []
  | k + 1, c => (List.range (a + 1)).flatMap fun d => if wd r d ≤ c then (sufS r (a + 1) k (c - wd r d)).map (d :: ·) else []
def endE (r a : Nat) : Nat → Nat → Nat
  | 0, c => if c = 0 then 1 else 0
  | k + 1, c => ((List.range (a + 1)).map fun d => if wd r d ≤ c then endE r (a + 1) k (c - wd r d) else 0).sum
theorem sufS_len (r : Nat) : ∀ k a c, (sufS r a k c).length = endE r a k c
  | 0, a, c => by
    unfold sufS endE
    split <;> rfl
  | k + 1, a, c => by
    show ((List.range (a + 1)).flatMap _).length = _
    rw [List.length_flatMap]
    unfold endE
    congr 1
    apply List.map_congr_left
    intro d _
    split
    · rw [List.length_map, sufS_len r k]
    · rfl
theorem sufS_filter (r : Nat) : ∀ k a c, (allS a k).filter (fun s => decide (cntW r s = c)) = sufS r a k c
  | 0, a, c => by
    unfold allS sufS
    by_cases h : c = 0
    · subst h
      rfl
    · rw [if_neg h]
      have : decide (cntW r [] = c) = false := decide_eq_false (fun z => h z.symm)
      rw [List.filter_cons, this]
      rfl
  | k + 1, a, c => by
    unfold allS sufS
    rw [List.filter_flatMap]
    congr 1
    funext d
    rw [List.filter_map]
    by_cases h : wd r d ≤ c
    · rw [if_pos h, ← sufS_filter r k]
      congr 1
      apply List.filter_congr
      intro s _
      show decide (cntW r (d :: s) = c) = decide (cntW r s = c - wd r d)
      rw [cntW_cons]
      exact decide_eq_decide.mpr ⟨fun z => by omega, fun z => by omega⟩
    · rw [if_neg h]
      rw [List.map_eq_nil_iff, List.filter_eq_nil_iff]
      intro s _ z
      have z : cntW r (d :: s) = c := of_decide_eq_true z
      rw [cntW_cons] at z
      omega
theorem allS_snoc : ∀ k a, allS a (k + 1) = (allS a k).flatMap fun p => (List.range (a + k + 1)).map fun x => p ++ [x]
  | 0, a => by
    show (List.range (a + 1)).flatMap (fun d => [[d]]) = ((List.range (a + 0 + 1)).map fun x => [] ++ [x]) ++ []
    rw [List.append_nil]
    exact List.map_eq_flatMap.symm
  | k + 1, a => by
    have e := allS_snoc k (a + 1)
    show (List.range (a + 1)).flatMap (fun d => (allS (a + 1) (k + 1)).map (d :: ·)) = _
    rw [e]
    show _ = ((List.range (a + 1)).flatMap fun d => (allS (a + 1) k).map (d :: ·)).flatMap _
    rw [List.flatMap_assoc]
    congr 1
    funext d
    rw [List.map_flatMap, List.flatMap_map]
    congr 1
    funext p
    rw [List.map_map, show a + (k + 1) + 1 = a + 1 + k + 1 by omega]
    rfl
theorem allS_cods : ∀ n, allS 0 n = codsL n
  | 0 => rfl
  | n + 1 => by
    rw [allS_snoc, allS_cods n, Nat.zero_add]
    rfl
theorem cods_cnt (r n c : Nat) : (codsL n).filter (fun s => decide (cntW r s = c)) = sufS r 0 n c := by rw [← allS_cods, sufS_filter]
/-- ascending -/
theorem sufS_asc (r : Nat) : ∀ k a c, (sufS r a k c).Pairwise (· < ·)
  | 0, a, c => by
    unfold sufS
    split
    · exact List.pairwise_singleton _ _
    · exact .nil
  | k + 1, a, c => by
    unfold sufS
    rw [List.pairwise_flatMap]
    refine ⟨fun d _ => ?_, List.pairwise_lt_range.imp fun {d e} hde x hx y hy => ?_⟩
    · split
      · rw [List.pairwise_map]
        exact (sufS_asc r k (a + 1) _).imp fun h => List.cons_lt_cons_iff.mpr (.inr ⟨rfl, h⟩)
      · exact .nil
    · split at hx
      · split at hy
        · obtain ⟨x, _, rfl⟩ := List.mem_map.mp hx
          obtain ⟨y, _, rfl⟩ := List.mem_map.mp hy
          exact List.cons_lt_cons_iff.mpr (.inl hde)
        · cases hy
      · cases hx
theorem lt_nd {l : List (List Nat)} (h : l.Pairwise (· < ·)) {i j : Nat} {x : List Nat} (hi : l[i]? = some x) (hj : l[j]? = some x) : i = j := by
  obtain ⟨hi1, ei⟩ := List.getElem?_eq_some_iff.mp hi
  obtain ⟨hj1, ej⟩ := List.getElem?_eq_some_iff.mp hj
  have p := List.pairwise_iff_getElem.mp h
  rcases Nat.lt_trichotomy i j with z | z | z
  · have := p i j hi1 hj1 z
    rw [ei, ej] at this
    exact absurd this (List.lt_irrefl x)
  · exact z
  · have := p j i hj1 hi1 z
    rw [ei, ej] at this
    exact absurd this (List.lt_irrefl x)
theorem sufS_mem (r : Nat) : ∀ k a c, ∀ s ∈ sufS r a k c, s.length = k ∧ cntW r s = c ∧ ∀ (i x : Nat), s[i]? = some x → x ≤ a + i
  | 0, a, c, s, h => by
    unfold sufS at h
    split at h
    · rename_i hc
      rw [List.mem_singleton.mp h]
      exact ⟨rfl, hc.symm, fun i x z => by rw [List.getElem?_nil] at z; cases z⟩
    · cases h
  | k + 1, a, c, s, h => by
    unfold sufS at h
    obtain ⟨d, hd, h⟩ := List.mem_flatMap.mp h
    split at h
    · rename_i hw
      obtain ⟨t, ht, rfl⟩ := List.mem_map.mp h
      obtain ⟨h1, h2, h3⟩ := sufS_mem r k (a + 1) _ t ht
      refine ⟨by rw [List.length_cons, h1], by rw [cntW_cons, h2]; omega, fun i x z => ?_⟩
      cases i with
      | zero =>
        have : d = x := Option.some.inj z
        have := List.mem_range.mp hd
        omega
      | succ i =>
        have := h3 i x z
        omega
    · cases h
/-! the one at an index: block by block -/
def blkE (r a k c d : Nat) : Nat := if wd r d ≤ c then endE r (a + 1) k (c - wd r d) else 0
def blkS (r a k c d : Nat) : List (List Nat) := if wd r d ≤ c then (sufS r (a + 1) k (c - wd r d)).map (d :: ·) else []
theorem blkS_len (r a k c d : Nat) : (blkS r a k c d).length = blkE r a k c d := by
  unfold blkS blkE
  split
  · rw [List.length_map, sufS_len]
  · rfl
theorem sufS_blk (r a k c : Nat) : sufS r a (k + 1) c = (List.range (a + 1)).flatMap (blkS r a k c) := rfl
theorem endE_blk (r a k c : Nat) : endE r a (k + 1) c = ((List.range (a + 1)).map (blkE r a k c)).sum := rfl
def fromS (r a k c d : Nat) : List (List Nat) := (List.range' d (a + 1 - d)).flatMap (blkS r a k c)
theorem fromS_0 (r a k c : Nat) : fromS r a k c 0 = sufS r a (k + 1) c := by
  rw [sufS_blk, List.range_eq_range']
  rfl
theorem fromS_step {r a k c d i : Nat} {x : List Nat} (h : (fromS r a k c d)[i]? = some x) : d ≤ a ∧ (blkE r a k c d ≤ i → (fromS r a k c (d + 1))[i - blkE r a k c d]? = some x) ∧ (i < blkE r a k c d → ∃ y, (sufS r (a + 1) k (c - wd r d))[i]? = some y ∧ x = d :: y ∧ wd r d ≤ c) := by
  unfold fromS at h
  have hd : d ≤ a := by
    by_cases z : d ≤ a
    · exact z
    · rw [show a + 1 - d = 0 by omega] at h
      cases h
  rw [show a + 1 - d = (a - d) + 1 by omega, List.range'_succ, List.flatMap_cons] at h
  refine ⟨hd, fun hb => ?_, fun hb => ?_⟩
  · rw [List.getElem?_append_right (by rw [blkS_len]; exact hb), blkS_len] at h
    unfold fromS
    rw [show a + 1 - (d + 1) = a - d by omega]
    exact h
  · rw [List.getElem?_append_left (by rw [blkS_len]; exact hb)] at h
    unfold blkS at h
    split at h
    · rename_i hw
      rw [List.getElem?_map] at h
      obtain ⟨y, hy, e⟩ := Option.map_eq_some_iff.mp h
      exact ⟨y, hy, e.symm, hw⟩
    · cases h
/-- the index of one: the blocks ahead -/
theorem fromS_back {r a k c d i : Nat} {y : List Nat} (hd : d ≤ a) (hw : wd r d ≤ c) (h : (sufS r (a + 1) k (c - wd r d))[i]? = some y) : (sufS r a (k + 1) c)[((List.range d).map (blkE r a k c)).sum + i]? = some (d :: y) := by
  have e : List.range (a + 1) = List.range d ++ (d :: List.range' (d + 1) (a - d)) := by
    rw [← List.range'_succ, List.range_eq_range', List.range_eq_range', show a - d + 1 = a + 1 - d by omega]
    have := List.range'_append_1 (s := 0) (m := d) (n := a + 1 - d)
    rw [Nat.zero_add, show d + (a + 1 - d) = a + 1 by omega] at this
    exact this.symm
  rw [sufS_blk, e, List.flatMap_append, List.flatMap_cons]
  have hl : ((List.range d).flatMap (blkS r a k c)).length = ((List.range d).map (blkE r a k c)).sum := by
    rw [List.length_flatMap]
    congr 1
    exact List.map_congr_left fun z _ => blkS_len r a k c z
  rw [List.getElem?_append_right (by rw [hl]; omega), hl, Nat.add_sub_cancel_left]
  have hb : blkS r a k c d = (sufS r (a + 1) k (c - wd r d)).map (d :: ·) := if_pos hw
  have hi : i < (sufS r (a + 1) k (c - wd r d)).length := (List.getElem?_eq_some_iff.mp h).1
  rw [List.getElem?_append_left (by rw [hb, List.length_map]; exact hi), hb, List.getElem?_map, h]
  rfl
/-! the numbers of changes, multiplied out -/
def stepF (m r : Nat) (f : Nat → Nat) (c : Nat) : Nat := (m - r) * f c + min m r * (match c with | 0 => 0 | d + 1 => f d)
theorem wd_sum (r : Nat) (x y : Nat) : ∀ m, ((List.range m).map fun d => if d < r then x else y).sum = min m r * x + (m - r) * y
  | 0 => by
    rw [Nat.zero_min, Nat.zero_mul, Nat.zero_sub, Nat.zero_mul]
    rfl
  | m + 1 => by
    rw [List.range_succ, List.map_append, List.sum_append, wd_sum r x y m, List.map_singleton, List.sum_singleton]
    by_cases h : m < r
    · rw [if_pos h, Nat.min_eq_left (by omega), Nat.min_eq_left (by omega), show m - r = 0 by omega, show m + 1 - r = 0 by omega, Nat.add_mul, Nat.one_mul]
      omega
    · rw [if_neg h, Nat.min_eq_right (by omega), Nat.min_eq_right (by omega), show m + 1 - r = (m - r) + 1 by omega, Nat.add_mul, Nat.one_mul]
      omega
theorem endE_step (r a k c : Nat) : endE r a (k + 1) c = stepF (a + 1) r (endE r (a + 1) k) c := by
  unfold stepF
  cases c with
  | zero =>
    rw [Nat.mul_zero, Nat.add_zero, endE_blk]
    have e := wd_sum r 0 (endE r (a + 1) k 0) (a + 1)
    rw [Nat.mul_zero, Nat.zero_add] at e
    rw [← e]
    congr 1
    refine List.map_congr_left fun d _ => ?_
    unfold blkE wd
    by_cases h : d < r
    · rw [if_pos h, if_pos h, if_neg (by omega)]
    · rw [if_neg h, if_neg h, if_pos (Nat.le_refl 0)]
  | succ c =>
    show _ = (a + 1 - r) * endE r (a + 1) k (c + 1) + min (a + 1) r * endE r (a + 1) k c
    rw [endE_blk, Nat.add_comm ((a + 1 - r) * _) _, ← wd_sum]
    congr 1
    refine List.map_congr_left fun d _ => ?_
    unfold blkE wd
    by_cases h : d < r
    · rw [if_pos h, if_pos h, if_pos (by omega), Nat.add_sub_cancel]
    · rw [if_neg h, if_neg h, if_pos (Nat.zero_le _), Nat.sub_zero]
def oneF (c : Nat) : Nat := if c = 0 then 1 else 0
def prodF (r : Nat) : Nat → Nat → Nat
  | 0 => oneF
  | m + 1 => stepF (m + 1) r (prodF r m)
theorem stepF_comm (m n r : Nat) (f : Nat → Nat) : stepF m r (stepF n r f) = stepF n r (stepF m r f) := by
  funext c
  unfold stepF
  generalize m - r = x
  generalize n - r = y
  generalize min m r = u
  generalize min n r = v
  match c with
  | 0 =>
    show x * (y * f 0 + v * 0) + u * 0 = y * (x * f 0 + u * 0) + v * 0
    simp only [Nat.mul_zero, Nat.add_zero]
    rw [← Nat.mul_assoc, ← Nat.mul_assoc, Nat.mul_comm x y]
  | 1 =>
    show x * (y * f 1 + v * f 0) + u * (y * f 0 + v * 0) = y * (x * f 1 + u * f 0) + v * (x * f 0 + u * 0)
    simp only [Nat.mul_zero, Nat.add_zero, Nat.mul_add, ← Nat.mul_assoc]
    rw [Nat.mul_comm y x, Nat.mul_comm x v, Nat.mul_comm u y]
    omega
  | c + 2 =>
    show x * (y * f (c + 2) + v * f (c + 1)) + u * (y * f (c + 1) + v * f c) = y * (x * f (c + 2) + u * f (c + 1)) + v * (x * f (c + 1) + u * f c)
    simp only [Nat.mul_add, ← Nat.mul_assoc]
    rw [Nat.mul_comm y x, Nat.mul_comm x v, Nat.mul_comm u y, Nat.mul_comm u v]
    omega
/-- from place a on, over f -/
def backF (r a : Nat) : Nat → (Nat → Nat) → Nat → Nat
  | 0, f => f
  | k + 1, f => stepF (a + 1) r (backF r (a + 1) k f)
theorem endE_back (r : Nat) : ∀ k a, endE r a k = backF r a k oneF
  | 0, a => rfl
  | k + 1, a => by
    funext c
    rw [endE_step, endE_back r k (a + 1)]
    rfl
theorem backF_comm (r n : Nat) (f : Nat → Nat) : ∀ k a, backF r a k (stepF n r f) = stepF n r (backF r a k f)
  | 0, a => rfl
  | k + 1, a => by
    show stepF (a + 1) r (backF r (a + 1) k (stepF n r f)) = stepF n r (stepF (a + 1) r (backF r (a + 1) k f))
    rw [backF_comm r n f k (a + 1), stepF_comm]
theorem backF_snoc (r : Nat) (f : Nat → Nat) : ∀ k a, backF r a (k + 1) f = backF r a k (stepF (a + k + 1) r f)
  | 0, a => rfl
  | k + 1, a => by
    show stepF (a + 1) r (backF r (a + 1) (k + 1) f) = stepF (a + 1) r (backF r (a + 1) k (stepF (a + (k + 1) + 1) r f))
    rw [backF_snoc r f k (a + 1), show a + 1 + k + 1 = a + (k + 1) + 1 by omega]
theorem prod_end (r : Nat) : ∀ n, prodF r n = endE r 0 n
  | 0 => rfl
  | n + 1 => by
    show stepF (n + 1) r (prodF r n) = _
    rw [prod_end r n, endE_back, endE_back, backF_snoc, Nat.zero_add, backF_comm]
theorem prodF_big (r : Nat) : ∀ n c, n < c → prodF r n c = 0
  | 0, c, h => if_neg (by omega)
  | n + 1, c, h => by
    show (n + 1 - r) * prodF r n c + min (n + 1) r * _ = 0
    cases c with
    | zero => omega
    | succ d =>
      rw [prodF_big r n (d + 1) (by omega)]
      show _ + min (n + 1) r * prodF r n d = 0
      rw [prodF_big r n d (by omega)]
      rfl
/-- what stands in the new list when i of m numbers are taken in -/
def lateN (m r : Nat) (f : Nat → Nat) (i c : Nat) : Nat := (if c < i then f c * (m - r) else 0) + (if 1 ≤ c ∧ c ≤ i then f (c - 1) * min m r else 0)
theorem lateN_0 (m r : Nat) (f : Nat → Nat) (c : Nat) : lateN m r f 0 c = 0 := by
  unfold lateN
  rw [if_neg (by omega), if_neg (by omega)]
theorem lateN_all (m r : Nat) (f : Nat → Nat) (hf : ∀ c, m ≤ c → f c = 0) (c : Nat) (hc : c ≤ m) : lateN m r f m c = stepF m r f c := by
  unfold lateN stepF
  have e1 : (if c < m then f c * (m - r) else 0) = (m - r) * f c := by
    by_cases h : c < m
    · rw [if_pos h, Nat.mul_comm]
    · rw [if_neg h, hf c (by omega), Nat.mul_zero]
  rw [e1]
  cases c with
  | zero =>
    rw [if_neg (by omega)]
    rfl
  | succ d => rw [if_pos (by omega), Nat.add_sub_cancel, Nat.mul_comm (f d)]
theorem lateN_step (m r : Nat) (f : Nat → Nat) (i c : Nat) : lateN m r f (i + 1) c = lateN m r f i c + (if c = i then f i * (m - r) else 0) + (if c = i + 1 then f i * min m r else 0) := by
  unfold lateN
  by_cases h1 : c = i
  · subst h1
    rw [if_pos (Nat.lt_succ_self c), if_neg (Nat.lt_irrefl c), if_pos rfl, if_neg (show ¬ c = c + 1 by omega)]
    by_cases h2 : 1 ≤ c
    · rw [if_pos (show 1 ≤ c ∧ c ≤ c + 1 by omega), if_pos (show 1 ≤ c ∧ c ≤ c by omega)]
      omega
    · rw [if_neg (show ¬ (1 ≤ c ∧ c ≤ c + 1) by omega), if_neg (show ¬ (1 ≤ c ∧ c ≤ c) by omega)]
      omega
  · rw [if_neg h1]
    by_cases h2 : c = i + 1
    · subst h2
      rw [if_neg (Nat.lt_irrefl _), if_neg (show ¬ i + 1 < i by omega), if_pos (show 1 ≤ i + 1 ∧ i + 1 ≤ i + 1 by omega), if_neg (show ¬ (1 ≤ i + 1 ∧ i + 1 ≤ i) by omega), if_pos rfl, Nat.add_sub_cancel]
    · rw [if_neg h2]
      by_cases h3 : c < i
      · rw [if_pos (show c < i + 1 by omega), if_pos h3]
        by_cases h4 : 1 ≤ c
        · rw [if_pos (show 1 ≤ c ∧ c ≤ i + 1 by omega), if_pos (show 1 ≤ c ∧ c ≤ i by omega)]
          rfl
        · rw [if_neg (show ¬ (1 ≤ c ∧ c ≤ i + 1) by omega), if_neg (show ¬ (1 ≤ c ∧ c ≤ i) by omega)]
      · rw [if_neg (show ¬ c < i + 1 by omega), if_neg h3, if_neg (show ¬ (1 ≤ c ∧ c ≤ i + 1) by omega), if_neg (show ¬ (1 ≤ c ∧ c ≤ i) by omega)]

end
end Tw

set_option Elab.async false
set_option linter.all false
set_option maxRecDepth 100000
set_option maxHeartbeats 2000000
namespace Tw
open PySem PySem.Spec PyProof.Rows L2
section
variable {P : Program} {w : World} {K : PySem.W.Frag} {mg : Str → Option Value} {base : Heap} {A : Ad}
open LamX (ExtN Tabs TabS)
/-- the heap holds the greatest keys of those that were seen -/
def Most (r : Nat) (seen ks : List Int) : Prop := ks.length = min r seen.length ∧ ∃ rest : List Int, (rest ++ ks).Perm seen ∧ ∀ x ∈ rest, ∀ y ∈ ks, x ≤ y
def comesK (r : Nat) (k : Int) (ks : List Int) : Bool := decide (ks.length < r ∨ ks.getD 0 0 < k)
def keyAt (ks : List Int) (p : Nat) : Int := ks.getD p 0
theorem keyAt_mem {ks : List Int} {p : Nat} (h : p < ks.length) : keyAt ks p ∈ ks := by
  unfold keyAt
  rw [List.getD_eq_getElem?_getD, List.getElem?_eq_getElem h]
  exact List.getElem_mem h
/-- the children as the law looks for them -/
def kidL (n w i : Nat) : List Nat := ((List.range (n - 1)).filter fun j => decide (j / w = i)).map (· + 1)
def swp (ks : List Int) (a b : Nat) : List Int := (ks.set a (keyAt ks b)).set b (keyAt ks a)
def leastC (ks : List Int) (l : List Nat) : Nat := l.getD (PySem.argBest (fun i j => decide (keyAt ks (l.getD i 0) < keyAt ks (l.getD j 0))) (l.length - 1)) 0
def goDown (n w : Nat) : Nat → List Int → Nat → List Nat → Nat → List Int × List Nat × Nat
  | 0, ks, _, way, lk => (ks, way, lk)
  | f + 1, ks, p, way, lk => if kidL n w p = [] then (ks, way, lk) else
      if keyAt ks (leastC ks (kidL n w p)) < keyAt ks p then goDown n w f (swp ks p (leastC ks (kidL n w p))) (leastC ks (kidL n w p)) (way ++ [leastC ks (kidL n w p)]) (lk + (kidL n w p).length)
      else (ks, way, lk + (kidL n w p).length)
def goUp (w : Nat) : Nat → List Int → Nat → List Nat → Nat → List Int × List Nat × Nat
  | 0, ks, _, way, lk => (ks, way, lk)
  | f + 1, ks, p, way, lk => if p = 0 then (ks, way, lk) else
      if keyAt ks p < keyAt ks ((p - 1) / w) then goUp w f (swp ks p ((p - 1) / w)) ((p - 1) / w) (way ++ [(p - 1) / w]) (lk + 1) else (ks, way, lk + 1)
def putRow (k : Int) (ks : List Int) : List Int := k :: ks.drop 1
def seeK (r w : Nat) (k : Int) (ks : List Int) : List Int := if ks.length < r then (goUp w 20 (ks ++ [k]) ks.length [ks.length] 0).1 else if ks.getD 0 0 < k then (goDown ks.length w 20 (putRow k ks) 0 [0] 0).1 else ks
/-- what comes of keys that are seen -/
def kpL (r w : Nat) (keys : List Int) : Nat → List Int × Nat
  | 0 => ([], 0)
  | i + 1 => (seeK r w (keyAt keys i) (kpL r w keys i).1, (kpL r w keys i).2 + if comesK r (keyAt keys i) (kpL r w keys i).1 = true then 1 else 0)
def HeapL (n w : Nat) (ks : List Int) : Prop := ∀ c, 1 ≤ c → c < n → keyAt ks ((c - 1) / w) ≤ keyAt ks c
structure KG (r w : Nat) (ks : List Int) : Prop where
  le : ks.length ≤ r
  bd : ∀ z ∈ ks, -1000000000 ≤ z ∧ z ≤ 1000000000
  hp : HeapL ks.length w ks
theorem KG.nil {r w : Nat} : KG r w [] := ⟨Nat.zero_le _, fun z hz => absurd hz (List.not_mem_nil), fun c h1 h2 => by rw [List.length_nil] at h2; omega⟩
theorem par_lt {w c : Nat} (h : 1 ≤ c) : (c - 1) / w < c := Nat.lt_of_le_of_lt (Nat.div_le_self _ _) (by omega)
theorem swp_len (ks : List Int) (a b : Nat) : (swp ks a b).length = ks.length := by unfold swp; rw [List.length_set, List.length_set]
theorem goUp_go {w f : Nat} {ks : List Int} {p : Nat} {way : List Nat} {lk : Nat} (h0 : p ≠ 0) (h : keyAt ks p < keyAt ks ((p - 1) / w)) : goUp w (f + 1) ks p way lk = goUp w f (swp ks p ((p - 1) / w)) ((p - 1) / w) (way ++ [(p - 1) / w]) (lk + 1) := by
  rw [goUp, if_neg h0, if_pos h]
theorem goUp_stay {w f : Nat} {ks : List Int} {p : Nat} {way : List Nat} {lk : Nat} (h0 : p ≠ 0) (h : ¬ keyAt ks p < keyAt ks ((p - 1) / w)) : goUp w (f + 1) ks p way lk = (ks, way, lk + 1) := by
  rw [goUp, if_neg h0, if_neg h]
theorem goUp_root {w f : Nat} {ks : List Int} {way : List Nat} {lk : Nat} : goUp w f ks 0 way lk = (ks, way, lk) := by
  cases f with
  | zero => rfl
  | succ f => rw [goUp, if_pos rfl]
theorem keyAt_set {ks : List Int} {a p : Nat} {v : Int} (ha : a < ks.length) : keyAt (ks.set a v) p = if p = a then v else keyAt ks p := by
  unfold keyAt
  rw [List.getD_eq_getElem?_getD, List.getD_eq_getElem?_getD, List.getElem?_set]
  by_cases h : a = p
  · rw [if_pos h, if_pos (by omega), if_pos h.symm]
    rfl
  · rw [if_neg h, if_neg (fun z => h z.symm)]
theorem keyAt_swp {ks : List Int} {a b p : Nat} (ha : a < ks.length) (hb : b < ks.length) : keyAt (swp ks a b) p = if p = b then keyAt ks a else if p = a then keyAt ks b else keyAt ks p := by
  unfold swp
  rw [keyAt_set (by rw [List.length_set]; exact hb), keyAt_set ha]
theorem up_good {n w : Nat} : ∀ (f : Nat) (ks : List Int) (cur : Nat) (way : List Nat) (lk : Nat), ks.length = n → cur < n → cur ≤ f →
    (∀ c, 1 ≤ c → c < n → c ≠ cur → keyAt ks ((c - 1) / w) ≤ keyAt ks c) → (∀ c, 1 ≤ c → c < n → (c - 1) / w = cur → cur ≠ 0 → keyAt ks ((cur - 1) / w) ≤ keyAt ks c) → HeapL n w (goUp w f ks cur way lk).1
  | 0, ks, cur, way, lk, hl, hc, hf, g, up => fun c h1 h2 => g c h1 h2 (by omega)
  | f + 1, ks, cur, way, lk, hl, hc, hf, g, up => by
    by_cases h0 : cur = 0
    · subst h0
      rw [goUp_root]
      exact fun c h1 h2 => g c h1 h2 (by omega)
    · have hp := par_lt (w := w) (c := cur) (by omega)
      by_cases hlt : keyAt ks cur < keyAt ks ((cur - 1) / w)
      · rw [goUp_go h0 hlt]
        generalize ep : (cur - 1) / w = p at *
        have ka : cur < ks.length := by omega
        have kb : p < ks.length := by omega
        refine up_good f _ p _ _ (by rw [swp_len]; exact hl) (by omega) (by omega) (fun c h1 h2 hcp => ?_) (fun c h1 h2 hcp hp0 => ?_)
        · rw [keyAt_swp ka kb, keyAt_swp ka kb, if_neg hcp]
          by_cases ec : c = cur
          · subst ec
            rw [ep, if_pos rfl, if_pos rfl]
            omega
          · rw [if_neg ec]
            by_cases e1 : (c - 1) / w = p
            · rw [if_pos e1]
              have := g c h1 h2 ec
              rw [e1] at this
              omega
            · rw [if_neg e1]
              by_cases e2 : (c - 1) / w = cur
              · rw [if_pos e2]
                exact up c h1 h2 e2 h0
              · rw [if_neg e2]
                exact g c h1 h2 ec
        · have hpp := par_lt (w := w) (c := p) (by omega)
          have hc1 := par_lt (w := w) h1
          have a := g p (by omega) (by omega) (by omega)
          rw [keyAt_swp ka kb, keyAt_swp ka kb, if_neg (by omega), if_neg (by omega), if_neg (by omega)]
          by_cases ec : c = cur
          · rw [if_pos ec]
            exact a
          · rw [if_neg ec]
            have b := g c h1 h2 ec
            rw [hcp] at b
            omega
      · rw [goUp_stay h0 hlt]
        intro c h1 h2
        by_cases ec : c = cur
        · subst ec
          exact Int.not_lt.mp hlt
        · exact g c h1 h2 ec
theorem swp_perm {ks : List Int} {a b : Nat} (ha : a < ks.length) (hb : b < ks.length) : (swp ks a b).Perm ks := by
  have e1 : keyAt ks a = ks[a] := by unfold keyAt; rw [List.getD_eq_getElem?_getD, List.getElem?_eq_getElem ha]; rfl
  have e2 : keyAt ks b = ks[b] := by unfold keyAt; rw [List.getD_eq_getElem?_getD, List.getElem?_eq_getElem hb]; rfl
  unfold swp
  rw [e1, e2]
  exact List.set_set_perm ha hb
theorem up_perm {w : Nat} : ∀ (f : Nat) (ks : List Int) (cur : Nat) (way : List Nat) (lk : Nat), cur < ks.length → ((goUp w f ks cur way lk).1).Perm ks
  | 0, ks, cur, way, lk, hc => List.Perm.refl _
  | f + 1, ks, cur, way, lk, hc => by
    by_cases h0 : cur = 0
    · subst h0
      rw [goUp_root]
    · have hp := par_lt (w := w) (c := cur) (by omega)
      by_cases hlt : keyAt ks cur < keyAt ks ((cur - 1) / w)
      · rw [goUp_go h0 hlt]
        exact (up_perm f _ _ _ _ (by rw [swp_len]; omega)).trans (swp_perm hc (by omega))
      · rw [goUp_stay h0 hlt]
theorem keyAt_app {ks : List Int} {k : Int} {p : Nat} (h : p < ks.length) : keyAt (ks ++ [k]) p = keyAt ks p := by
  unfold keyAt
  rw [List.getD_eq_getElem?_getD, List.getD_eq_getElem?_getD, List.getElem?_append_left h]
theorem push_ok {w : Nat} {ks : List Int} {k : Int} (hl : ks.length < 12) (h : HeapL ks.length w ks) : HeapL (ks.length + 1) w (goUp w 20 (ks ++ [k]) ks.length [ks.length] 0).1 ∧ ((goUp w 20 (ks ++ [k]) ks.length [ks.length] 0).1).Perm (ks ++ [k]) := by
  have hl2 : (ks ++ [k]).length = ks.length + 1 := by rw [List.length_append]; rfl
  refine ⟨up_good 20 _ _ _ _ hl2 (by omega) (by omega) (fun c h1 h2 hc => ?_) (fun c h1 h2 hc _ => ?_), up_perm 20 _ _ _ _ (by omega)⟩
  · have := par_lt (w := w) h1
    rw [keyAt_app (by omega), keyAt_app (by omega)]
    exact h c h1 (by omega)
  · have := par_lt (w := w) h1
    omega
theorem m1 : ¬ (("row" : Str) = "way") := by decide +kernel
theorem kid_in {n w i j : Nat} (hw : 1 ≤ w) (h : j ∈ kidL n w i) : i < j ∧ j < n := by
  unfold kidL at h
  obtain ⟨k, hk, rfl⟩ := List.mem_map.mp h
  obtain ⟨h1, h2⟩ := List.mem_filter.mp hk
  have h1 := List.mem_range.mp h1
  have h2 := of_decide_eq_true h2
  have : k / w ≤ k := Nat.div_le_self _ _
  omega
theorem putRow_len {k : Int} {ks : List Int} (h : 1 ≤ ks.length) : (putRow k ks).length = ks.length := by
  unfold putRow
  rw [List.length_cons, List.length_drop]
  omega
theorem down_res (n w : Nat) : ∀ f ks p way lk, (goDown n w f ks p way lk).1.length = ks.length
  | 0, ks, p, way, lk => rfl
  | f + 1, ks, p, way, lk => by
    unfold goDown
    split
    · rfl
    · split
      · rw [down_res n w f, swp_len]
      · rfl
theorem m2 : ¬ (("row" : Str) = "looks") := by decide +kernel
theorem m3 : ¬ (("way" : Str) = "looks") := by decide +kernel
theorem mem_kid {n w p c : Nat} : c ∈ kidL n w p ↔ 1 ≤ c ∧ c < n ∧ (c - 1) / w = p := by
  unfold kidL
  rw [List.mem_map]
  constructor
  · rintro ⟨k, hk, rfl⟩
    obtain ⟨h1, h2⟩ := List.mem_filter.mp hk
    have h1 := List.mem_range.mp h1
    have h2 := of_decide_eq_true h2
    exact ⟨by omega, by omega, by rw [Nat.add_sub_cancel]; exact h2⟩
  · rintro ⟨h1, h2, h3⟩
    refine ⟨c - 1, List.mem_filter.mpr ⟨List.mem_range.mpr (by omega), decide_eq_true h3⟩, by omega⟩
theorem least_of {ks : List Int} {l : List Nat} {j : Nat} (h : Cl.FirstLeast (fun i => keyAt ks (l.getD i 0)) l.length j) : l.getD j 0 = leastC ks l := by
  have h0 := h.1
  obtain ⟨n, en⟩ : ∃ n, l.length = n + 1 := ⟨l.length - 1, by omega⟩
  have b := Cl.best_is (fun i => keyAt ks (l.getD i 0)) n
  rw [← en] at b
  unfold leastC
  rw [Cl.first_one h b, show l.length - 1 = n by omega]
theorem least_mem {ks : List Int} {l : List Nat} (h : l ≠ []) : leastC ks l ∈ l := by
  obtain ⟨n, en⟩ : ∃ n, l.length = n + 1 := ⟨l.length - 1, by have := List.length_pos_iff.mpr h; omega⟩
  have b := Cl.best_is (fun i => keyAt ks (l.getD i 0)) n
  rw [← en] at b
  rw [← least_of b, List.getD_eq_getElem?_getD, List.getElem?_eq_getElem b.1]
  exact List.getElem_mem b.1
theorem goDown_leaf {n w f : Nat} {ks : List Int} {p : Nat} {way : List Nat} {lk : Nat} (h : kidL n w p = []) : goDown n w f ks p way lk = (ks, way, lk) := by
  cases f with
  | zero => rfl
  | succ f => rw [goDown, if_pos h]
theorem goDown_stay {n w f : Nat} {ks : List Int} {p : Nat} {way : List Nat} {lk : Nat} (h0 : kidL n w p ≠ []) (h : ¬ keyAt ks (leastC ks (kidL n w p)) < keyAt ks p) : goDown n w (f + 1) ks p way lk = (ks, way, lk + (kidL n w p).length) := by
  rw [goDown, if_neg h0, if_neg h]
theorem goDown_go {n w f : Nat} {ks : List Int} {p b : Nat} {way : List Nat} {lk : Nat} (h0 : kidL n w p ≠ []) (eb : leastC ks (kidL n w p) = b) (h : keyAt ks b < keyAt ks p) :
    goDown n w (f + 1) ks p way lk = goDown n w f (swp ks p b) b (way ++ [b]) (lk + (kidL n w p).length) := by
  rw [goDown, if_neg h0, eb, if_pos h]
theorem least_le {ks : List Int} {l : List Nat} {c : Nat} (h : c ∈ l) : keyAt ks (leastC ks l) ≤ keyAt ks c := by
  have hne : l ≠ [] := List.ne_nil_of_mem h
  obtain ⟨n, en⟩ : ∃ n, l.length = n + 1 := ⟨l.length - 1, by have := List.length_pos_iff.mpr hne; omega⟩
  have b := Cl.best_is (fun i => keyAt ks (l.getD i 0)) n
  rw [← en] at b
  obtain ⟨i, hi, e⟩ := List.mem_iff_getElem.mp h
  have this : keyAt ks (l.getD (PySem.argBest (fun i j => decide (keyAt ks (l.getD i 0) < keyAt ks (l.getD j 0))) n) 0) ≤ keyAt ks (l.getD i 0) := b.2.1 i hi
  rw [least_of b] at this
  have e2 : l.getD i 0 = c := by rw [List.getD_eq_getElem?_getD, List.getElem?_eq_getElem hi, ← e]; rfl
  rw [e2] at this
  exact this
/-- no key of a child is less -/
def goodAt (n w : Nat) (ks : List Int) (p : Nat) : Prop := ∀ c ∈ kidL n w p, keyAt ks p ≤ keyAt ks c
def GoodFrom (n w : Nat) (ks : List Int) (i : Nat) : Prop := ∀ p, i ≤ p → p < n → goodAt n w ks p
theorem down_good {n w i : Nat} (hw : 1 ≤ w) : ∀ (f : Nat) (ks : List Int) (cur : Nat) (way : List Nat) (lk : Nat), ks.length = n → i ≤ cur → cur < n → n - cur ≤ f →
    (∀ p, i ≤ p → p < n → p ≠ cur → goodAt n w ks p) → (∀ q, i ≤ q → q < n → cur ∈ kidL n w q → ∀ c ∈ kidL n w cur, keyAt ks q ≤ keyAt ks c) → GoodFrom n w (goDown n w f ks cur way lk).1 i
  | 0, ks, cur, way, lk, hl, hi, hc, hf, g, up => absurd hf (by omega)
  | f + 1, ks, cur, way, lk, hl, hi, hc, hf, g, up => by
    by_cases h0 : kidL n w cur = []
    · rw [goDown_leaf h0]
      intro p h1 h2
      by_cases e : p = cur
      · subst e
        intro c hc
        rw [h0] at hc
        cases hc
      · exact g p h1 h2 e
    · generalize eb : leastC ks (kidL n w cur) = b
      have hm : b ∈ kidL n w cur := eb ▸ least_mem h0
      have hle : ∀ c ∈ kidL n w cur, keyAt ks b ≤ keyAt ks c := fun c hc => eb ▸ least_le hc
      obtain ⟨b1, b2⟩ := kid_in hw hm
      by_cases hlt : keyAt ks b < keyAt ks cur
      · rw [goDown_go h0 eb hlt]
        have ka : cur < ks.length := by omega
        have kb : b < ks.length := by omega
        refine down_good hw f _ b _ _ (by rw [swp_len]; exact hl) (by omega) b2 (by omega) (fun p h1 h2 hp c hcp => ?_) (fun q h1 h2 hq c hcb => ?_)
        · rw [keyAt_swp ka kb, keyAt_swp ka kb, if_neg hp]
          obtain ⟨m1, m2, m3⟩ := mem_kid.mp hcp
          by_cases e : p = cur
          · subst e
            rw [if_pos rfl]
            by_cases ec : c = b
            · rw [if_pos ec]
              omega
            · have := (kid_in hw hcp).1
              rw [if_neg ec, if_neg (by omega)]
              exact hle c hcp
          · rw [if_neg e]
            by_cases ec : c = b
            · subst ec
              exact absurd ((mem_kid.mp hm).2.2.symm.trans m3) (fun z => e z.symm)
            · rw [if_neg ec]
              by_cases ec2 : c = cur
              · subst ec2
                rw [if_pos rfl]
                exact up p h1 h2 hcp b hm
              · rw [if_neg ec2]
                exact g p h1 h2 e c hcp
        · have eq : q = cur := (mem_kid.mp hq).2.2.symm.trans (mem_kid.mp hm).2.2
          subst eq
          have := (kid_in hw hcb).1
          rw [keyAt_swp ka kb, keyAt_swp ka kb, if_neg (by omega), if_pos rfl, if_neg (by omega), if_neg (by omega)]
          exact g b (by omega) b2 (by omega) c hcb
      · rw [goDown_stay h0 (by rw [eb]; exact hlt)]
        intro p h1 h2
        by_cases e : p = cur
        · subst e
          intro c hc
          exact Int.le_trans (Int.not_lt.mp hlt) (hle c hc)
        · exact g p h1 h2 e
theorem down_perm {n w : Nat} (hw : 1 ≤ w) : ∀ (f : Nat) (ks : List Int) (cur : Nat) (way : List Nat) (lk : Nat), ks.length = n → cur < n → ((goDown n w f ks cur way lk).1).Perm ks
  | 0, ks, cur, way, lk, hl, hc => List.Perm.refl _
  | f + 1, ks, cur, way, lk, hl, hc => by
    by_cases h0 : kidL n w cur = []
    · rw [goDown_leaf h0]
    · obtain ⟨b1, b2⟩ := kid_in hw (least_mem (ks := ks) h0)
      by_cases hlt : keyAt ks (leastC ks (kidL n w cur)) < keyAt ks cur
      · rw [goDown_go h0 rfl hlt]
        exact (down_perm hw f _ _ _ _ (by rw [swp_len]; exact hl) b2).trans (swp_perm (by omega) (by omega))
      · rw [goDown_stay h0 hlt]
theorem good_heapL {n w : Nat} {ks : List Int} (h : GoodFrom n w ks 0) : HeapL n w ks := fun c h1 h2 =>
  h ((c - 1) / w) (Nat.zero_le _) (by have := par_lt (w := w) h1; omega) c (mem_kid.mpr ⟨h1, h2, rfl⟩)
theorem head_cons {ks : List Int} (h : 1 ≤ ks.length) : ks = ks.getD 0 0 :: ks.drop 1 := by
  cases ks with
  | nil => exact absurd h (by decide)
  | cons a b => rfl
theorem put_ok {w : Nat} (hw : 1 ≤ w) {k : Int} {ks : List Int} (hl : ks.length ≤ 12) (hp : 1 ≤ ks.length) (h : HeapL ks.length w ks) :
    (goDown ks.length w 20 (putRow k ks) 0 [0] 0).1.length = ks.length ∧ HeapL ks.length w (goDown ks.length w 20 (putRow k ks) 0 [0] 0).1 ∧ (ks.getD 0 0 :: (goDown ks.length w 20 (putRow k ks) 0 [0] 0).1).Perm (k :: ks) := by
  have hlp := putRow_len (k := k) hp
  have key : ∀ p, 1 ≤ p → keyAt (putRow k ks) p = keyAt ks p := fun p h1 => by
    unfold keyAt putRow
    obtain ⟨p, rfl⟩ : ∃ p', p = p' + 1 := ⟨p - 1, by omega⟩
    rw [List.getD_eq_getElem?_getD, List.getD_eq_getElem?_getD, List.getElem?_cons_succ, List.getElem?_drop, Nat.add_comm 1 p]
  refine ⟨by rw [down_res]; exact hlp, good_heapL (down_good hw 20 _ 0 _ _ hlp (Nat.le_refl _) (by omega) (by omega) (fun p _ hp2 hp0 c hc => ?_) (fun q _ _ hq => ?_)), ?_⟩
  · obtain ⟨m1, m2, m3⟩ := mem_kid.mp hc
    rw [key p (by omega), key c m1]
    have := h c m1 m2
    rw [m3] at this
    exact this
  · have := (kid_in hw hq).1
    omega
  · refine (List.Perm.cons _ (down_perm hw 20 _ _ _ _ hlp (by omega))).trans ?_
    refine (List.Perm.swap _ _ _).trans ?_
    exact List.Perm.cons _ (List.Perm.of_eq (head_cons hp).symm)
theorem see_len {r w : Nat} {k : Int} {ks : List Int} (hw : 1 ≤ w ∧ w ≤ 4) (hr : 1 ≤ r ∧ r ≤ 12) (g : KG r w ks) : (seeK r w k ks).length = if ks.length < r then ks.length + 1 else ks.length := by
  unfold seeK
  by_cases h : ks.length < r
  · rw [if_pos h, if_pos h, (push_ok (by omega) g.hp).2.length_eq, List.length_append]
    rfl
  · rw [if_neg h, if_neg h]
    by_cases h2 : ks.getD 0 0 < k
    · rw [if_pos h2]
      exact (put_ok hw.1 (k := k) (by have := g.le; omega) (by omega) g.hp).1
    · rw [if_neg h2]
theorem see_good {r w : Nat} {k : Int} {ks : List Int} (hw : 1 ≤ w ∧ w ≤ 4) (hr : 1 ≤ r ∧ r ≤ 12) (hk : -1000000000 ≤ k ∧ k ≤ 1000000000) (g : KG r w ks) : KG r w (seeK r w k ks) := by
  have hl := see_len (k := k) hw hr g
  refine ⟨?_, ?_, ?_⟩
  · rw [hl]
    have := g.le
    split <;> omega
  · intro z hz
    unfold seeK at hz
    by_cases h : ks.length < r
    · rw [if_pos h] at hz
      rcases List.mem_append.mp ((push_ok (by omega) g.hp).2.mem_iff.mp hz) with h2 | h2
      · exact g.bd z h2
      · rw [List.mem_singleton.mp h2]
        exact hk
    · rw [if_neg h] at hz
      by_cases h2 : ks.getD 0 0 < k
      · rw [if_pos h2] at hz
        rcases List.mem_cons.mp ((put_ok hw.1 (k := k) (by have := g.le; omega) (by omega) g.hp).2.2.mem_iff.mp (List.mem_cons_of_mem _ hz)) with h3 | h3
        · rw [h3]
          exact hk
        · exact g.bd z h3
      · rw [if_neg h2] at hz
        exact g.bd z hz
  · rw [hl]
    unfold seeK
    by_cases h : ks.length < r
    · rw [if_pos h, if_pos h]
      exact (push_ok (by omega) g.hp).1
    · rw [if_neg h, if_neg h]
      by_cases h2 : ks.getD 0 0 < k
      · rw [if_pos h2]
        exact (put_ok hw.1 (k := k) (by have := g.le; omega) (by omega) g.hp).2.1
      · rw [if_neg h2]
        exact g.hp
theorem kp_good {r w : Nat} {keys : List Int} (hw : 1 ≤ w ∧ w ≤ 4) (hr : 1 ≤ r ∧ r ≤ 12) (hb : ∀ z ∈ keys, -1000000000 ≤ z ∧ z ≤ 1000000000) : ∀ i, i ≤ keys.length → KG r w (kpL r w keys i).1
  | 0, _ => KG.nil
  | i + 1, hi => see_good hw hr (hb _ (keyAt_mem (by omega))) (kp_good hw hr hb i (by omega))
theorem el_key {l : List Int} {i : Nat} (h : i < l.length) : l[i] = keyAt l i := by
  unfold keyAt
  rw [List.getD_eq_getElem?_getD, List.getElem?_eq_getElem h]
  rfl
theorem root_min {n w : Nat} {ks : List Int} (h : HeapL n w ks) : ∀ m c, c ≤ m → c < n → keyAt ks 0 ≤ keyAt ks c
  | 0, c, hm, _ => by rw [show c = 0 by omega]; exact Int.le_refl _
  | m + 1, c, hm, hc => by
    by_cases h0 : c = 0
    · rw [h0]
      exact Int.le_refl _
    · have hd := par_lt (w := w) (show 1 ≤ c by omega)
      exact Int.le_trans (root_min h m ((c - 1) / w) (by omega) (by omega)) (h c (by omega) hc)
theorem root_le {w : Nat} {ks : List Int} (h : HeapL ks.length w ks) {z : Int} (hz : z ∈ ks) : keyAt ks 0 ≤ z := by
  obtain ⟨j, hj, e⟩ := List.mem_iff_getElem.mp hz
  rw [← e, el_key hj]
  exact root_min h j j (Nat.le_refl _) hj
end
end Tw

set_option Elab.async false
set_option linter.all false
set_option maxRecDepth 100000
set_option maxHeartbeats 2000000
namespace Tw
open PySem PySem.Spec PyProof.Rows L2
section
variable {P : Program} {w : World} {K : PySem.W.Frag} {mg : Str → Option Value} {base : Heap} {A : Ad}
open LamX (ExtN Tabs TabS)
theorem see_push {r w : Nat} {k : Int} {ks : List Int} (hr : r ≤ 12) (g : KG r w ks) (hl : ks.length < r) : (seeK r w k ks).Perm (ks ++ [k]) := by
  unfold seeK
  rw [if_pos hl]
  exact (push_ok (by omega) g.hp).2
theorem see_put {r w : Nat} {k : Int} {ks : List Int} (hw : 1 ≤ w) (hr : 1 ≤ r ∧ r ≤ 12) (g : KG r w ks) (hl : ¬ ks.length < r) (hk : keyAt ks 0 < k) : (keyAt ks 0 :: seeK r w k ks).Perm (k :: ks) := by
  unfold seeK
  rw [if_neg hl, if_pos (show ks.getD 0 0 < k from hk)]
  exact (put_ok hw (k := k) (by have := g.le; omega) (by omega) g.hp).2.2
theorem see_not {r w : Nat} {k : Int} {ks : List Int} (hl : ¬ ks.length < r) (hk : ¬ keyAt ks 0 < k) : seeK r w k ks = ks := by
  unfold seeK
  rw [if_neg hl, if_neg (show ¬ ks.getD 0 0 < k from hk)]
theorem most_step {r w : Nat} {k : Int} {ks seen : List Int} (hw : 1 ≤ w ∧ w ≤ 4) (hr : 1 ≤ r ∧ r ≤ 12) (g : KG r w ks) (h : Most r seen ks) : Most r (seen ++ [k]) (seeK r w k ks) := by
  obtain ⟨hl, rest, hp, ho⟩ := h
  have hpl := hp.length_eq
  rw [List.length_append] at hpl
  refine ⟨?_, ?_⟩
  · rw [see_len hw hr g, List.length_append, List.length_singleton]
    split <;> omega
  by_cases h1 : ks.length < r
  · have he : rest = [] := List.length_eq_zero_iff.mp (by omega)
    subst he
    refine ⟨[], ?_, fun x hx => absurd hx (List.not_mem_nil)⟩
    exact (see_push hr.2 g h1).trans (hp.append_right _)
  · have h0 : keyAt ks 0 ∈ ks := keyAt_mem (by omega)
    by_cases h2 : keyAt ks 0 < k
    · have hsp := see_put hw.1 hr g h1 h2
      refine ⟨keyAt ks 0 :: rest, ?_, fun x hx y hy => ?_⟩
      · have e1 : (keyAt ks 0 :: rest ++ seeK r w k ks).Perm (rest ++ keyAt ks 0 :: seeK r w k ks) := by
          rw [List.cons_append]
          exact List.perm_middle.symm
        have e2 : (rest ++ k :: ks).Perm (k :: (rest ++ ks)) := List.perm_middle
        have e3 : (k :: (rest ++ ks)).Perm (rest ++ ks ++ [k]) := List.perm_append_comm (l₁ := [k])
        exact e1.trans ((hsp.append_left rest).trans (e2.trans (e3.trans (hp.append_right _))))
      · have hy2 : y = k ∨ y ∈ ks := List.mem_cons.mp (hsp.mem_iff.mp (List.mem_cons_of_mem _ hy))
        have hx2 : x ≤ keyAt ks 0 := by
          rcases List.mem_cons.mp hx with e | e
          · rw [e]
            exact Int.le_refl _
          · exact ho x e _ h0
        rcases hy2 with e | e
        · rw [e]
          omega
        · exact Int.le_trans hx2 (root_le g.hp e)
    · rw [see_not h1 h2]
      refine ⟨k :: rest, ?_, fun x hx y hy => ?_⟩
      · rw [List.cons_append]
        exact (List.perm_append_comm (l₁ := [k])).trans (hp.append_right _)
      · rcases List.mem_cons.mp hx with e | e
        · rw [e]
          exact Int.le_trans (by omega) (root_le g.hp hy)
        · exact ho x e y hy
theorem kp_most {r w : Nat} {keys : List Int} (hw : 1 ≤ w ∧ w ≤ 4) (hr : 1 ≤ r ∧ r ≤ 12) (hb : ∀ z ∈ keys, -1000000000 ≤ z ∧ z ≤ 1000000000) : ∀ i, i ≤ keys.length → Most r (keys.take i) (kpL r w keys i).1
  | 0, _ => ⟨by rw [List.take_zero]; show 0 = min r 0; omega, [], by rw [List.take_zero]; exact List.Perm.refl _, fun x hx => absurd hx (List.not_mem_nil)⟩
  | i + 1, hi => by
    rw [← List.take_append_getElem (show i < keys.length by omega), el_key]
    exact most_step hw hr (kp_good hw hr hb i (by omega)) (kp_most hw hr hb i (by omega))
end
end Tw

set_option Elab.async false
set_option linter.all false
set_option maxRecDepth 100000
set_option maxHeartbeats 2000000
namespace Tw
open PySem PySem.Spec PyProof.Rows L2
section
variable {P : Program} {w : World} {K : PySem.W.Frag} {mg : Str → Option Value} {base : Heap} {A : Ad}
open LamX (ExtN Tabs TabS)
/-! who comes: Most -/
theorem ent_iff {r : Nat} {seen ks : List Int} {k m : Int} (hr : 1 ≤ r) (h : Most r seen ks) (hk : k ∉ seen) (hm : r ≤ ks.length → m ∈ ks ∧ ∀ z ∈ ks, m ≤ z) : (ks.length < r ∨ m < k) ↔ (seen.filter fun y => decide (k < y)).length < r := by
  obtain ⟨hl, rest, hp, ho⟩ := h
  have hf : (seen.filter fun y => decide (k < y)).length = (rest.filter fun y => decide (k < y)).length + (ks.filter fun y => decide (k < y)).length := by
    rw [← (hp.filter _).length_eq, List.filter_append, List.length_append]
  by_cases hlt : ks.length < r
  · refine ⟨fun _ => ?_, fun _ => .inl hlt⟩
    have := List.length_filter_le (fun y => decide (k < y)) seen
    omega
  · obtain ⟨hm1, hm2⟩ := hm (by omega)
    constructor
    · intro h1
      have hmk : m < k := h1.resolve_left hlt
      have e0 : rest.filter (fun y => decide (k < y)) = [] := List.filter_eq_nil_iff.mpr fun x hx z => by
        have := ho x hx m hm1
        have := of_decide_eq_true z
        omega
      have : (ks.filter fun y => decide (k < y)).length < ks.length := by
        rcases Nat.lt_or_ge (ks.filter fun y => decide (k < y)).length ks.length with z | z
        · exact z
        · have e := (List.filter_sublist (p := fun y => decide (k < y)) (l := ks)).eq_of_length_le z
          have := List.filter_eq_self.mp e m hm1
          have := of_decide_eq_true this
          omega
      rw [hf, e0, List.length_nil]
      omega
    · intro h1
      refine .inr ?_
      rcases Int.lt_or_le m k with z | z
      · exact z
      · exfalso
        have e : ks.filter (fun y => decide (k < y)) = ks := List.filter_eq_self.mpr fun y hy => decide_eq_true (by
          have h2 := hm2 y hy
          rcases Int.lt_or_le k y with q | q
          · exact q
          · exfalso
            have : y = k := by omega
            rw [this] at hy
            exact hk (hp.mem_iff.mp (List.mem_append.mpr (.inr hy))))
        rw [e] at hf
        omega
/-- what is kept, sorted: the last r of what there was and the new one -/
theorem most_snoc {r : Nat} {seen ks s : List Int} {k m : Int} (hr : 1 ≤ r) (h : Most r seen ks) (hm : r ≤ ks.length → m ∈ ks ∧ ∀ z ∈ ks, m ≤ z) (hc : ks.length < r ∨ m < k) (hs : s.Perm (ks ++ [k])) (ha : s.Pairwise (· ≤ ·)) :
    Most r (seen ++ [k]) (s.drop (s.length - r)) := by
  obtain ⟨hl, rest, hp, ho⟩ := h
  have hsl := hs.length_eq
  have hpl := hp.length_eq
  rw [List.length_append] at hpl
  rw [List.length_append, List.length_singleton] at hsl
  by_cases hlt : ks.length < r
  · rw [show s.length - r = 0 by omega, List.drop_zero]
    refine ⟨by rw [List.length_append, List.length_singleton]; omega, rest, ?_, fun x hx y hy => ?_⟩
    · exact (List.Perm.append_left rest hs).trans (by rw [← List.append_assoc]; exact hp.append_right _)
    · have e : rest = [] := List.length_eq_zero_iff.mp (by omega)
      rw [e] at hx
      cases hx
  · obtain ⟨hm1, hm2⟩ := hm (by omega)
    have hmk := hc.resolve_left hlt
    rw [show s.length - r = 1 by omega]
    cases s with
    | nil => rw [List.length_nil] at hsl; omega
    | cons a t =>
      rw [List.drop_succ_cons, List.drop_zero]
      rw [List.length_cons] at hsl
      refine ⟨by rw [List.length_append, List.length_singleton]; omega, a :: rest, ?_, fun x hx y hy => ?_⟩
      · refine List.Perm.trans ?_ (hp.append_right [k])
        rw [List.append_assoc]
        exact (List.perm_middle (l₁ := rest) (a := a) (l₂ := t)).symm.trans (hs.append_left rest)
      · rcases List.mem_cons.mp hx with e | e
        · rw [e]
          exact (List.pairwise_cons.mp ha).1 y hy
        · rcases List.mem_append.mp (hs.mem_iff.mp (List.mem_cons_of_mem a hy)) with z | z
          · exact ho x e y z
          · rw [List.mem_singleton.mp z]
            have := ho x e m hm1
            omega
theorem most_same {r : Nat} {seen ks : List Int} {k m : Int} (hr : 1 ≤ r) (h : Most r seen ks) (hm : r ≤ ks.length → m ∈ ks ∧ ∀ z ∈ ks, m ≤ z) (hc : ¬ (ks.length < r ∨ m < k)) : Most r (seen ++ [k]) ks := by
  obtain ⟨hl, rest, hp, ho⟩ := h
  have h1 : ¬ ks.length < r := fun z => hc (.inl z)
  have h2 : ¬ m < k := fun z => hc (.inr z)
  obtain ⟨hm1, hm2⟩ := hm (by omega)
  refine ⟨by rw [List.length_append, List.length_singleton]; omega, k :: rest, ?_, fun x hx y hy => ?_⟩
  · rw [List.cons_append]
    exact (List.perm_append_comm (l₁ := [k])).trans (hp.append_right _)
  · rcases List.mem_cons.mp hx with e | e
    · rw [e]
      have := hm2 y hy
      omega
    · exact ho x e y hy
/-- numbers that enter, of so many -/
def entN (r : Nat) (p : List Nat) (i : Nat) : Nat := cntW r ((codeL p).take i)
theorem entN_succ {r : Nat} {p : List Nat} {i : Nat} (h : i < p.length) : entN r p (i + 1) = entN r p i + wd r ((p.take i).filter fun y => decide (p.getD i 0 < y)).length := by
  unfold entN
  have hc : i < (codeL p).length := by rw [codeL_len]; exact h
  rw [← List.take_append_getElem hc, codeL_at h]
  unfold cntW
  rw [List.map_append, List.sum_append, List.map_singleton, List.sum_singleton]
theorem natB_filter (k : Nat) : ∀ p : List Nat, ((natB p).filter fun y => decide ((k : Int) < y)).length = (p.filter fun y => decide (k < y)).length
  | [] => rfl
  | a :: p => by
    have ih := natB_filter k p
    show (List.filter _ ((a : Int) :: natB p)).length = _
    rw [List.filter_cons, List.filter_cons]
    by_cases z : k < a
    · rw [if_pos (decide_eq_true (by omega)), if_pos (decide_eq_true z), List.length_cons, List.length_cons, ih]
    · rw [if_neg (by simp; omega), if_neg (by simpa using z), ih]
theorem natB_take (p : List Nat) (i : Nat) : (natB p).take i = natB (p.take i) := by unfold natB; rw [List.map_take]
/-- the keeper's number of changes is the code's -/
theorem kp_ent {r w : Nat} {p : List Nat} (hw : 1 ≤ w ∧ w ≤ 4) (hr : 1 ≤ r ∧ r ≤ 12) (hp : p.Perm (List.range p.length)) (hl : p.length ≤ 12) : ∀ i, i ≤ p.length → (kpL r w (natB p) i).2 = entN r p i
  | 0, _ => by
    unfold entN
    rw [List.take_zero]
    rfl
  | i + 1, hi => by
    have hb : ∀ z ∈ natB p, -1000000000 ≤ z ∧ z ≤ 1000000000 := fun z hz => by
      obtain ⟨x, hx, rfl⟩ := List.mem_map.mp hz
      have := List.mem_range.mp (hp.mem_iff.mp hx)
      have : (Int.ofNat x) = (x : Int) := rfl
      omega
    have hnl : (natB p).length = p.length := by unfold natB; rw [List.length_map]
    have g := kp_good hw hr hb i (by omega)
    have mo := kp_most hw hr hb i (by omega)
    have hnd : p.Nodup := hp.nodup_iff.mpr List.nodup_range
    have hkey : keyAt (natB p) i = ((p.getD i 0 : Nat) : Int) := by
      have e : (natB p)[i]? = some ((p[i]'(by omega) : Nat) : Int) := by
        unfold natB
        rw [List.getElem?_map, List.getElem?_eq_getElem (by omega)]
        rfl
      have e2 : p.getD i 0 = p[i]'(by omega) := by rw [List.getD_eq_getElem?_getD, List.getElem?_eq_getElem (by omega)]; rfl
      unfold keyAt
      rw [List.getD_eq_getElem?_getD, e, e2]
      rfl
    have hnot : keyAt (natB p) i ∉ (natB p).take i := by
      rw [natB_take, hkey]
      intro z
      obtain ⟨x, hx, e⟩ := List.mem_map.mp z
      have e : (x : Int) = ((p.getD i 0 : Nat) : Int) := e
      have e3 : x = p.getD i 0 := by omega
      have e2 : p.getD i 0 = p[i]'(by omega) := by rw [List.getD_eq_getElem?_getD, List.getElem?_eq_getElem (by omega)]; rfl
      rw [e3, e2] at hx
      obtain ⟨j, hj, ej⟩ := List.mem_iff_getElem.mp hx
      rw [List.getElem_take] at ej
      rw [List.length_take] at hj
      exact List.pairwise_iff_getElem.mp hnd j i (by omega) (by omega) (by omega) ej
    have hm : r ≤ (kpL r w (natB p) i).1.length → keyAt (kpL r w (natB p) i).1 0 ∈ (kpL r w (natB p) i).1 ∧ ∀ z ∈ (kpL r w (natB p) i).1, keyAt (kpL r w (natB p) i).1 0 ≤ z := fun hh => ⟨keyAt_mem (by omega), fun z hz => root_le g.hp hz⟩
    have it := ent_iff hr.1 mo hnot hm
    show (kpL r w (natB p) i).2 + (if comesK r (keyAt (natB p) i) (kpL r w (natB p) i).1 = true then 1 else 0) = _
    rw [kp_ent hw hr hp hl i (by omega), entN_succ (by omega)]
    congr 1
    unfold wd comesK
    rw [natB_take, hkey, natB_filter] at it
    rw [hkey]
    unfold keyAt at it
    by_cases z : ((p.take i).filter fun y => decide (p.getD i 0 < y)).length < r
    · rw [if_pos z, if_pos (decide_eq_true (it.mpr z))]
    · rw [if_neg z, if_neg (by rw [decide_eq_true_eq]; exact fun y => z (it.mp y))]

end
end Tw

set_option Elab.async false
set_option linter.all false
set_option maxRecDepth 100000
set_option maxHeartbeats 2000000
namespace Tw
open PySem PySem.Spec PyProof.Rows L2
section
variable {P : Program} {w : World} {K : PySem.W.Frag} {mg : Str → Option Value} {base : Heap} {A : Ad}
open LamX (ExtN Tabs TabS)
theorem b_cc (T : Tx K mg A) : L2.Binds K A.d_check_count ["count", "many"] [] := T.F_check_count.binds fun _ _ _ _ _ _ us hl => match us, hl with | [_, _], _ => rfl
theorem b_cm (T : Tx K mg A) : L2.Binds K A.d_check_many ["many"] [] := T.F_check_many.binds fun _ _ _ _ _ _ us hl => match us, hl with | [_], _ => rfl
theorem b_cr (T : Tx K mg A) : L2.Binds K A.d_check_room ["room"] [] := T.F_check_room.binds fun _ _ _ _ _ _ us hl => match us, hl with | [_], _ => rfl
/-- True just for ints -/
def spIs (K : PySem.W.Frag) : Sp := fun vs H Q _ => ∃ x : V, vs = [x] ∧
  ((∃ i, x = .int i ∧ Q (.bl true) H) ∨ (∃ n b1 b2, TyX K H x (.type n) ∧ kitB n "int" = some b1 ∧ kitB n "bool" = some b2 ∧ (b1 && !b2) = false ∧ Q (.bl false) H))
theorem ok_is (T : Tx K mg A) : FnOk P w K mg base CX0 1 A.f_is_integer A.d_is_integer ["thing"] (spIs K) := by
  refine T.F_is_integer.ok sc_is_integer (fun vs H Q E h => ?_) (fun cdv B outer s H vs Q E hr h => ?_)
  · obtain ⟨x, rfl, _⟩ := h
    rfl
  · obtain ⟨x, rfl, h⟩ := h
    refine ⟨_, pss_one (ps_ret (pe_and (pe_callB call_isi (by rfl) T.g_isinstance (by decide +kernel) (pa_cons (pv 0) (pa_cons (pe_bltn (v := .ty "int") (by rfl) T.g_int (by decide +kernel) rfl) pa_nil)))
      (pe_one (pe_not (pe_callB call_isi (by rfl) T.g_isinstance (by decide +kernel) (pa_cons (pv 0) (pa_cons (pe_bltn (v := .ty "bool") (by rfl) T.g_bool (by decide +kernel) rfl) pa_nil))))))), ?_⟩
    rcases h with ⟨i, rfl, q⟩ | ⟨n, b1, b2, ty, k1, k2, hb, q⟩
    · refine ⟨_, rfl, _, _, .type "int", .type "int", true, rfl, .ty "int", .base (.int i), kit_ty (by decide +kernel), true, rfl, iteT ?_⟩
      exact ⟨_, rfl, _, _, .type "int", .type "bool", false, rfl, .ty "bool", .base (.int i), kit_ty (by decide +kernel), false, rfl, q⟩
    · refine ⟨_, rfl, _, _, .type n, .type "int", b1, rfl, .ty "int", ty, kit_ty k1, b1, rfl, ?_⟩
      cases b1 with
      | false => exact iteF q
      | true =>
        cases b2 with
        | false => cases hb
        | true => exact iteT ⟨_, rfl, _, _, .type n, .type "bool", true, rfl, .ty "bool", ty, kit_ty k2, true, rfl, q⟩
theorem b_is (T : Tx K mg A) : L2.Binds K A.d_is_integer ["thing"] [] := T.F_is_integer.binds fun _ _ _ _ _ _ us hl => match us, hl with | [_], _ => rfl
/-- True just for ints within; other things by their class -/
def spII (K : PySem.W.Frag) : Sp := fun vs H Q _ => ∃ (x : V) (a b : Int), vs = [x, .int a, .int b] ∧
  ((∃ i, x = .int i ∧ Q (.bl (decide (a ≤ i ∧ i ≤ b))) H) ∨ (∃ n b1 b2, TyX K H x (.type n) ∧ kitB n "int" = some b1 ∧ kitB n "bool" = some b2 ∧ (b1 && !b2) = false ∧ Q (.bl false) H))
theorem ok_ii (T : Tx K mg A) : FnOk P w K mg base CX0 2 A.f_is_integer_from A.d_is_integer_from ["thing", "least", "greatest"] (spII K) := by
  refine T.F_is_integer_from.ok sc_is_integer_from (fun vs H Q E h => ?_) (fun cdv B outer s H vs Q E hr h => ?_)
  · obtain ⟨x, a, b, rfl, _⟩ := h
    rfl
  · obtain ⟨x, a, b, rfl, h⟩ := h
    refine ⟨_, pss_one (ps_ret (pe_and (pe_call (ok_is T) hr (by rfl) T.m_is_integer T.F_is_integer.kp (b_is T) .nil pass0 (pa_cons (pv 0) pa_nil))
        (pe_one (pe_chain op_le op_le (pv 1) (pv 0) (pv 2))))), ?_⟩
    rcases h with ⟨i, rfl, q⟩ | h
    · refine ⟨_, rfl, _, rfl, .inl ⟨i, rfl, true, rfl, iteT ?_⟩⟩
      refine ⟨_, rfl, _, rfl, _, _, rfl, rfl, _, rfl, ?_⟩
      by_cases h1 : a ≤ i
      · rw [decide_eq_true h1]
        refine iteT ⟨_, rfl, _, _, rfl, rfl, ?_⟩
        have e : decide (a ≤ i ∧ i ≤ b) = decide (i ≤ b) := by simp [h1]
        rw [e] at q
        exact q
      · rw [decide_eq_false h1]
        have e : decide (a ≤ i ∧ i ≤ b) = false := by simp [h1]
        rw [e] at q
        exact iteF q
    · obtain ⟨n, b1, b2, ty, k1, k2, hb, q⟩ := h
      exact ⟨_, rfl, _, rfl, .inr ⟨n, b1, b2, ty, k1, k2, hb, false, rfl, iteF q⟩⟩
theorem b_ii (T : Tx K mg A) : L2.Binds K A.d_is_integer_from ["thing", "least", "greatest"] [] := T.F_is_integer_from.binds fun _ _ _ _ _ _ us hl => match us, hl with | [_, _, _], _ => rfl
def spCc : Sp := fun vs H Q _ => ∃ i n : Nat, vs = [.int i, .int n] ∧ i ≤ n ∧ Q .non H
theorem ok_cc (T : Tx K mg A) : FnOk P w K mg base CX0 3 A.f_check_count A.d_check_count ["count", "many"] spCc := by
  refine T.F_check_count.ok sc_check_count (fun vs H Q E h => ?_) (fun cdv B outer s H vs Q E hr h => ?_)
  · obtain ⟨i, n, rfl, _⟩ := h
    rfl
  · obtain ⟨i, n, rfl, hi, q⟩ := h
    refine ⟨_, (pss_one (ps_if (pt_not (pt_val (pe_call (ok_ii T) (hr.mono (by decide)) (by rfl) T.m_is_integer_from T.F_is_integer_from.kp (b_ii T) .nil pass0 (pa_cons (pv 0) (pa_cons pe_int (pa_cons (pv 1) pa_nil)))))) (pss_one ps_never) pss_nil)), ?_⟩
    refine ⟨_, rfl, _, rfl, _, _, _, rfl, .inl ⟨i, rfl, _, rfl, ?_⟩⟩
    rw [decide_eq_true (show (0 : Int) ≤ (i : Nat) ∧ ((i : Nat) : Int) ≤ (n : Nat) by omega)]
    exact iteF q
theorem cst {x : Str} {n : Int} (h : mg x = some (.int n 0) ∨ ∃ t, mg x = some (.int n t)) : ∃ t, mg x = some (.int n t) := h.elim (fun e => ⟨0, e⟩) id
def spCm : Sp := fun vs H Q _ => ∃ i : Int, vs = [.int i] ∧ (0 ≤ i ∧ i ≤ 12) ∧ Q .non H
theorem ok_cm (T : Tx K mg A) : FnOk P w K mg base CX0 3 A.f_check_many A.d_check_many ["many"] spCm := by
  refine T.F_check_many.ok sc_check_many (fun vs H Q E h => ?_) (fun cdv B outer s H vs Q E hr h => ?_)
  · obtain ⟨i, rfl, _⟩ := h
    rfl
  · obtain ⟨i, rfl, hi, q⟩ := h
    obtain ⟨t, hg⟩ := cst T.c_MOST_PLACES
    refine ⟨_, pss_one (ps_if (pt_not (pt_val (pe_call (ok_ii T) hr (by rfl) T.m_is_integer_from T.F_is_integer_from.kp (b_ii T) .nil pass0
      (pa_cons (pv 0) (pa_cons pe_int (pa_cons (pe_glob (by rfl) hg (relI _ _)) pa_nil)))))) (pss_one ps_never) pss_nil), ?_⟩
    refine ⟨_, rfl, _, _, _, rfl, .inl ⟨i, rfl, _, rfl, ?_⟩⟩
    rw [decide_eq_true hi]
    exact iteF q
def spCr : Sp := fun vs H Q _ => ∃ r : Nat, vs = [.int r] ∧ (1 ≤ r ∧ r ≤ 12) ∧ Q .non H
theorem ok_cr (T : Tx K mg A) : FnOk P w K mg base CX0 3 A.f_check_room A.d_check_room ["room"] spCr := by
  refine T.F_check_room.ok sc_check_room (fun vs H Q E h => ?_) (fun cdv B outer s H vs Q E hr h => ?_)
  · obtain ⟨r, rfl, _⟩ := h
    rfl
  · obtain ⟨r, rfl, hi, q⟩ := h
    obtain ⟨t, hg⟩ := cst T.c_MOST_ROOM
    refine ⟨_, (pss_one (ps_if (pt_not (pt_val (pe_call (ok_ii T) (hr.mono (by decide)) (by rfl) T.m_is_integer_from T.F_is_integer_from.kp (b_ii T) .nil pass0 (pa_cons (pv 0) (pa_cons pe_int (pa_cons (pe_glob (by rfl) hg (relI _ _)) pa_nil)))))) (pss_one ps_never) pss_nil)), ?_⟩
    refine ⟨_, rfl, _, _, _, rfl, .inl ⟨r, rfl, _, rfl, ?_⟩⟩
    rw [decide_eq_true (show (1 : Int) ≤ (r : Nat) ∧ ((r : Nat) : Int) ≤ 12 by omega)]
    exact iteF q
end
end Tw

set_option Elab.async false
set_option linter.all false
set_option maxRecDepth 100000
set_option maxHeartbeats 2000000
namespace Tw
open PySem PySem.Spec PyProof.Rows L2
section
variable {P : Program} {w : World} {K : PySem.W.Frag} {mg : Str → Option Value} {base : Heap} {A : Ad}
open LamX (ExtN Tabs TabS)
/-! who comes, the ends: pe_dget2 -/
def efSc (b : List Stmt) : Scope := match b[4]? with
  | some (Stmt.For _ _ (Stmt.Expr (Expr.Call _ (Expr.DictComp _ _ _ s _ :: _) _ _) _ :: _) _ _) => s
  | _ => defScope s_is_integer
theorem wd_dec (r d : Nat) : (if decide ((d : Int) < (r : Int)) = true then (1 : Int) else 0) = (wd r d : Nat) := by
  unfold wd
  by_cases h : d < r
  · rw [if_pos h, if_pos (decide_eq_true (by omega))]
    rfl
  · rw [if_neg h, if_neg (by rw [decide_eq_true_eq]; omega)]
    rfl
def spDc : Sp := fun vs H Q _ => ∃ d r : Nat, vs = [.int d, .int r] ∧ Q (.int (wd r d : Nat)) H
theorem ok_dc (T : Tx K mg A) : FnOk P w K mg base CX0 1 A.f_does_come A.d_does_come ["digit", "room"] spDc := by
  refine T.F_does_come.ok sc_does_come (fun vs H Q E h => ?_) (fun cdv B outer s H vs Q E hr h => ?_)
  · obtain ⟨d, r, rfl, _⟩ := h
    rfl
  · obtain ⟨d, r, rfl, q⟩ := h
    have nd := sc_does_come.nd
    have hu := hr.units
    refine ⟨_, PSs.nox (pss_one (ps_ret (pe_callTy call_int1 (by rfl) T.g_int (by decide +kernel) (pa_cons (pe_cmpR op_lt (pv 0) (pv 1) (nomark _)) pa_nil)))), ?_⟩
    refine ⟨_, rfl, _, rfl, _, _, rfl, rfl, .inr ⟨_, rfl, ?_⟩⟩
    rw [wd_dec]
    exact q
theorem b_dc (T : Tx K mg A) : L2.Binds K A.d_does_come ["digit", "room"] [] := T.F_does_come.binds fun _ _ _ _ _ _ us hl => match us, hl with | [_, _], _ => rfl
/-- the numbers of ends, by what is to come -/
def eKf (f : Nat → Nat) (c : Nat) : Key × V := (.inl (c : Int), .int (f c : Nat))
def eK (n : Nat) (f : Nat → Nat) : List (Key × V) := (List.range n).map (eKf f)
theorem eK_len (n : Nat) (f : Nat → Nat) : (eK n f).length = n := by unfold eK; rw [List.length_map, List.length_range]
theorem eK_succ (n : Nat) (f : Nat → Nat) : eK (n + 1) f = eK n f ++ [eKf f n] := by unfold eK; rw [List.range_succ, List.map_append, List.map_singleton]
theorem eK_no (f : Nat → Nat) (k : Int) : ∀ n : Nat, (k < 0 ∨ (n : Int) ≤ k) → valV (eK n f) (.inl k) = none
  | 0, _ => rfl
  | n + 1, h => by
    rw [eK_succ]
    unfold eKf
    rw [valV_snoc _ _ _ _ (eK_no f (n : Int) n (.inr (Int.le_refl _))), if_neg (fun z => by injection z with z; omega)]
    exact eK_no f k n (by omega)
theorem eK_get (f : Nat → Nat) (c : Nat) : ∀ n, c < n → valV (eK n f) (.inl (c : Int)) = some (.int (f c : Nat))
  | 0, h => by omega
  | n + 1, h => by
    rw [eK_succ]
    unfold eKf
    rw [valV_snoc _ _ _ _ (eK_no f (n : Int) n (.inr (Int.le_refl _)))]
    by_cases e : c = n
    · rw [e, if_pos rfl]
    · rw [if_neg (fun z => by injection z with z; omega)]
      exact eK_get f c n (by omega)
theorem eK_put (f : Nat → Nat) (n : Nat) : putK (eK n f) (.inl (n : Int)) (.int (f n : Nat)) = eK (n + 1) f := by
  rw [putK_new _ (eK_no f (n : Int) n (.inr (Int.le_refl _))), eK_succ]
  rfl
def ewN (r d c : Nat) (f : Nat → Nat) : Nat := if wd r d ≤ c then f (c - wd r d) else 0
def spEw : Sp := fun vs H Q _ => ∃ (a d r c n : Nat) (f : Nat → Nat), vs = [.ref a, .int d, .int r, .int c] ∧ H a = some (.dK (eK n f)) ∧ c < n ∧ Q (.int (ewN r d c f : Nat)) H
theorem ok_ew (T : Tx K mg A) : FnOk P w K mg base CX0 2 A.f_ends_with A.d_ends_with ["later", "digit", "room", "coming"] spEw := by
  refine T.F_ends_with.ok sc_ends_with (fun vs H Q E h => ?_) (fun cdv B outer s H vs Q E hr h => ?_)
  · obtain ⟨a, d, r, c, n, f, rfl, _⟩ := h
    rfl
  · obtain ⟨a, d, r, c, n, f, rfl, ea, hc, q⟩ := h
    have nd := sc_ends_with.nd
    have hd1 := Nat.lt_of_le_of_lt (Nat.add_le_add_left (show 1 ≤ 64 by decide) _) hr.units
    refine ⟨_, PSs.nox (pss_one (ps_ret (pe_dget2 hd1 (pv 0) (pe_op op_sub (pv 3) (pe_call (ok_dc T) (hr.mono (by decide)) (by rfl) T.m_does_come T.F_does_come.kp (b_dc T) .nil pass0 (pa_cons (pv 1) (pa_cons (pv 2) pa_nil)))) pe_int ⟨by rfl, by rfl, by rfl, by rfl⟩))), ?_⟩
    refine ⟨_, rfl, a, rfl, .inl ⟨_, .inl ea⟩, _, rfl, _, rfl, _, rfl, d, r, rfl, ?_⟩
    refine ⟨_, _, rfl, rfl, valV (eK n f) (.inl ((c : Int) - (wd r d : Nat))), DGet.k (k := .inl ((c : Int) - (wd r d : Nat))) ea, ?_⟩
    have e : (valV (eK n f) (.inl ((c : Int) - (wd r d : Nat)))).getD (.int 0) = V.int (ewN r d c f : Nat) := by
      unfold ewN
      by_cases h : wd r d ≤ c
      · rw [if_pos h, show (c : Int) - (wd r d : Nat) = ((c - wd r d : Nat) : Int) by omega, eK_get f _ n (by omega)]
        rfl
      · rw [if_neg h, eK_no f _ n (by omega)]
        rfl
    rw [e]
    exact q
theorem b_ew (T : Tx K mg A) : L2.Binds K A.d_ends_with ["later", "digit", "room", "coming"] [] := T.F_ends_with.binds fun _ _ _ _ _ _ us hl => match us, hl with | [_, _, _, _], _ => rfl
theorem map_sum_int (f : Nat → Nat) : ∀ n, (((List.range n).map fun d => ((f d : Nat) : Int)).sum) = (((List.range n).map f).sum : Nat)
  | 0 => rfl
  | n + 1 => by
    rw [List.range_succ, List.map_append, List.map_append, List.sum_append, List.sum_append, map_sum_int f n, Int.natCast_add]
    congr 1
theorem ew_end (r a k c : Nat) : (fun d => ewN r d c (endE r (a + 1) k)) = blkE r a k c := by
  funext d
  rfl
/-- the ends, from the last place on -/
structure Ends (r n : Nat) (H : Hp) (as : List Addr) (j : Nat) : Prop where
  len : as.length = j + 1
  it : ∀ (i : Nat) (a : Addr), as[i]? = some a → H a = some (.dK (eK (n + 1) (endE r (n - i) i)))
def spEf : Sp := fun vs H Q _ => ∃ n r c0 : Nat, vs = [.int n, .int r, .int c0] ∧ n ≤ 12 ∧ (1 ≤ r ∧ r ≤ 12) ∧ c0 ≤ n ∧
  ∀ (H' : Hp) (q : Addr) (as : List Addr), Same H H' → H q = none → H' q = some (.lst (as.reverse.map V.ref)) → Ends r n H' as n → Q (.ref q) H'
theorem ok_ef (T : Tx K mg A) : FnOk P w K mg base CX0 5 A.f_ends_for A.d_ends_for ["many", "room", "number"] spEf := by
  refine T.F_ends_for.ok sc_ends_for (fun vs H Q E h => ?_) (fun cdv B outer s H vs Q E hr h => ?_)
  · obtain ⟨n, r, c0, rfl, _⟩ := h
    rfl
  · obtain ⟨n, r, c0, rfl, hn, hrr, hc, q⟩ := h
    have nd := sc_ends_for.nd
    have hu := hr.units
    refine ⟨_, PSs.nox (pss_cons (ps_expr (pe_call (ok_cm T) (hr.mono (by decide)) (by rfl) T.m_check_many T.F_check_many.kp (b_cm T) .nil pass0 (pa_cons (pv 0) pa_nil)))
      (pss_cons (ps_expr (pe_call (ok_cr T) (hr.mono (by decide)) (by rfl) T.m_check_room T.F_check_room.kp (b_cr T) .nil pass0 (pa_cons (pv 1) pa_nil)))
      (pss_cons (ps_expr (pe_call (ok_cc T) (hr.mono (by decide)) (by rfl) T.m_check_count T.F_check_count.kp (b_cc T) .nil pass0 (pa_cons (pv 2) (pa_cons (pv 0) pa_nil))))
      (C8.pss_cut (ps_set (i := 3) nd rfl (Or.inr rfl) (pe_lst (pa_cons (pe_dc (own := [("coming", 5)]) (g := gName 5) (tt := tYes) rfl nd (pi_range1 rfl T.g_range (pa_cons (pe_op op_add (pv 0) pe_int) pa_nil)) (blkOk_by (own := [("coming", 5)]) (N := ["many", "room", "number", "ends", "at", "coming", "digit"]) (sc := defScope s_ends_for) (by decide +kernel)) (fun _ _ _ _ _ => pg_name (i := 5) nd rfl (Or.inl rfl)) (fun _ _ _ _ _ => pts_nil) (fun _ _ _ _ _ => (pv 5)) (fun _ _ _ _ _ => (pe_callTy call_int1 (by rfl) T.g_int (by decide +kernel) (pa_cons (pe_cmpR op_eq (pv 5) pe_int (nomark _)) pa_nil)))) pa_nil)))
      (C8.pss_cut (ps_for PassesOwn.never rfl (pi_revR (by rfl) T.g_reversed (prg_1 (by rfl) T.g_range (pv 0))) (pg_name (i := 4) nd rfl (Or.inr rfl)) (pss_one (ps_expr (pe_bm PySem.F.plainAttrs_list PySem.F.slot_list_append PySem.F.type_list_append mt_append (pv 3) (pa_cons (pe_dc (own := [("coming", 5)]) (g := gName 5) (tt := tYes) rfl nd (pi_range1 rfl T.g_range (pa_cons (pe_op op_add (pv 0) pe_int) pa_nil)) (blkOk_by (own := [("coming", 5)]) (N := ["many", "room", "number", "ends", "at", "coming", "digit"]) (sc := defScope s_ends_for) (by decide +kernel)) (fun _ _ _ _ _ => pg_name (i := 5) nd rfl (Or.inr rfl)) (fun _ _ _ _ _ => pts_nil) (fun _ _ _ _ _ => (pv 5)) (fun _ _ _ _ _ => (pe_callB (r := rSum K) (cr_sum rfl) (by rfl) T.g_sum (by decide +kernel) (pa_cons (pe_lc (own := [("digit", 6)]) (g := gName 6) (tt := tYes) rfl nd (pi_range1 rfl T.g_range (pa_cons (pe_op op_add (pv 4) pe_int) pa_nil)) (blkOk_by (own := [("digit", 6)]) (N := ["many", "room", "number", "ends", "at", "coming", "digit"]) (sc := relS (efSc (defBody s_ends_for)) (defScope s_ends_for)) (by decide +kernel)) (fun _ _ _ _ _ => pg_name (i := 6) nd rfl (Or.inl rfl)) (fun _ _ _ _ _ => pts_nil) (fun _ _ _ _ _ => (pe_call (ok_ew T) (hr.mono (by decide)) (by rfl) T.m_ends_with T.F_ends_with.kp (b_ew T) .nil pass0 (pa_cons (pe_ix (r := rIxL K) ix_list (pv 3) (pe_un un_neg pe_int) (fun _ _ => rfl)) (pa_cons (pv 6) (pa_cons (pv 1) (pa_cons (pv 5) pa_nil))))))) pa_nil)))) pa_nil)))))
      (pss_one (ps_ret (pe_revL (pv 3))))))))), ?_⟩
    refine ⟨_, rfl, (n : Int), rfl, by omega, _, rfl, r, rfl, hrr, _, rfl, _, rfl, c0, n, rfl, hc, ?_⟩
    refine ⟨fun σ' H' => ∃ (D a : Addr), σ' = [some (.int n), some (.int r), some (.int c0), some (.ref D), none, none, none] ∧ Same H H' ∧ H D = none ∧ H' D = some (.lst [.ref a]) ∧ H' a = some (.dK (eK (n + 1) oneF)), ?_, ?_⟩
    · refine ⟨_, rfl, _, _, rfl, rfl, ((n + 1 : Nat) : Int), congrArg (fun z => [V.int z]) (by show (n : Int) + 1 = _; omega), by omega, by omega, fun d nd1 => ?_⟩
      refine dc_it (walk_range (lo := 0) (n := n + 1)) (fun j H' => Same H H' ∧ H' d = some (.dK (eK j oneF))) ⟨Same.up nd1, upd_same⟩ (fun _ _ _ _ => trivial) ?_ ?_
      · rintro j y Ho H7 hj ⟨s7, e7⟩ ⟨rfl, ey⟩
        obtain rfl : y = V.int (j : Nat) := by
          rw [ey]
          show V.int (0 + (j : Int)) = _
          rw [Int.zero_add]
        refine ⟨rfl, iteT (B := Same H H7 ∧ H7 d = some (.dK (eK (j + 1) oneF))) ⟨_, rfl, _, rfl, rfl, .inr ⟨_, rfl, _, Sum.inl (j : Int), rfl, e7, by rw [eK_len, sizeLine_eq]; omega, fun b o e => ?_, ?_⟩⟩⟩
        · rw [upd_ne (ne_of_none e nd1)]
          exact s7 _ _ e
        · rw [upd_same, ← eK_put]
          have e : (if decide (V.int (j : Nat) = V.int 0) = true then (1 : Int) else 0) = (oneF j : Nat) := by
            unfold oneF
            by_cases z : j = 0
            · rw [if_pos z, if_pos (decide_eq_true (by rw [z]; rfl))]
              rfl
            · rw [if_neg z, if_neg (by rw [decide_eq_true_eq]; intro y; injection y with y; omega)]
              rfl
          rw [← e]
      · rintro H7 ⟨s7, e7⟩
        refine ⟨by show 1 ≤ sizeLine; decide, fun D nD => ⟨D, d, rfl, s7.trans (Same.up nD), ?_, upd_same, (Same.up nD) _ _ e7⟩⟩
        cases e : H D with
        | none => rfl
        | some o => rw [s7 _ _ e] at nD; cases nD
    rintro σ' H1 ⟨D, a, rfl, s1, nD, eD, ea⟩
    refine ⟨fun σ' H' => ∃ (x4 : Option V) (as : List Addr), σ' = [some (.int n), some (.int r), some (.int c0), some (.ref D), x4, none, none] ∧ Same H H' ∧ H' D = some (.lst (as.map V.ref)) ∧ Ends r n H' as n, ?_, ?_⟩
    · refine ⟨_, rfl, (n : Int), rfl, by omega, by omega, by omega, by omega, ?_⟩
      refine for_it (walk_rangeC (n := n)) (fun i σ' H' => ∃ (x4 : Option V) (as : List Addr), σ' = [some (.int n), some (.int r), some (.int c0), some (.ref D), x4, none, none] ∧ Same H H' ∧ H' D = some (.lst (as.map V.ref)) ∧ Ends r n H' as i)
        ⟨none, [a], rfl, s1, eD, rfl, fun i b hb => ?_⟩ (fun _ _ _ _ _ => trivial) ?_ (fun σ' H' h => h)
      · cases i with
        | zero =>
          obtain rfl : a = b := Option.some.inj hb
          rw [ea]
          rfl
        | succ i => cases hb
      rintro i y σ' Ho H2 hi ⟨x4, as, rfl, s2, eD2, en⟩ ⟨rfl, ey⟩
      obtain ⟨t, ht⟩ : ∃ t : Nat, t + i + 1 = n := ⟨n - 1 - i, by omega⟩
      obtain rfl : y = V.int (t : Nat) := by
        rw [ey]
        show V.int (0 + (((n : Int) - 0).toNat : Int) - 1 + (i : Int) * -1) = _
        congr 1
        omega
      have hal : i < as.length := by rw [en.len]; omega
      have e1 := en.it i as[i] (List.getElem?_eq_getElem hal)
      rw [show n - i = t + 1 by omega] at e1
      refine ⟨_, rfl, .inl ⟨rfl, _, SqL.of eD2⟩, _, rfl, _, _, rfl, rfl, ((n + 1 : Nat) : Int), congrArg (fun z => [V.int z]) (by show (n : Int) + 1 = _; omega), by omega, by omega, fun d nd1 => ?_⟩
      refine dc_it (walk_range (lo := 0) (n := n + 1)) (fun j H' => Same H2 H' ∧ H' d = some (.dK (eK j (endE r t (i + 1))))) ⟨Same.up nd1, upd_same⟩ (fun _ _ _ _ => trivial) ?_ ?_
      · rintro j y Ho H7 hj ⟨s7, e7⟩ ⟨rfl, ey⟩
        obtain rfl : y = V.int (j : Nat) := by
          rw [ey]
          show V.int (0 + (j : Int)) = _
          rw [Int.zero_add]
        refine ⟨rfl, iteT (B := Same H2 H7 ∧ H7 d = some (.dK (eK (j + 1) (endE r t (i + 1))))) ⟨_, rfl, _, rfl, _, _, rfl, rfl, ((t + 1 : Nat) : Int), congrArg (fun z => [V.int z]) (by show (t : Int) + 1 = _; omega), by omega, by omega, fun L nL => ?_⟩⟩
        refine lc_it (walk_range (lo := 0) (n := t + 1)) (fun g H' => Acc H7 L ((List.range g).map fun z => V.int (blkE r t i j z : Nat)) H') (Acc.start nL) (fun _ _ _ _ => trivial) ?_ ?_
        · rintro g y Ho H8 hg ac ⟨rfl, ey⟩
          obtain rfl : y = V.int (g : Nat) := by
            rw [ey]
            show V.int (0 + (g : Int)) = _
            rw [Int.zero_add]
          have eD8 := ac.s _ _ (s7 _ _ eD2)
          have hat : atI (as.map V.ref) (-1) = some (V.ref as[i]) := by
            rw [atV_last V.ref 0 (by omega), List.getLastD_eq_getLast?, List.getLast?_eq_getElem?, en.len, Nat.add_sub_cancel, List.getElem?_eq_getElem hal]
            rfl
          refine ⟨rfl, _, rfl, _, rfl, D, _, _, _, rfl, rfl, SqL.of eD8, hat, _, rfl, _, rfl, _, rfl, as[i], g, r, j, n + 1, _, rfl, ac.s _ _ (s7 _ _ e1), hj, ?_⟩
          refine ⟨_, ac.a, small1000 (by rw [List.length_map, List.length_range]; omega), ?_⟩
          rw [List.range_succ, List.map_append, List.map_singleton]
          exact ac.push
        · intro H8 ac
          refine ⟨L, (List.range (t + 1)).map fun z => ((blkE r t i j z : Nat) : Int), rfl, SqL.of (by rw [List.map_map]; exact ac.a), ?_⟩
          rw [map_sum_int, ← endE_blk]
          refine ⟨_, Sum.inl (j : Int), rfl, ac.s _ _ e7, by rw [eK_len, sizeLine_eq]; omega, fun b o e => ?_, ?_⟩
          · rw [upd_ne (ne_of_none e nd1)]
            exact ac.s _ _ (s7 _ _ e)
          · rw [upd_same, ← eK_put]
      · rintro H7 ⟨s7, e7⟩
        refine ⟨D, _, _, rfl, rfl, s7 _ _ eD2, small1000 (by rw [List.length_map, en.len]; omega), ?_⟩
        have hDd : D ≠ d := ne_of_none eD2 nd1
        refine ⟨_, as ++ [d], rfl, fun b o e => ?_, by rw [upd_same, List.map_append]; rfl, by rw [List.length_append, en.len]; rfl, fun k b hb => ?_⟩
        · rw [upd_ne (fun z => by rw [z, nD] at e; cases e)]
          exact s7 _ _ (s2 _ _ e)
        · by_cases hk : k < as.length
          · rw [List.getElem?_append_left hk] at hb
            have h1 := en.it k b hb
            rw [upd_ne (ne_of h1 eD2 (by intro z; cases z))]
            exact s7 _ _ h1
          · rw [List.getElem?_append_right (by omega)] at hb
            have hk0 : k - as.length = 0 := by
              rcases Nat.eq_zero_or_pos (k - as.length) with z | z
              · exact z
              · rw [List.getElem?_eq_none (by rw [List.length_singleton]; omega)] at hb
                cases hb
            rw [hk0] at hb
            obtain rfl : d = b := Option.some.inj hb
            have := en.len
            rw [upd_ne (fun z => hDd z.symm), e7, show k = i + 1 by omega, show n - (i + 1) = t by omega]
    rintro σ' H2 ⟨x4, as, rfl, s2, eD2, en⟩
    refine ⟨_, rfl, D, _, rfl, SqL.of eD2, fun p np => ?_⟩
    have sp := Same.up (o := .lst (as.map V.ref).reverse) np
    refine q _ p as (s2.trans sp) ?_ ?_ ⟨en.len, fun i a h => sp _ _ (en.it i a h)⟩
    · cases e : H p with
      | none => rfl
      | some o => rw [s2 _ _ e] at np; cases np
    · rw [upd_same, List.map_reverse]
theorem b_ef (T : Tx K mg A) : L2.Binds K A.d_ends_for ["many", "room", "number"] [] := T.F_ends_for.binds fun _ _ _ _ _ _ us hl => match us, hl with | [_, _, _], _ => rfl
theorem ends_top {r n : Nat} {H : Hp} {as : List Addr} {q : Addr} (h : Ends r n H as n) : ∃ a, (as.reverse.map V.ref)[0]? = some (V.ref a) ∧ H a = some (.dK (eK (n + 1) (endE r 0 n))) := by
  have hl := h.len
  have e : as[n]? = some (as[n]'(by omega)) := List.getElem?_eq_getElem (by omega)
  refine ⟨as[n]'(by omega), ?_, ?_⟩
  · rw [List.getElem?_map, List.getElem?_reverse (by omega), show as.length - 1 - 0 = n by omega, e]
    rfl
  · have := h.it n _ e
    rw [Nat.sub_self] at this
    exact this
def spMo : Sp := fun vs H Q _ => ∃ n r c0 : Nat, vs = [.int n, .int r, .int c0] ∧ n ≤ 12 ∧ (1 ≤ r ∧ r ≤ 12) ∧ c0 ≤ n ∧ ∀ H', Same H H' → Q (.int (endE r 0 n c0 : Nat)) H'
theorem ok_mo (T : Tx K mg A) : FnOk P w K mg base CX0 6 A.f_many_orders A.d_many_orders ["many", "room", "number"] spMo := by
  refine T.F_many_orders.ok sc_many_orders (fun vs H Q E h => ?_) (fun cdv B outer s H vs Q E hr h => ?_)
  · obtain ⟨n, r, c0, rfl, _⟩ := h
    rfl
  · obtain ⟨n, r, c0, rfl, hn, hrr, hc, q⟩ := h
    have nd := sc_many_orders.nd
    have hd1 := Nat.lt_of_le_of_lt (Nat.add_le_add_left (show 1 ≤ 64 by decide) _) hr.units
    refine ⟨_, PSs.nox (pss_one (ps_ret (pe_dget hd1 (pe_ix (r := rIxL K) ix_list (pe_call (ok_ef T) (hr.mono (by decide)) (by rfl) T.m_ends_for T.F_ends_for.kp (b_ef T) .nil pass0 (pa_cons (pv 0) (pa_cons (pv 1) (pa_cons (pv 2) pa_nil)))) pe_int (fun _ _ => rfl)) (pv 2) (fun _ _ => rfl)))), ?_⟩
    refine ⟨_, rfl, _, rfl, _, rfl, n, r, c0, rfl, hn, hrr, hc, fun H1 p as s1 np ep en => ?_⟩
    obtain ⟨a, ha, ea⟩ := ends_top (q := p) en
    have hx : atI (as.reverse.map V.ref) 0 = some (V.ref a) := atI_nat ha
    refine ⟨p, _, _, _, rfl, rfl, SqL.of ep, hx, ?_⟩
    have hg : DGet H1 a (V.int (c0 : Nat)) (some (V.int (endE r 0 n c0 : Nat))) := by
      rw [← eK_get (endE r 0 n) c0 (n + 1) (by omega)]
      exact DGet.k (k := .inl (c0 : Int)) ea
    exact ⟨_, rfl, a, _, rfl, hg, q H1 s1⟩
theorem b_mo (T : Tx K mg A) : L2.Binds K A.d_many_orders ["many", "room", "number"] [] := T.F_many_orders.binds fun _ _ _ _ _ _ us hl => match us, hl with | [_, _, _], _ => rfl

end
end Tw

set_option Elab.async false
set_option linter.all false
set_option maxRecDepth 100000
set_option maxHeartbeats 2000000
namespace Tw
open PySem PySem.Spec PyProof.Rows L2
section
variable {P : Program} {w : World} {K : PySem.W.Frag} {mg : Str → Option Value} {base : Heap} {A : Ad}
open LamX (ExtN Tabs TabS)
abbrev nv (p : List Nat) : List V := (natB p).map V.int
theorem appN (l : List Nat) (x : Nat) : nv l ++ [V.int (x : Nat)] = nv (l ++ [x]) := by
  unfold nv natB
  rw [List.map_append, List.map_append]
  rfl
theorem b_ci (T : Tx K mg A) : L2.Binds K A.d_check_index ["index", "many"] [] := T.F_check_index.binds fun _ _ _ _ _ _ us hl => match us, hl with | [_, _], _ => rfl
theorem b_ob (T : Tx K mg A) : L2.Binds K A.d_order_by ["numbers"] [] := T.F_order_by.binds fun _ _ _ _ _ _ us hl => match us, hl with | [_], _ => rfl
theorem nv_len (p : List Nat) : (nv p).length = p.length := by
  unfold nv natB
  rw [List.length_map, List.length_map]
def spCp : Sp := fun vs H Q _ => ∃ i n : Int, vs = [.int i, .int n] ∧ (0 ≤ i ∧ i < n) ∧ Q .non H
theorem ok_ci (T : Tx K mg A) : FnOk P w K mg base CX0 3 A.f_check_index A.d_check_index ["index", "many"] spCp := by
  refine T.F_check_index.ok sc_check_index (fun vs H Q E h => ?_) (fun cdv B outer s H vs Q E hr h => ?_)
  · obtain ⟨i, n, rfl, _⟩ := h
    rfl
  · obtain ⟨i, n, rfl, hi, q⟩ := h
    refine ⟨_, (pss_one (ps_if (pt_not (pt_val (pe_call (ok_ii T) (hr.mono (by decide)) (by rfl) T.m_is_integer_from T.F_is_integer_from.kp (b_ii T) .nil pass0 (pa_cons (pv 0) (pa_cons pe_int (pa_cons (pe_op op_sub (pv 1) pe_int) pa_nil)))))) (pss_one ps_never) pss_nil)), ?_⟩
    refine ⟨_, rfl, _, rfl, _, _, rfl, rfl, _, _, _, rfl, .inl ⟨i, rfl, _, rfl, ?_⟩⟩
    rw [decide_eq_true (show 0 ≤ i ∧ i ≤ n - 1 by omega)]
    exact iteF q
/-- a list or a tuple -/
def Sq (H : Hp) (a : Addr) (xs : List V) : Prop := H a = some (.lst xs) ∨ H a = some (.tup xs)
theorem Sq.same {H H' : Hp} {a : Addr} {xs : List V} (h : Sq H a xs) (s : Same H H') : Sq H' a xs := h.elim (fun e => .inl (s _ _ e)) fun e => .inr (s _ _ e)
theorem Sq.len {K : PySem.W.Frag} {H : Hp} {a : Addr} {xs : List V} (h : Sq H a xs) : SqL K H a xs ∨ SqT K H a xs := h.elim (fun e => .inl (SqL.of e)) fun e => .inr (SqT.of e)
theorem nv_at {p : List Nat} {i : Nat} {x : V} (h : (nv p)[i]? = some x) : ∃ hi : i < p.length, x = V.int (p[i] : Nat) := by
  unfold nv natB at h
  rw [List.getElem?_map, List.getElem?_map] at h
  cases e : p[i]? with
  | none =>
    rw [e] at h
    cases h
  | some u =>
    rw [e] at h
    obtain ⟨hi, rfl⟩ := List.getElem?_eq_some_iff.mp e
    exact ⟨hi, (Option.some.inj h).symm⟩
theorem nv_get {p : List Nat} {i : Nat} (h : i < p.length) : (nv p)[i]? = some (V.int (p[i] : Nat)) := by
  unfold nv natB
  rw [List.getElem?_map, List.getElem?_map, List.getElem?_eq_getElem h]
  rfl
theorem nv_rg (n : Nat) : rgV 0 (n : Int) = nv (List.range n) := by
  unfold rgV nv natB
  rw [show ((n : Int) - 0).toNat = n by omega, List.map_map]
  exact congrArg (fun f => (List.range n).map f) (funext fun i => by rw [Int.zero_add]; rfl)
theorem repl_all (n : Nat) : (List.replicate n true).all id = true := by
  rw [List.all_eq_true]
  intro x hx
  rw [(List.mem_replicate.mp hx).2]
  rfl
theorem seq_isi {K : PySem.W.Frag} {H : Hp} {a : Addr} {xs : List V} (h : Sq H a xs) : ∃ c b1, TyX K H (.ref a) (.type c) ∧ PySem.W.kitOne K (.type c) (.type "list") = some b1 ∧ (b1 = false → PySem.W.kitOne K (.type c) (.type "tuple") = some true) := by
  rcases h with h | h
  · exact ⟨"list", true, .base (.lst h), kit_ty (by decide +kernel), fun z => by cases z⟩
  · exact ⟨"tuple", false, .base (.tup h), kit_ty (by decide +kernel), fun _ => kit_ty (by decide +kernel)⟩
def spCode : Sp := fun vs H Q _ => ∃ (a : Addr) (c : List Nat), vs = [.ref a] ∧ Sq H a (nv c) ∧ c.length ≤ 12 ∧ (∀ (i x : Nat), c[i]? = some x → x ≤ i) ∧ ∀ H', Same H H' → Q (.bl true) H'
theorem ok_code (T : Tx K mg A) : FnOk P w K mg base CX0 3 A.f_is_code A.d_is_code ["thing"] spCode := by
  refine T.F_is_code.ok sc_is_code (fun vs H Q E h => ?_) (fun cdv B outer s H vs Q E hr h => ?_)
  · obtain ⟨a, c, rfl, _⟩ := h
    rfl
  · obtain ⟨a, p, rfl, ha, h12, hc, q⟩ := h
    have nd := sc_is_code.nd
    obtain ⟨t12, hg⟩ := cst T.c_MOST_ITEMS
    refine ⟨_, (pss_cons (ps_if (PW.pt (pw_or (pt_not (pt_val (pe_callB call_isiT (by rfl) T.g_isinstance (by decide +kernel) (pa_cons (pv 0) (pa_cons (pe_tup (pa_cons (pe_bltn (v := .ty "list") (by rfl) T.g_list (by decide +kernel) rfl) (pa_cons (pe_bltn (v := .ty "tuple") (by rfl) T.g_tuple (by decide +kernel) rfl) pa_nil))) pa_nil))))) (pw_or1 (pt_cmpR op_gt (pe_callB call_len_seq (by rfl) T.g_len PySem.boot_len (pa_cons (pv 0) pa_nil)) (pe_glob (by rfl) hg (relI _ _)) (nomark _))))) (pss_one (ps_ret pe_bl)) pss_nil)
      (pss_one (ps_ret (pe_callB (cr_all rfl) (by rfl) T.g_all (by decide +kernel) (pa_cons (pe_lc (own := [("number", 1), ("at", 2)]) (g := gTup K 2 (gCons (gName 2) (gCons (gName 1) gNil))) (tt := tYes) rfl nd (pi_enS (by rfl) T.g_enumerate (pa_cons (pv 0) pa_nil)) (blkOk_by (own := [("number", 1), ("at", 2)]) (N := ["thing", "number", "at"]) (sc := (defScope s_is_code)) (by decide +kernel)) (fun _ _ _ _ _ => pg_tup rfl (pgs_cons (pg_name (i := 2) nd rfl (Or.inl rfl)) (pgs_cons (pg_name (i := 1) nd rfl (Or.inl rfl)) pgs_nil))) (fun _ _ _ _ _ => pts_nil) (fun _ _ _ _ _ => (pe_call (ok_ii T) (hr.mono (by decide)) (by rfl) T.m_is_integer_from T.F_is_integer_from.kp (b_ii T) .nil pass0 (pa_cons (pv 1) (pa_cons pe_int (pa_cons (pv 2) pa_nil)))))) pa_nil))))), ?_⟩
    refine ⟨_, rfl, by show 2 ≤ sizeLine; decide, fun tp htp => ?_⟩
    have s1 := Same.up (o := .tup [.ty "list", .ty "tuple"]) htp
    have ha1 := ha.same s1
    obtain ⟨c, b1, ty, k1, k2⟩ := seq_isi (K := K) ha1
    refine ⟨_, tp, _, .type c, [.type "list", .type "tuple"], true, rfl, upd_same, .cons (.ty _) (.cons (.ty _) .nil), ty, kitAny_cons k1 (fun z => kitAny_cons (k2 z) (fun z => by cases z) (fun _ => rfl)) (fun _ => rfl), true, rfl, ?_⟩
    refine iteF ⟨_, rfl, a, _, rfl, ha1.len, _, _, rfl, rfl, _, rfl, ?_⟩
    rw [decide_eq_false (show ¬ (12 : Int) < ((nv p).length : Int) by rw [nv_len]; omega)]
    refine iteF ?_
    generalize upd H tp (.tup [.ty "list", .ty "tuple"]) = G at s1 ha1
    rcases id ha1 with h1 | h1
    · refine ⟨_, rfl, a, _, rfl, Or.inl ⟨SqL.of h1, fun D nD => ?_⟩⟩
      refine lc_it (walk_enum (xs := nv p)) (fun i H' => Acc G D (List.replicate i (V.bl true)) H') (Acc.start nD) (fun i H' _ ac => SqL.of (ac.s _ _ h1)) ?_ ?_
      · rintro j y H2 H3 hj ac ⟨T', x, x2, rfl, hT, rfl, e1, e2⟩
        obtain ⟨hj2, rfl⟩ := nv_at e2
        cases e1
        have ac3 := ac.same (Same.up (o := .tup [V.int (j : Nat), V.int (p[j] : Nat)]) hT)
        refine ⟨_, _, rfl, SqT.of upd_same, rfl, _, _, rfl, _, _, rfl, rfl, rfl, iteT (B := Acc G D (List.replicate (j + 1) (V.bl true)) (upd H2 T' (.tup [V.int (j : Nat), V.int (p[j] : Nat)]))) ?_⟩
        refine ⟨_, rfl, _, rfl, _, _, _, rfl, Or.inl ⟨_, rfl, ?_⟩⟩
        have hb := hc j p[j] (List.getElem?_eq_getElem hj2)
        rw [decide_eq_true (show (0 : Int) ≤ (p[j] : Nat) ∧ ((p[j] : Nat) : Int) ≤ (j : Nat) by omega)]
        refine ⟨_, ac3.a, by rw [List.length_replicate, sizeLine_eq]; omega, ?_⟩
        rw [show List.replicate (j + 1) (V.bl true) = List.replicate j (V.bl true) ++ [V.bl true] from List.replicate_succ']
        exact ac3.push
      · intro H2 ac
        rw [nv_len] at ac
        refine ⟨D, List.replicate p.length true, rfl, SqL.of (by rw [ac.a, List.map_replicate]), ?_⟩
        rw [repl_all]
        exact q _ (s1.trans ac.s)
    · refine ⟨_, rfl, a, _, rfl, Or.inr ⟨SqT.of h1, fun D nD => ?_⟩⟩
      refine lc_it (walk_enumT (xs := nv p)) (fun i H' => Acc G D (List.replicate i (V.bl true)) H') (Acc.start nD) (fun i H' _ ac => SqT.of (ac.s _ _ h1)) ?_ ?_
      · rintro j y H2 H3 hj ac ⟨T', x, x2, rfl, hT, rfl, e1, e2⟩
        obtain ⟨hj2, rfl⟩ := nv_at e2
        cases e1
        have ac3 := ac.same (Same.up (o := .tup [V.int (j : Nat), V.int (p[j] : Nat)]) hT)
        refine ⟨_, _, rfl, SqT.of upd_same, rfl, _, _, rfl, _, _, rfl, rfl, rfl, iteT (B := Acc G D (List.replicate (j + 1) (V.bl true)) (upd H2 T' (.tup [V.int (j : Nat), V.int (p[j] : Nat)]))) ?_⟩
        refine ⟨_, rfl, _, rfl, _, _, _, rfl, Or.inl ⟨_, rfl, ?_⟩⟩
        have hb := hc j p[j] (List.getElem?_eq_getElem hj2)
        rw [decide_eq_true (show (0 : Int) ≤ (p[j] : Nat) ∧ ((p[j] : Nat) : Int) ≤ (j : Nat) by omega)]
        refine ⟨_, ac3.a, by rw [List.length_replicate, sizeLine_eq]; omega, ?_⟩
        rw [show List.replicate (j + 1) (V.bl true) = List.replicate j (V.bl true) ++ [V.bl true] from List.replicate_succ']
        exact ac3.push
      · intro H2 ac
        rw [nv_len] at ac
        refine ⟨D, List.replicate p.length true, rfl, SqL.of (by rw [ac.a, List.map_replicate]), ?_⟩
        rw [repl_all]
        exact q _ (s1.trans ac.s)
theorem b_code (T : Tx K mg A) : L2.Binds K A.d_is_code ["thing"] [] := T.F_is_code.binds fun _ _ _ _ _ _ us hl => match us, hl with | [_], _ => rfl
theorem eraN : ∀ (l : List Nat) (i : Nat), (nv l).eraseIdx i = nv (l.eraseIdx i)
  | [], _ => rfl
  | _ :: _, 0 => rfl
  | a :: l, i + 1 => congrArg (V.int (Int.ofNat a) :: ·) (eraN l i)
theorem revN (l : List Nat) : (nv l).reverse = nv l.reverse := by
  unfold nv natB
  rw [List.map_reverse, List.map_reverse]
def spOb : Sp := fun vs H Q _ => ∃ (a : Addr) (c : List Nat), vs = [.ref a] ∧ Sq H a (nv c) ∧ c.length ≤ 12 ∧ (∀ (i x : Nat), c[i]? = some x → x ≤ i) ∧
  ∀ (H' : Hp) (t : Addr), Same H H' → H' t = some (.tup (nv (orderL c))) → Q (.ref t) H'
theorem ok_ob (T : Tx K mg A) : FnOk P w K mg base CX0 4 A.f_order_by A.d_order_by ["numbers"] spOb := by
  refine T.F_order_by.ok sc_order_by (fun vs H Q E h => ?_) (fun cdv B outer s H vs Q E hr h => ?_)
  · obtain ⟨a, c, rfl, _⟩ := h
    rfl
  · obtain ⟨a, c, rfl, ha, h12, hc, q⟩ := h
    have nd := sc_order_by.nd
    refine ⟨_, PSs.nox (pss_cons (ps_if (pt_not (pt_val (pe_call (ok_code T) (hr.mono (by decide)) (by rfl) T.m_is_code T.F_is_code.kp (b_code T) .nil pass0 (pa_cons (pv 0) pa_nil)))) (pss_one ps_never) pss_nil)
      (pss_cons (ps_set (i := 1) nd rfl (Or.inl rfl) (pe_listRg rfl (by rfl) T.g_list (prg_1 (by rfl) T.g_range (pe_callB call_len_seq (by rfl) T.g_len PySem.boot_len (pa_cons (pv 0) pa_nil)))))
      (pss_cons (ps_set (i := 2) nd rfl (Or.inl rfl) (pe_lst pa_nil))
      (C8.pss_cut (ps_for PassesOwn.never rfl (RT.pi_revA (by rfl) T.g_reversed (pe_callTy call_list_of (by rfl) T.g_list (by decide +kernel) (pa_cons (pv 0) pa_nil))) (pg_name (i := 3) nd rfl (Or.inl rfl)) (pss_one (ps_expr (pe_bm PySem.F.plainAttrs_list PySem.F.slot_list_append PySem.F.type_list_append mt_append (pv 2) (pa_cons (pe_bm PySem.F.plainAttrs_list PySem.F.slot_list_pop PySem.F.type_list_pop mt_popAt (pv 1) (pa_cons (pe_op op_sub (pe_op op_sub (pe_callB call_len_seq (by rfl) T.g_len PySem.boot_len (pa_cons (pv 1) pa_nil)) pe_int) (pv 3)) pa_nil)) pa_nil)))))
      (pss_one (ps_ret (pe_callTy call_tuple_of (by rfl) T.g_tuple (by decide +kernel) (pa_cons (pe_revL (pv 2)) pa_nil)))))))), ?_⟩
    refine ⟨_, rfl, a, c, rfl, ha, h12, hc, fun H1 s1 => ⟨_, rfl, iteF ?_⟩⟩
    have ha1 := ha.same s1
    refine ⟨_, rfl, a, _, rfl, ha1.len, _, rfl, ?_⟩
    rw [nv_len]
    refine ⟨RgOk.of_le (by omega) (by omega) (by omega) (by omega), fun L nL => ?_⟩
    rw [nv_rg]
    have s2 := Same.up (o := .lst (nv (List.range c.length))) nL
    refine ⟨Nat.zero_le _, fun O nO => ?_⟩
    have hLO : O ≠ L := fun z => by
      rw [z, upd_same] at nO
      cases nO
    have s3 := s2.trans (Same.up (o := .lst []) nO)
    have nO1 : H1 O = none := s2.free nO
    have eL0 : upd (upd H1 L (.lst (nv (List.range c.length)))) O (.lst []) L = some (.lst (nv (List.range c.length))) := by
      rw [upd_ne hLO.symm, upd_same]
    have eO0 : upd (upd H1 L (.lst (nv (List.range c.length)))) O (.lst []) O = some (.lst []) := upd_same
    generalize upd (upd H1 L (.lst (nv (List.range c.length)))) O (.lst []) = G at s3 eL0 eO0
    refine ⟨fun σ' H' => ∃ x3 : Option V, σ' = [some (.ref a), some (.ref L), some (.ref O), x3] ∧ Same H1 H' ∧ H' O = some (.lst (nv (decL (List.range c.length) c.reverse))), ?_, ?_⟩
    · refine ⟨_, rfl, a, _, rfl, (ha1.same s3).len, fun M nM => ?_⟩
      have s4 := Same.up (o := .lst (nv c)) nM
      have nM1 : H1 M = none := s3.free nM
      have hML : M ≠ L := fun z => by rw [z, eL0] at nM; cases nM
      have hMO : M ≠ O := fun z => by rw [z, eO0] at nM; cases nM
      refine ⟨M, _, rfl, .inl ⟨SqL.of upd_same, RT.for_Itv (fun i σ' H' => (∃ x3 : Option V, σ' = [some (.ref a), some (.ref L), some (.ref O), x3]) ∧ Same H1 H' ∧ H' M = some (.lst (nv c)) ∧ ∃ left out : List Nat, H' L = some (.lst (nv left)) ∧ H' O = some (.lst (nv out)) ∧
          decL (List.range c.length) c.reverse = out ++ decL left (c.reverse.drop i) ∧ left.length = c.length - i ∧ out.length = i) ⟨⟨none, rfl⟩, s3.trans s4, upd_same, List.range c.length, [], s4 _ _ eL0, s4 _ _ eO0, rfl, by rw [List.length_range]; rfl, rfl⟩ (fun i σ' H' ⟨_, _, e, _⟩ => SqL.of e) ?_ ?_⟩⟩
      · rintro i x σ' H5 hi ex ⟨⟨x3, rfl⟩, s5, eM, left, out, eL, eO, ed, hll, hol⟩
        rw [nv_len] at hi ex
        obtain ⟨hx, rfl⟩ := nv_at ex
        have hcx := hc _ _ (List.getElem?_eq_getElem hx)
        have hdrop : c.reverse.drop i = c[c.length - 1 - i] :: c.reverse.drop (i + 1) := by
          rw [List.drop_eq_getElem_cons (by rw [List.length_reverse]; exact hi), List.getElem_reverse]
        have hidx : left.length - 1 - c[c.length - 1 - i] < left.length := by omega
        refine ⟨_, rfl, .inl ⟨rfl, _, SqL.of eO⟩, _, rfl, .inl ⟨rfl, _, SqL.of eL⟩, _, rfl, L, _, rfl, .inl (SqL.of eL), _, _, rfl, rfl, _, rfl, _, _, rfl, rfl, ?_⟩
        rw [nv_len]
        refine ⟨L, _, _, left.length - 1 - c[c.length - 1 - i], V.int (left[left.length - 1 - c[c.length - 1 - i]] : Nat), rfl, rfl, eL, by omega, by omega, ?_, nv_get hidx, ?_⟩
        · rw [show ((left.length : Nat) : Int) - 1 - (c[c.length - 1 - i] : Nat) = ((left.length - 1 - c[c.length - 1 - i] : Nat) : Int) by omega]
          unfold seqIndex?
          rw [nv_len]
          simp
          omega
        · have nLs : ∀ (zs zs2 : List V), Same H1 (upd (upd H5 L (.lst zs)) O (.lst zs2)) := fun zs zs2 b o e => by
            rw [upd_ne (ne_of_none e nO1), upd_ne (ne_of_none e nL)]
            exact s5 _ _ e
          refine ⟨O, _, _, rfl, rfl, by rw [upd_ne hLO]; exact eO, by rw [nv_len, sizeLine_eq]; omega, ⟨_, rfl⟩, nLs _ _, ?_, left.eraseIdx (left.length - 1 - c[c.length - 1 - i]), out ++ [left[left.length - 1 - c[c.length - 1 - i]]], ?_, ?_, ?_, ?_, ?_⟩
          · rw [upd_ne hMO, upd_ne hML]
            exact eM
          · rw [upd_ne hLO.symm, upd_same, eraN]
          · rw [upd_same, appN]
          · rw [ed, hdrop]
            show out ++ (left.getD (left.length - 1 - c[c.length - 1 - i]) 0 :: decL (left.eraseIdx (left.length - 1 - c[c.length - 1 - i])) _) = _
            rw [getD_in hidx, List.append_assoc]
            rfl
          · rw [List.length_eraseIdx_of_lt hidx]
            omega
          · rw [List.length_append, hol]
            rfl
      · rintro σ' H5 ⟨⟨x3, rfl⟩, s5, eM, left, out, eL, eO, ed, hll, hol⟩
        rw [nv_len, show c.reverse.drop c.length = [] by rw [← List.length_reverse, List.drop_length]] at ed
        refine ⟨x3, rfl, s5, ?_⟩
        rw [ed]
        show H5 O = some (HO.lst (nv (out ++ [])))
        rw [List.append_nil]
        exact eO
    · rintro σ' H5 ⟨x3, rfl, s5, eO⟩
      refine ⟨_, rfl, O, _, rfl, SqL.of eO, fun R nR => ⟨R, _, rfl, .inl ⟨SqL.of upd_same, fun t nt => q _ t (s1.trans (s5.trans ((Same.up nR).trans (Same.up nt)))) ?_⟩⟩⟩
      rw [upd_same, revN]
      rfl
end
end Tw

set_option Elab.async false
set_option linter.all false
set_option maxRecDepth 100000
set_option maxHeartbeats 2000000
namespace Tw
open PySem PySem.Spec PyProof.Rows L2
section
variable {P : Program} {w : World} {K : PySem.W.Frag} {mg : Str → Option Value} {base : Heap} {A : Ad}
open LamX (ExtN Tabs TabS)
/-! the order at an index: pe_dget2 -/
theorem ends_at {r n j : Nat} {H : Hp} {as : List Addr} (h : Ends r n H as n) (hj : j < n) : ∃ a, (as.reverse.map V.ref)[j + 1]? = some (V.ref a) ∧ H a = some (.dK (eK (n + 1) (endE r (j + 1) (n - (j + 1))))) := by
  have hl := h.len
  have e : as[n - (j + 1)]? = some (as[n - (j + 1)]'(by omega)) := List.getElem?_eq_getElem (by omega)
  refine ⟨as[n - (j + 1)]'(by omega), ?_, ?_⟩
  · rw [List.getElem?_map, List.getElem?_reverse (by omega), show as.length - 1 - (j + 1) = n - (j + 1) by omega, e]
    rfl
  · have := h.it _ _ e
    rw [show n - (n - (j + 1)) = j + 1 by omega] at this
    exact this
def spOa : Sp := fun vs H Q _ => ∃ (n r c0 i : Nat) (cd : List Nat), vs = [.int n, .int r, .int c0, .int i] ∧ n ≤ 12 ∧ (1 ≤ r ∧ r ≤ 12) ∧ c0 ≤ n ∧ (sufS r 0 n c0)[i]? = some cd ∧
  ∀ (H' : Hp) (t : Addr), Same H H' → H' t = some (.tup (nv (orderL cd))) → Q (.ref t) H'
def muOa : Option (Option V) → Nat
  | some (some (.int i)) => 13 - i.toNat
  | _ => 0
theorem ok_oa (T : Tx K mg A) : FnOk P w K mg base CX0 6 A.f_order_at A.d_order_at ["many", "room", "number", "index"] spOa := by
  refine T.F_order_at.ok sc_order_at (fun vs H Q E h => ?_) (fun cdv B outer s H vs Q E hr h => ?_)
  · obtain ⟨n, r, c0, i, cd, rfl, _⟩ := h
    rfl
  · obtain ⟨n, r, c0, i, cd, rfl, hn, hrr, hc, hcd, q⟩ := h
    have nd := sc_order_at.nd
    have hd1 := Nat.lt_of_le_of_lt (Nat.add_le_add_left (show 1 ≤ 64 by decide) _) hr.units
    refine ⟨_, PSs.nox (pss_cons (ps_set (i := 4) nd rfl (Or.inl rfl) (pe_call (ok_ef T) (hr.mono (by decide)) (by rfl) T.m_ends_for T.F_ends_for.kp (b_ef T) .nil pass0 (pa_cons (pv 0) (pa_cons (pv 1) (pa_cons (pv 2) pa_nil)))))
      (pss_cons (ps_expr (pe_call (ok_ci T) (hr.mono (by decide)) (by rfl) T.m_check_index T.F_check_index.kp (b_ci T) .nil pass0 (pa_cons (pv 3) (pa_cons (pe_dget hd1 (pe_ix (r := rIxL K) ix_list (pv 4) pe_int (fun _ _ => rfl)) (pv 2) (fun _ _ => rfl)) pa_nil))))
      (C8.pss_cut (ps_set (i := 5) nd rfl (Or.inl rfl) (pe_lst pa_nil))
      (pss_cons (ps_set (i := 6) nd rfl (Or.inl rfl) (pv 3))
      (pss_cons (ps_set (i := 7) nd rfl (Or.inl rfl) (pv 2))
      (C8.pss_cut (ps_for PassesOwn.never rfl (pi_list (pe_slice (r := rSlL K) sl_list (pv 4) (po_some pe_int) po_none)) (pg_name (i := 8) nd rfl (Or.inl rfl)) (pss_cons (ps_set (i := 9) nd rfl (Or.inl rfl) pe_int)
      (C8.pss_cut (ps_while PassesOwn.never (pt_cmpR op_ge (pv 6) (pe_call (ok_ew T) (hr.mono (by decide)) (by rfl) T.m_ends_with T.F_ends_with.kp (b_ew T) .nil pass0 (pa_cons (pv 8) (pa_cons (pv 9) (pa_cons (pv 1) (pa_cons (pv 7) pa_nil))))) (nomark _)) (pss_cons (ps_aug (i := 6) nd rfl (Or.inl rfl) (pe_call (ok_ew T) (hr.mono (by decide)) (by rfl) T.m_ends_with T.F_ends_with.kp (b_ew T) .nil pass0 (pa_cons (pv 8) (pa_cons (pv 9) (pa_cons (pv 1) (pa_cons (pv 7) pa_nil))))) ip_sub)
      (pss_one (ps_aug (i := 9) nd rfl (Or.inl rfl) pe_int ip_add))))
      (pss_cons (ps_expr (pe_bm PySem.F.plainAttrs_list PySem.F.slot_list_append PySem.F.type_list_append mt_append (pv 5) (pa_cons (pv 9) pa_nil)))
      (pss_one (ps_aug (i := 7) nd rfl (Or.inl rfl) (pe_call (ok_dc T) (hr.mono (by decide)) (by rfl) T.m_does_come T.F_does_come.kp (b_dc T) .nil pass0 (pa_cons (pv 9) (pa_cons (pv 1) pa_nil))) ip_sub))))))
      (pss_one (ps_ret (pe_call (ok_ob T) (hr.mono (by decide)) (by rfl) T.m_order_by T.F_order_by.kp (b_ob T) .nil pass0 (pa_cons (pv 5) pa_nil)))))))))), ?_⟩
    refine ⟨_, rfl, _, rfl, _, rfl, n, r, c0, rfl, hn, hrr, hc, fun H1 p as s1 np ep en => ?_⟩
    obtain ⟨a, ha, ea⟩ := ends_top (q := p) en
    have hx : atI (as.reverse.map V.ref) 0 = some (V.ref a) := atI_nat ha
    have hg : DGet H1 a (V.int (c0 : Nat)) (some (V.int (endE r 0 n c0 : Nat))) := by
      rw [← eK_get (endE r 0 n) c0 (n + 1) (by omega)]
      exact DGet.k (k := .inl (c0 : Int)) ea
    have hi : i < endE r 0 n c0 := by rw [← sufS_len]; exact (List.getElem?_eq_some_iff.mp hcd).1
    refine ⟨_, rfl, _, rfl, p, _, _, _, rfl, rfl, SqL.of ep, hx, _, rfl, a, _, rfl, hg, (i : Int), (endE r 0 n c0 : Int), rfl, ⟨by omega, by omega⟩, ?_⟩
    refine ⟨fun σ' H' => ∃ D : Addr, σ' = [some (.int n), some (.int r), some (.int c0), some (.int i), some (.ref p), some (.ref D), none, none, none, none] ∧ Same H1 H' ∧ H1 D = none ∧ H' D = some (.lst []), ?_, ?_⟩
    · exact ⟨Nat.zero_le _, fun D nD => ⟨D, rfl, Same.up nD, nD, upd_same⟩⟩
    rintro σ' H2 ⟨D, rfl, s2, nD, eD⟩
    refine ⟨_, rfl, _, rfl, ?_⟩
    refine ⟨fun σ' H' => ∃ (x6 x7 x8 x9 : Option V), σ' = [some (.int n), some (.int r), some (.int c0), some (.int i), some (.ref p), some (.ref D), x6, x7, x8, x9] ∧ Same H1 H' ∧ H' D = some (.lst (nv cd)), ?_, ?_⟩
    · refine ⟨_, rfl, ?_⟩
      unfold tNoPart
      have ep2 := s2 _ _ ep
      have hcut : cutV (as.reverse.map V.ref) (some 1) none = (as.reverse.map V.ref).drop 1 := cutv_from _ 1
      refine ⟨_, rfl, p, _, rfl, SqL.of ep2, fun z nz => ?_⟩
      rw [hcut]
      have s3 := Same.up (o := .lst ((as.reverse.map V.ref).drop 1)) nz
      have ez : upd H2 z (.lst ((as.reverse.map V.ref).drop 1)) z = _ := upd_same
      have eD3 := s3 _ _ eD
      generalize upd H2 z (.lst ((as.reverse.map V.ref).drop 1)) = H3 at s3 ez eD3
      have hlen : ((as.reverse.map V.ref).drop 1).length = n := by rw [List.length_drop, List.length_map, List.length_reverse, en.len]; omega
      refine ⟨z, rfl, ⟨_, SqL.of ez⟩, ?_⟩
      refine for_it (walk_list (xs := (as.reverse.map V.ref).drop 1)) (fun j σ' H' => ∃ (l c : Nat) (x8 x9 : Option V) (pre st : List Nat), σ' = [some (.int n), some (.int r), some (.int c0), some (.int i), some (.ref p), some (.ref D), some (.int l), some (.int c), x8, x9] ∧ Same H1 H' ∧ H' z = some (.lst ((as.reverse.map V.ref).drop 1)) ∧ H' D = some (.lst (nv pre)) ∧ cd = pre ++ st ∧ pre.length = j ∧ c ≤ n ∧ (sufS r j (n - j) c)[l]? = some st)
        ⟨i, c0, none, none, [], cd, rfl, s2.trans s3, ez, eD3, rfl, rfl, hc, hcd⟩ (fun j σ' H' _ ⟨_, _, _, _, _, _, _, _, hz, _⟩ => SqL.of hz) ?_ ?_
      · rintro j y σ' Ho H4 hj ⟨l, c, x8, x9, pre, st, rfl, s4, ez4, eD4, ecd, hpl, hcn, hst⟩ ⟨rfl, ey⟩
        rw [hlen] at hj
        obtain ⟨b, hb, eb⟩ := ends_at en hj
        have hyb : y = V.ref b := by
          rw [List.getElem?_drop, Nat.add_comm 1 j, hb] at ey
          exact (Option.some.inj ey).symm
        subst hyb
        obtain ⟨k, hk⟩ : ∃ k, k + j + 1 = n := ⟨n - 1 - j, by omega⟩
        rw [show n - (j + 1) = k by omega] at eb
        rw [show n - j = k + 1 by omega] at hst
        refine ⟨fun σ' H' => ∃ (l d : Nat) (st2 : List Nat), σ' = [some (.int n), some (.int r), some (.int c0), some (.int i), some (.ref p), some (.ref D), some (.int l), some (.int c), some (.ref b), some (.int d)] ∧ H' = H4 ∧ st = d :: st2 ∧ wd r d ≤ c ∧ (sufS r (j + 1) k (c - wd r d))[l]? = some st2, ?_, ?_⟩
        · rw [← fromS_0] at hst
          refine while_by (fun σ' H' => ∃ (l d : Nat), σ' = [some (.int n), some (.int r), some (.int c0), some (.int i), some (.ref p), some (.ref D), some (.int l), some (.int c), some (.ref b), some (.int d)] ∧ H' = H4 ∧ d ≤ 13 ∧ (fromS r j k c d)[l]? = some st)
            (fun σ' H' => muOa (σ'[9]? : Option (Option V))) ⟨l, 0, rfl, rfl, Nat.zero_le _, hst⟩ ?_ ?_
          · rintro σ' Hb ⟨l, d, rfl, rfl, hd13, hf⟩
            obtain ⟨hda, hup, hin⟩ := fromS_step hf
            have eb4 := s4 _ _ eb
            refine ⟨_, rfl, _, rfl, _, rfl, _, rfl, _, rfl, b, d, r, c, n + 1, _, rfl, eb4, by omega, _, _, rfl, rfl, _, rfl, ?_⟩
            by_cases hle : blkE r j k c d ≤ l
            · refine ite_b (c := true) (decide_eq_true (show ((ewN r d c (endE r (j + 1) k) : Nat) : Int) ≤ (l : Int) from Int.ofNat_le.mpr hle)) (iteT ?_)
              refine ⟨_, rfl, _, rfl, _, rfl, _, rfl, _, rfl, b, d, r, c, n + 1, _, rfl, eb4, by omega, _, _, rfl, rfl, ?_⟩
              refine ⟨_, rfl, _, _, rfl, rfl, ⟨l - blkE r j k c d, d + 1, ?_, rfl, by omega, hup hle⟩, ?_⟩
              · have e1 : (l : Int) - (ewN r d c (endE r (j + 1) k) : Nat) = ((l - blkE r j k c d : Nat) : Int) := by
                  have : ewN r d c (endE r (j + 1) k) = blkE r j k c d := rfl
                  rw [this]
                  omega
                show [some (V.int n), some (V.int r), some (V.int c0), some (V.int i), some (V.ref p), some (V.ref D), some (V.int ((l : Int) - (ewN r d c (endE r (j + 1) k) : Nat))), some (V.int c), some (V.ref b), some (V.int ((d : Int) + 1))] = _
                rw [e1]
                rfl
              · show 13 - ((d : Int) + 1).toNat < 13 - (d : Int).toNat
                omega
            · refine ite_b (c := false) (decide_eq_false (fun z => hle (Int.ofNat_le.mp z))) (iteF ?_)
              obtain ⟨y, hy, rfl, hw⟩ := hin (by omega)
              exact ⟨l, d, y, rfl, rfl, rfl, hw, hy⟩
          · rintro σ' H8 Q1 Q2 mono ⟨x6, h6, x8, h8, x9, h9, x1, h1, x7, h7, a, d, r, c, n, f, e, ea, hc, i, j, e1, e2, k, hk, h⟩
            exact ⟨x6, h6, x8, h8, x9, h9, x1, h1, x7, h7, a, d, r, c, n, f, e, ea, hc, i, j, e1, e2, k, hk, mono _ _ h⟩
        rintro σ' H5 ⟨l2, d, st2, rfl, rfl, rfl, hw, hs2⟩
        refine ⟨_, rfl, .inl ⟨rfl, _, SqL.of eD4⟩, _, rfl, D, _, _, rfl, rfl, eD4, small1000 (by rw [nv_len]; omega), ?_⟩
        refine ⟨_, rfl, _, rfl, _, rfl, d, r, rfl, _, _, rfl, rfl, ?_⟩
        have hzD : z ≠ D := fun y => by rw [y, eD] at nz; cases nz
        refine ⟨l2, c - wd r d, some (.ref b), some (.int d), pre ++ [d], st2, ?_, fun q o e => ?_, (upd_ne hzD).trans ez4, by rw [upd_same, appN], by rw [ecd, List.append_assoc]; rfl, by rw [List.length_append, hpl]; rfl, by omega, by rw [show n - (j + 1) = k by omega]; exact hs2⟩
        · have e1 : (c : Int) - (wd r d : Nat) = ((c - wd r d : Nat) : Int) := by omega
          show [some (V.int n), some (V.int r), some (V.int c0), some (V.int i), some (V.ref p), some (V.ref D), some (V.int l2), some (V.int ((c : Int) - (wd r d : Nat))), some (V.ref b), some (V.int d)] = _
          rw [e1]
        · rw [upd_ne (fun y => by rw [y, nD] at e; cases e)]
          exact s4 _ _ e
      · rintro σ' H4 ⟨l, c, x8, x9, pre, st, rfl, s4, ez4, eD4, ecd, hpl, hcn, hst⟩
        rw [hlen] at hst hpl
        rw [Nat.sub_self] at hst
        have hmem := (sufS_mem r 0 n c st (List.mem_of_getElem? hst)).1
        have e0 : st = [] := List.length_eq_zero_iff.mp hmem
        rw [e0, List.append_nil] at ecd
        exact ⟨_, _, _, _, rfl, s4, by rw [ecd]; exact eD4⟩
    rintro σ' H3 ⟨x6, x7, x8, x9, rfl, s3, eD3⟩
    obtain ⟨h1, h2, h3⟩ := sufS_mem r n 0 c0 cd (List.mem_of_getElem? hcd)
    exact ⟨_, rfl, D, cd, rfl, .inl eD3, by omega, fun i x h => by have := h3 i x h; omega, fun H4 t s4 et => q H4 t ((s1.trans s3).trans s4) et⟩
theorem b_oa (T : Tx K mg A) : L2.Binds K A.d_order_at ["many", "room", "number", "index"] [] := T.F_order_at.binds fun _ _ _ _ _ _ us hl => match us, hl with | [_, _, _, _], _ => rfl

end
end Tw

set_option Elab.async false
set_option linter.all false
set_option maxRecDepth 100000
set_option maxHeartbeats 2000000
namespace Tw
open PySem PySem.Spec PyProof.Rows L2
section
variable {P : Program} {w : World} {K : PySem.W.Frag} {mg : Str → Option Value} {base : Heap} {A : Ad}
open LamX (ExtN Tabs TabS)
theorem ixN_nat {n p : Nat} (h : p < n) : ixN n (p : Int) = some p := by
  unfold ixN
  rw [if_pos (by omega), if_pos (by omega), Int.toNat_natCast]
theorem n1 : ¬ (("many" : Str) = "arms") := by decide +kernel
theorem n2 : ¬ (("many" : Str) = "_places") := by decide +kernel
theorem q1 : ¬ (("row" : Str) = "stops") := by decide +kernel
abbrev rLn (K : PySem.W.Frag) : List V → Hp → VK → Prop := fun xs H Q => ∃ p ys, xs = [.ref p] ∧ (SqL K H p ys ∨ SqT K H p ys) ∧ Q (.int ys.length) H
end
end Tw

set_option Elab.async false
set_option linter.all false
set_option maxRecDepth 100000
set_option maxHeartbeats 2000000
namespace Tw
open PySem PySem.Spec PyProof.Rows L2
section
variable {P : Program} {w : World} {K : PySem.W.Frag} {mg : Str → Option Value} {base : Heap} {A : Ad}
open LamX (ExtN Tabs TabS)
/-! the numbers multiplied out: repV -/
def lstN (f : Nat → Nat) (m : Nat) : List V := (List.range m).map fun c => V.int (f c : Nat)
theorem lstN_len (f : Nat → Nat) (m : Nat) : (lstN f m).length = m := by unfold lstN; rw [List.length_map, List.length_range]
theorem lstN_at (f : Nat → Nat) {m i : Nat} (h : i < m) : (lstN f m)[i]? = some (V.int (f i : Nat)) := by
  unfold lstN
  rw [List.getElem?_map, List.getElem?_range h]
  rfl
theorem lstN_set (f g : Nat → Nat) {m i : Nat} (h : i < m) (hg : ∀ c, c ≠ i → g c = f c) : (lstN f m).set i (V.int (g i : Nat)) = lstN g m := by
  apply List.ext_getElem?
  intro j
  by_cases hj : j < m
  · by_cases e : j = i
    · subst e
      rw [List.getElem?_set_self (by rw [lstN_len]; exact h), lstN_at g h]
    · rw [List.getElem?_set_ne (fun z => e z.symm), lstN_at f hj, lstN_at g hj, hg j e]
  · rw [List.getElem?_eq_none (by rw [List.length_set, lstN_len]; omega), List.getElem?_eq_none (by rw [lstN_len]; omega)]
def spLpr : Sp := fun vs H Q _ => ∃ n r : Nat, vs = [.int n, .int r] ∧ n ≤ 12 ∧ (1 ≤ r ∧ r ≤ 12) ∧ ∀ (H' : Hp) (q : Addr), Same H H' → H q = none → H' q = some (.lst (lstN (endE r 0 n) (n + 1))) → Q (.ref q) H'
theorem ok_lpr (T : Tx K mg A) : FnOk P w K mg base CX0 1 A.f__law_product A.d__law_product ["many", "room"] spLpr := by
  refine T.F__law_product.ok sc__law_product (fun vs H Q E h => ?_) (fun cdv B outer s H vs Q E hr h => ?_)
  · obtain ⟨n, r, rfl, _⟩ := h
    rfl
  · obtain ⟨n, r, rfl, hn, hrr, q⟩ := h
    have nd := sc__law_product.nd
    have hu := hr.units
    refine ⟨_, PSs.nox (pss_cons (ps_set (i := 2) nd rfl (Or.inl rfl) (pe_lst (pa_cons pe_int pa_nil)))
      (C8.pss_cut (ps_for PassesOwn.never rfl (pi_range2 rfl T.g_range (pa_cons pe_int (pa_cons (pe_op op_add (pv 0) pe_int) pa_nil))) (pg_name (i := 3) nd rfl (Or.inl rfl)) (pss_cons (ps_par (i := 4) (j := 5) rfl nd rfl rfl (by decide) rfl rfl (pa_cons (pe_callB (call_min2 rfl) (by rfl) T.g_min (by decide +kernel) (pa_cons (pv 3) (pa_cons (pv 1) pa_nil))) (pa_cons (pe_callB (call_max2 rfl) (by rfl) T.g_max (by decide +kernel) (pa_cons (pe_op op_sub (pv 3) (pv 1)) (pa_cons pe_int pa_nil))) pa_nil)) rfl)
      (C8.pss_cut (ps_set (i := 6) nd rfl (Or.inl rfl) (pe_op op_rep (pe_lst (pa_cons pe_int pa_nil)) (pe_op op_add (pe_callB (r := rLn K) call_len_seq (by rfl) T.g_len PySem.boot_len (pa_cons (pv 2) pa_nil)) pe_int)))
      (C8.pss_cut (ps_for PassesOwn.never rfl (pi_enS (by rfl) T.g_enumerate (pa_cons (pv 2) pa_nil)) (pg_tup rfl (pgs_cons (pg_name (i := 7) nd rfl (Or.inl rfl)) (pgs_cons (pg_name (i := 8) nd rfl (Or.inl rfl)) pgs_nil))) (pss_cons (ps_asg (pe_op op_add (pe_ix (r := rIxL K) ix_list (pv 6) (pv 7) (fun _ _ => rfl)) (pe_op op_mul (pv 8) (pv 5))) (pg_sub (pv 6) (pv 7) set_list))
      (pss_one (ps_asg (pe_op op_add (pe_ix (r := rIxL K) ix_list (pv 6) (pe_op op_add (pv 7) pe_int) (fun _ _ => rfl)) (pe_op op_mul (pv 8) (pv 4))) (pg_sub (pv 6) (pe_op op_add (pv 7) pe_int) set_list)))))
      (pss_one (ps_set (i := 2) nd rfl (Or.inl rfl) (pv 6)))))))
      (pss_one (ps_ret (pv 2))))), ?_⟩
    refine ⟨by show 1 ≤ sizeLine; decide, fun q0 nq0 => ?_⟩
    have s0 := Same.up (o := .lst [V.int 1]) nq0
    have e0 : upd H q0 (.lst [V.int 1]) q0 = _ := upd_same
    generalize upd H q0 (.lst [V.int 1]) = H0 at s0 e0
    refine ⟨fun σ' H' => ∃ (q1 : Addr) (x3 x4 x5 x6 x7 x8 : Option V), σ' = [some (.int n), some (.int r), some (.ref q1), x3, x4, x5, x6, x7, x8] ∧ Same H H' ∧ H q1 = none ∧ H' q1 = some (.lst (lstN (prodF r n) (n + 1))), ?_, ?_⟩
    · refine ⟨_, rfl, _, _, rfl, rfl, 1, ((n + 1 : Nat) : Int), congrArg (fun z => [V.int 1, V.int z]) (by show (n : Int) + 1 = _; omega), ⟨by omega, by omega, by omega, by omega⟩, ?_⟩
      rw [show (((n + 1 : Nat) : Int) - 1).toNat = n by omega]
      refine for_it (walk_range (lo := 1) (n := n)) (fun i σ' H' => ∃ (q1 : Addr) (x3 x4 x5 x6 x7 x8 : Option V), σ' = [some (.int n), some (.int r), some (.ref q1), x3, x4, x5, x6, x7, x8] ∧ Same H H' ∧ H q1 = none ∧ H' q1 = some (.lst (lstN (prodF r i) (i + 1))))
        ⟨q0, none, none, none, none, none, none, rfl, s0, nq0, e0⟩ (fun _ _ _ _ _ => trivial) ?_ (fun σ' H' h => h)
      rintro i y σ' Ho H2 hi ⟨q1, x3, x4, x5, x6, x7, x8, rfl, s2, n2, e2⟩ ⟨rfl, ey⟩
      obtain rfl : y = V.int ((i + 1 : Nat) : Int) := by
        rw [ey]
        show V.int (1 + (i : Int)) = _
        congr 1
        omega
      refine ⟨_, rfl, _, rfl, _, _, rfl, _, rfl, _, rfl, _, _, rfl, rfl, _, _, rfl, _, _, rfl, ?_⟩
      have ea : (if (r : Int) < ((i + 1 : Nat) : Int) then (r : Int) else ((i + 1 : Nat) : Int)) = ((min (i + 1) r : Nat) : Int) := by
        split <;> omega
      refine ⟨fun σ' H' => ∃ L : Addr, σ' = [some (.int n), some (.int r), some (.ref q1), some (.int ((i + 1 : Nat) : Int)), some (.int (min (i + 1) r : Nat)), some (.int (i + 1 - r : Nat)), some (.ref L), x7, x8] ∧ Same H2 H' ∧ H2 L = none ∧ H' L = some (.lst (lstN (lateN (i + 1) r (prodF r i) 0) (i + 2))), ?_, ?_⟩
      · refine ⟨by show 1 ≤ sizeLine; decide, fun z nz => ?_⟩
        have sz := Same.up (o := .lst [V.int 0]) nz
        have ez : upd H2 z (.lst [V.int 0]) z = _ := upd_same
        generalize upd H2 z (.lst [V.int 0]) = Hz at sz ez
        refine ⟨_, rfl, q1, lstN (prodF r i) (i + 1), rfl, .inl (SqL.of (sz _ _ e2)), _, _, rfl, rfl, z, ((i + 2 : Nat) : Int), [V.int 0], rfl, ?_, ez, by omega, by omega, ?_, fun L nL => ⟨L, ?_, ?_, ?_, ?_⟩⟩
        · rw [lstN_len]
          congr 1
        · show 1 * ((i + 2 : Nat) : Int).toNat ≤ sizeLine
          rw [sizeLine_eq]
          omega
        · have eb : (if ((i + 1 : Nat) : Int) - (r : Int) < 0 then (0 : Int) else ((i + 1 : Nat) : Int) - (r : Int)) = ((i + 1 - r : Nat) : Int) := by
            split <;> omega
          rw [← ea, ← eb]
          rfl
        · exact sz.trans (Same.up nL)
        · cases e : H2 L with
          | none => rfl
          | some o => rw [sz _ _ e] at nL; cases nL
        · rw [upd_same]
          congr 2
          show (List.replicate (i + 2) [V.int 0]).flatten = _
          unfold lstN
          rw [show (fun c => V.int (lateN (i + 1) r (prodF r i) 0 c : Nat)) = fun _ => V.int 0 from funext fun c => by rw [lateN_0]; rfl]
          rw [List.map_const', List.length_range, List.flatten_replicate_singleton]
      rintro σ' H3 ⟨L, rfl, s3, nL, eL⟩
      have hLq : L ≠ q1 := fun z => by rw [z, e2] at nL; cases nL
      refine ⟨fun σ' H' => ∃ (x7 x8 : Option V), σ' = [some (.int n), some (.int r), some (.ref q1), some (.int ((i + 1 : Nat) : Int)), some (.int (min (i + 1) r : Nat)), some (.int (i + 1 - r : Nat)), some (.ref L), x7, x8] ∧ (∀ b o, H2 b = some o → H' b = some o) ∧ H' L = some (.lst (lstN (lateN (i + 1) r (prodF r i) (i + 1)) (i + 2))), ?_, ?_⟩
      · refine ⟨_, rfl, q1, _, rfl, .inl ⟨SqL.of (s3 _ _ e2), ?_⟩⟩
        refine for_it (walk_enum (xs := lstN (prodF r i) (i + 1))) (fun j σ' H' => ∃ (x7 x8 : Option V), σ' = [some (.int n), some (.int r), some (.ref q1), some (.int ((i + 1 : Nat) : Int)), some (.int (min (i + 1) r : Nat)), some (.int (i + 1 - r : Nat)), some (.ref L), x7, x8] ∧ (∀ b o, H2 b = some o → H' b = some o) ∧ H' L = some (.lst (lstN (lateN (i + 1) r (prodF r i) j) (i + 2))))
          ⟨x7, x8, rfl, s3, eL⟩ (fun j σ' H' _ ⟨_, _, _, h, _⟩ => SqL.of (h _ _ e2)) ?_ (fun σ' H' h => by rw [lstN_len] at h; exact h)
        rintro j v σ' H4 H5 hj ⟨x7, x8, rfl, s4, eL4⟩ ⟨T', x, y, rfl, nT, rfl, ex, ey⟩
        rw [lstN_len] at hj
        have ey : (lstN (prodF r i) (i + 1))[j]? = some y := ey
        rw [lstN_at _ hj] at ey
        cases ey
        cases ex
        refine ⟨_, _, rfl, SqT.of upd_same, rfl, ?_⟩
        have s5 : Same H4 (upd H4 T' (.tup [.int (j : Nat), .int (prodF r i j : Nat)])) := Same.up nT
        have eL5 := s5 _ _ eL4
        generalize upd H4 T' (.tup [.int (j : Nat), .int (prodF r i j : Nat)]) = H5 at s5 eL5
        refine ⟨_, _, rfl, _, _, rfl, rfl, ?_⟩
        refine ⟨_, rfl, _, rfl, L, _, _, _, rfl, rfl, SqL.of eL5, atI_nat (lstN_at _ (show j < i + 2 by omega)), _, rfl, _, rfl, _, _, rfl, rfl, .inr ⟨by omega, by omega⟩, _, _, rfl, rfl, _, rfl, _, rfl, L, _, (j : Int), j, rfl, rfl, eL5, by rw [lstN_len]; exact ixN_nat (by omega), ?_⟩
        obtain ⟨g1, hg1⟩ : ∃ g1 : Nat → Nat, g1 = fun c => lateN (i + 1) r (prodF r i) j c + (if c = j then prodF r i j * (i + 1 - r) else 0) := ⟨_, rfl⟩
        have hv1 : ((lateN (i + 1) r (prodF r i) j j : Nat) : Int) + ((prodF r i j : Nat) : Int) * ((i + 1 - r : Nat) : Int) = ((g1 j : Nat) : Int) := by
          rw [hg1]
          show _ = ((lateN (i + 1) r (prodF r i) j j + (if j = j then prodF r i j * (i + 1 - r) else 0) : Nat) : Int)
          rw [if_pos rfl, Int.natCast_add, Int.natCast_mul]
        dsimp only
        rw [hv1, lstN_set (lateN (i + 1) r (prodF r i) j) g1 (by omega) (fun c hc => by rw [hg1]; show _ + (if c = j then _ else _) = _; rw [if_neg hc, Nat.add_zero])]
        have hv2 : ((g1 (j + 1) : Nat) : Int) + ((prodF r i j : Nat) : Int) * ((min (i + 1) r : Nat) : Int) = ((lateN (i + 1) r (prodF r i) (j + 1) (j + 1) : Nat) : Int) := by
          rw [lateN_step, hg1, if_pos rfl]
          simp only [Int.natCast_add, Int.natCast_mul]
        have hs2 := lstN_set (m := i + 2) g1 (lateN (i + 1) r (prodF r i) (j + 1)) (i := j + 1) (by omega) (fun c hc => by rw [lateN_step, hg1, if_neg hc, Nat.add_zero])
        refine ⟨_, rfl, _, rfl, _, _, rfl, rfl, L, _, _, _, rfl, rfl, SqL.of upd_same, atI_nat (j := j + 1) (lstN_at _ (show j + 1 < i + 2 by omega)), _, rfl, _, rfl, _, _, rfl, rfl, .inr ⟨by omega, by omega⟩, _, _, rfl, rfl, _, rfl, _, rfl, _, _, rfl, rfl, L, _, ((j + 1 : Nat) : Int), j + 1, rfl, rfl, upd_same, by rw [lstN_len]; exact ixN_nat (by omega), ?_⟩
        refine ⟨_, _, rfl, fun b o e => ?_, ?_⟩
        · have hb : b ≠ L := fun z => by rw [z, nL] at e; cases e
          rw [upd_ne hb, upd_ne hb]
          exact s5 _ _ (s4 _ _ e)
        · rw [upd_same]
          dsimp only
          rw [hv2, hs2]
      rintro σ' H4 ⟨x7, x8, rfl, s4, eL4⟩
      refine ⟨_, rfl, L, _, _, _, _, _, _, rfl, fun b o e => s4 _ _ (s2 _ _ e), ?_, ?_⟩
      · cases e : H L with
        | none => rfl
        | some o => rw [s2 _ _ e] at nL; cases nL
      · rw [eL4]
        congr 2
        unfold lstN
        refine List.map_congr_left fun c hc => ?_
        rw [lateN_all (i + 1) r (prodF r i) (fun c hc => prodF_big r i c (by omega)) c (by have := List.mem_range.mp hc; omega)]
        rfl
    rintro σ' H1 ⟨q1, x3, x4, x5, x6, x7, x8, rfl, s1, n1, e1⟩
    exact ⟨_, rfl, q H1 q1 s1 n1 (by rw [e1, prod_end])⟩
theorem b_lpr (T : Tx K mg A) : L2.Binds K A.d__law_product ["many", "room"] [] := T.F__law_product.binds fun _ _ _ _ _ _ us hl => match us, hl with | [_, _], _ => rfl

end
end Tw

set_option Elab.async false
set_option linter.all false
set_option maxRecDepth 100000
set_option maxHeartbeats 2000000
namespace Tw
open PySem PySem.Spec PyProof.Rows L2
section
variable {P : Program} {w : World} {K : PySem.W.Frag} {mg : Str → Option Value} {base : Heap} {A : Ad}
open LamX (ExtN Tabs TabS)
theorem b_oc (T : Tx K mg A) : L2.Binds K A.d_order_code ["order"] [] := T.F_order_code.binds fun _ _ _ _ _ _ us hl => match us, hl with | [_], _ => rfl
theorem pi_or {X : Cx} {tg e : Expr} {w1 w2 : TI} (h1 : PI X tg e w1) (h2 : PI X tg e w2) : PI X tg e (fun σ H R => w1 σ H R ∨ w2 σ H R) :=
  ⟨fun pins s σ H R I h => h.elim (h1.run pins s σ H R I) (h2.run pins s σ H R I)⟩
def outSc (b : List Stmt) (i : Nat) : Scope := match b[i]? with
  | some (.Return (some (.Call _ (.ListComp _ _ s _ :: _) _ _)) _) => s
  | _ => defScope s_is_integer
abbrev wInn (K : PySem.W.Frag) : TI := fun σ H R => iList K (tSl (rSlL K) (tVar 0) tNoPart (tPart (tVar 2))) σ H R ∨ iTup K (tSl (rSlT K) (tVar 0) tNoPart (tPart (tVar 2))) σ H R
theorem natB_len (p : List Nat) : (natB p).length = p.length := by
  unfold natB
  rw [List.length_map]
theorem nv_cut (p : List Nat) (i : Nat) (h : i ≤ p.length) : cutV (nv p) none (some (i : Int)) = nv (p.take i) := by
  unfold cutV
  rw [HT.sIx_none, HT.sIx_nat, List.drop_zero, Nat.sub_zero, nv_len, Nat.min_eq_left h]
  unfold nv natB
  rw [List.map_take, List.map_take]
theorem ints_dp (K : PySem.W.Frag) (H : Hp) : ∀ ns : List Int, DpAll K H (ns.map V.int) (ns.map PyData.int)
  | [] => .nil
  | n :: ns => .cons (.int n) (ints_dp K H ns)
theorem shaped_ints (ns : List Int) : SeqAt.shaped (.list (ns.map PyData.int)) = true := by
  have h1 : ∀ ms : List Int, PyData.canLayAll0 (ms.map PyData.int) = true := fun ms => by
    induction ms with
    | nil => rfl
    | cons m ms ih => rw [List.map_cons, PyData.canLayAll0, ih]; rfl
  have h2 : ∀ ms : List Int, PyData.depthAll (ms.map PyData.int) ≤ 1 := fun ms => by
    induction ms with
    | nil => simp [PyData.depthAll]
    | cons m ms ih =>
      simp only [List.map_cons, PyData.depthAll, PyData.depth]
      omega
  have h3 : PyData.depth (.list (ns.map PyData.int)) ≤ 64 := by
    have := h2 ns
    simp only [PyData.depth]
    omega
  unfold SeqAt.shaped
  rw [decide_eq_true h3, Bool.and_true]
  simp only [PyData.canLay0]
  exact h1 ns
theorem cr_or {X : Cx} {f : Value} {r1 r2 : List V → Hp → VK → Prop} (h1 : CallR X f r1) (h2 : CallR X f r2) : CallR X f (fun vs H Q => r1 vs H Q ∨ r2 vs H Q) := by
  intro pins s σ H vs us Q I rv h
  rcases h with h | h
  · exact h1 pins s σ H vs us Q I rv h
  · exact h2 pins s σ H vs us Q I rv h
theorem sort_sq {K : PySem.W.Frag} {H : Hp} {r : Addr} {ks : List Int} {Q : VK} (h : Sq H r (ks.map V.int)) (q : ∀ (ns' : List Int) (p : Addr), ns'.Perm ks → ns'.Pairwise (· ≤ ·) → H p = none → Q (.ref p) (upd H p (.lst (ns'.map V.int)))) : rSortedI K [.ref r] H Q ∨ rSortedTu K [.ref r] H Q := by
  rcases h with h | h
  · exact .inl ⟨r, ks, rfl, SqL.of h, q⟩
  · exact .inr ⟨r, ks, rfl, SqT.of h, q⟩
theorem refl_of {d : PyData} (h : SeqAt.shaped d = true) : PyData.eqv d d = true := PySem.SeqAt.eqv_refl d (SeqAt.canLay_of_shaped h)
theorem full_bnd {p : List Nat} (h : p.Perm (List.range p.length)) {i : Nat} (hi : i < p.length) : p[i] < p.length := List.mem_range.mp (h.mem_iff.mp (List.getElem_mem hi))
theorem sorted_one {xs ys : List Int} (hp : xs.Perm ys) (h1 : xs.Pairwise (· ≤ ·)) (h2 : ys.Pairwise (· ≤ ·)) : xs = ys := List.Perm.eq_of_pairwise (fun x y _ _ h1 h2 => Int.le_antisymm h1 h2) h1 h2 hp
theorem full_srt {p : List Nat} (h : p.Perm (List.range p.length)) {ns : List Int} (h1 : ns.Perm (natB p)) (h2 : ns.Pairwise (· ≤ ·)) : ns = natB (List.range p.length) := by
  refine sorted_one (h1.trans ?_) h2 ?_
  · unfold natB
    exact h.map _
  · unfold natB
    rw [List.pairwise_map]
    exact List.pairwise_lt_range.imp fun h => Int.ofNat_le.mpr (Nat.le_of_lt h)
def spFull : Sp := fun vs H Q _ => ∃ (a : Addr) (p : List Nat), vs = [.ref a, .int (p.length : Nat)] ∧ Sq H a (nv p) ∧ p.length ≤ 12 ∧ p.Perm (List.range p.length) ∧ ∀ H', Same H H' → Q (.bl true) H'
theorem ok_full (T : Tx K mg A) : FnOk P w K mg base CX0 3 A.f_is_full A.d_is_full ["thing", "many"] spFull := by
  refine T.F_is_full.ok sc_is_full (fun vs H Q E h => ?_) (fun cdv B outer s H vs Q E hr h => ?_)
  · obtain ⟨a, p, rfl, _⟩ := h
    rfl
  · obtain ⟨a, p, rfl, ha, h12, hp, q⟩ := h
    have nd := sc_is_full.nd
    have hu := hr.units
    refine ⟨_, (pss_one (ps_ret (pe_and (pe_callB (cr_all rfl) (by rfl) T.g_all (by decide +kernel) (pa_cons (pe_lc (own := [("item", 2)]) (g := gName 2) (tt := tYes) rfl nd (pi_or (pi_list (pv 0)) (pi_tup (pv 0))) (blkOk_by (own := [("item", 2)]) (N := ["thing", "many", "item"]) (sc := (defScope s_is_full)) (by decide +kernel)) (fun _ _ _ _ _ => pg_name (i := 2) nd rfl (Or.inl rfl)) (fun _ _ _ _ _ => pts_nil) (fun _ _ _ _ _ => (pe_call (ok_ii T) (hr.mono (by decide)) (by rfl) T.m_is_integer_from T.F_is_integer_from.kp (b_ii T) .nil pass0 (pa_cons (pv 2) (pa_cons pe_int (pa_cons (pe_op op_sub (pv 1) pe_int) pa_nil)))))) pa_nil)) (pe_one (pe_cmpR (op_eqD hu) (pe_callB (cr_or cr_sortedI cr_sortedTu) (by rfl) T.g_sorted (by decide +kernel) (pa_cons (pv 0) pa_nil)) (pe_listRg rfl (by rfl) T.g_list (prg_1 (by rfl) T.g_range (pv 1))) (nomark _)))))), ?_⟩
    rcases id ha with h1 | h1
    · refine Or.inl ⟨_, rfl, a, rfl, ⟨_, SqL.of h1⟩, fun D nD => ?_⟩
      refine lc_it (walk_list (xs := nv p)) (fun i H' => Acc H D (List.replicate i (V.bl true)) H') (Acc.start nD) (fun i H' _ ac => SqL.of (ac.s _ _ h1)) ?_ ?_
      · rintro j y H2o H2 hj ac ⟨rfl, hy⟩
        obtain ⟨hj2, rfl⟩ := nv_at hy
        have hb := full_bnd hp hj2
        refine ⟨rfl, iteT (B := Acc H D (List.replicate (j + 1) (V.bl true)) H2) ?_⟩
        refine ⟨_, rfl, _, rfl, _, _, rfl, rfl, _, _, _, rfl, Or.inl ⟨_, rfl, ?_⟩⟩
        rw [decide_eq_true (show (0 : Int) ≤ (p[j] : Nat) ∧ ((p[j] : Nat) : Int) ≤ (p.length : Int) - 1 by omega)]
        refine ⟨_, ac.a, by rw [List.length_replicate, sizeLine_eq]; omega, ?_⟩
        rw [show List.replicate (j + 1) (V.bl true) = List.replicate j (V.bl true) ++ [V.bl true] from List.replicate_succ']
        exact ac.push
      · intro H2 ac
        rw [nv_len] at ac
        refine ⟨D, List.replicate p.length true, rfl, SqL.of (by rw [ac.a, List.map_replicate]), ?_⟩
        rw [repl_all]
        refine ⟨true, rfl, iteT ?_⟩
        refine ⟨_, rfl, sort_sq (ha.same ac.s) fun ns' q2 perm srt n2 => ?_⟩
        have s2 := ac.s.trans (Same.up (o := .lst (ns'.map V.int)) n2)
        refine ⟨_, rfl, _, rfl, RgOk.of_le (by omega) (by omega) (by omega) (by omega), fun l nl => ?_⟩
        rw [full_srt hp perm srt] at nl ⊢
        rw [nv_rg]
        refine ⟨.list ((natB (List.range p.length)).map PyData.int), .list ((natB (List.range p.length)).map PyData.int), .lst (SqL.of ((Same.up nl) _ _ upd_same)) (ints_dp _ _ _), .lst (SqL.of upd_same) (ints_dp _ _ _), shaped_ints _, shaped_ints _, ?_⟩
        rw [refl_of (shaped_ints _)]
        rw [full_srt hp perm srt] at s2
        exact q _ (s2.trans (Same.up nl))
    · refine Or.inr ⟨_, rfl, a, rfl, ⟨_, SqT.of h1⟩, fun D nD => ?_⟩
      refine lc_it (walk_tup (xs := nv p)) (fun i H' => Acc H D (List.replicate i (V.bl true)) H') (Acc.start nD) (fun i H' _ ac => SqT.of (ac.s _ _ h1)) ?_ ?_
      · rintro j y H2o H2 hj ac ⟨rfl, hy⟩
        obtain ⟨hj2, rfl⟩ := nv_at hy
        have hb := full_bnd hp hj2
        refine ⟨rfl, iteT (B := Acc H D (List.replicate (j + 1) (V.bl true)) H2) ?_⟩
        refine ⟨_, rfl, _, rfl, _, _, rfl, rfl, _, _, _, rfl, Or.inl ⟨_, rfl, ?_⟩⟩
        rw [decide_eq_true (show (0 : Int) ≤ (p[j] : Nat) ∧ ((p[j] : Nat) : Int) ≤ (p.length : Int) - 1 by omega)]
        refine ⟨_, ac.a, by rw [List.length_replicate, sizeLine_eq]; omega, ?_⟩
        rw [show List.replicate (j + 1) (V.bl true) = List.replicate j (V.bl true) ++ [V.bl true] from List.replicate_succ']
        exact ac.push
      · intro H2 ac
        rw [nv_len] at ac
        refine ⟨D, List.replicate p.length true, rfl, SqL.of (by rw [ac.a, List.map_replicate]), ?_⟩
        rw [repl_all]
        refine ⟨true, rfl, iteT ?_⟩
        refine ⟨_, rfl, sort_sq (ha.same ac.s) fun ns' q2 perm srt n2 => ?_⟩
        have s2 := ac.s.trans (Same.up (o := .lst (ns'.map V.int)) n2)
        refine ⟨_, rfl, _, rfl, RgOk.of_le (by omega) (by omega) (by omega) (by omega), fun l nl => ?_⟩
        rw [full_srt hp perm srt] at nl ⊢
        rw [nv_rg]
        refine ⟨.list ((natB (List.range p.length)).map PyData.int), .list ((natB (List.range p.length)).map PyData.int), .lst (SqL.of ((Same.up nl) _ _ upd_same)) (ints_dp _ _ _), .lst (SqL.of upd_same) (ints_dp _ _ _), shaped_ints _, shaped_ints _, ?_⟩
        rw [refl_of (shaped_ints _)]
        rw [full_srt hp perm srt] at s2
        exact q _ (s2.trans (Same.up nl))
theorem b_full (T : Tx K mg A) : L2.Binds K A.d_is_full ["thing", "many"] [] := T.F_is_full.binds fun _ _ _ _ _ _ us hl => match us, hl with | [_, _], _ => rfl
theorem pickI_len (l : List Int) (b : Int → Bool) : (l.filterMap fun z => if b z = true then some (V.int z) else none).length = (l.filter b).length := by
  induction l with
  | nil => rfl
  | cons a l ih =>
    by_cases h : b a = true
    · rw [List.filterMap_cons, if_pos h, List.filter_cons_of_pos h, List.length_cons, List.length_cons, ih]
    · rw [List.filterMap_cons, if_neg h, List.filter_cons_of_neg h, ih]
theorem more_len (p : List Nat) (x : Nat) : ((natB p).filterMap fun z => if decide ((x : Int) < z) = true then some (V.int z) else none).length = (p.filter fun y => decide (x < y)).length := by
  rw [pickI_len]
  unfold natB
  rw [List.filter_map, List.length_map]
  congr 1
  refine List.filter_congr fun y _ => ?_
  show decide ((x : Int) < Int.ofNat y) = decide (x < y)
  exact decide_eq_decide.mpr Int.ofNat_lt
theorem code_step {p : List Nat} {j : Nat} (h : j < p.length) : nv ((codeL p).take (j + 1)) = nv ((codeL p).take j) ++ [V.int (((p.take j).filter fun y => decide (p[j] < y)).length : Nat)] := by
  have hj : j < (codeL p).length := by rw [codeL_len]; exact h
  rw [← List.take_append_getElem hj, codeL_at h, getD_in h]
  unfold nv natB
  rw [List.map_append, List.map_append]
  rfl
def spOc : Sp := fun vs H Q _ => ∃ (a : Addr) (p : List Nat), vs = [.ref a] ∧ Sq H a (nv p) ∧ p.length ≤ 12 ∧ p.Perm (List.range p.length) ∧
  ∀ (H' : Hp) (t : Addr), Same H H' → H' t = some (.tup (nv (codeL p))) → Q (.ref t) H'
theorem ok_oc (T : Tx K mg A) : FnOk P w K mg base CX0 4 A.f_order_code A.d_order_code ["order"] spOc := by
  refine T.F_order_code.ok sc_order_code (fun vs H Q E h => ?_) (fun cdv B outer s H vs Q E hr h => ?_)
  · obtain ⟨a, c, rfl, _⟩ := h
    rfl
  · obtain ⟨a, p, rfl, ha, h12, hp, q⟩ := h
    have nd := sc_order_code.nd
    obtain ⟨t12, hg⟩ := cst T.c_MOST_ITEMS
    refine ⟨_, PSs.nox (pss_cons (ps_if (PW.pt (pw_or (pt_not (pt_val (pe_callB call_isiT (by rfl) T.g_isinstance (by decide +kernel) (pa_cons (pv 0) (pa_cons (pe_tup (pa_cons (pe_bltn (v := .ty "list") (by rfl) T.g_list (by decide +kernel) rfl) (pa_cons (pe_bltn (v := .ty "tuple") (by rfl) T.g_tuple (by decide +kernel) rfl) pa_nil))) pa_nil))))) (pw_or (pt_cmpR op_gt (pe_callB call_len_seq (by rfl) T.g_len PySem.boot_len (pa_cons (pv 0) pa_nil)) (pe_glob (by rfl) hg (relI _ _)) (nomark _)) (pw_or1 (pt_not (pt_val (pe_call (ok_full T) (hr.mono (by decide)) (by rfl) T.m_is_full T.F_is_full.kp (b_full T) .nil pass0 (pa_cons (pv 0) (pa_cons (pe_callB call_len_seq (by rfl) T.g_len PySem.boot_len (pa_cons (pv 0) pa_nil)) pa_nil))))))))) (pss_one ps_never) pss_nil)
      (pss_one (ps_ret (pe_callTy call_tuple_of (by rfl) T.g_tuple (by decide +kernel) (pa_cons (pe_lc (own := [("at", 2), ("item", 3)]) (g := gTup K 2 (gCons (gName 2) (gCons (gName 3) gNil))) (tt := tYes) rfl nd (pi_enS (by rfl) T.g_enumerate (pa_cons (pv 0) pa_nil)) (blkOk_by (own := [("at", 2), ("item", 3)]) (N := ["order", "before", "at", "item"]) (sc := (defScope s_order_code)) (by decide +kernel)) (fun _ _ _ _ _ => pg_tup rfl (pgs_cons (pg_name (i := 2) nd rfl (Or.inl rfl)) (pgs_cons (pg_name (i := 3) nd rfl (Or.inr rfl)) pgs_nil))) (fun _ _ _ _ _ => pts_nil) (fun _ _ _ _ _ => (pe_callB (r := rLn K) call_len_seq (by rfl) T.g_len PySem.boot_len (pa_cons (pe_lc (own := [("before", 1)]) (wi := wInn K) (g := gName 1) rfl nd (pi_or (pi_list (pe_slice sl_list (pv 0) po_none (po_some (pv 2)))) (pi_tup (pe_slice sl_tup (pv 0) po_none (po_some (pv 2))))) (blkOk_by (own := [("before", 1)]) (N := ["order", "before", "at", "item"]) (sc := (relS (outSc (defBody s_order_code) 1) (defScope s_order_code))) (by decide +kernel)) (fun _ _ _ _ _ => pg_name (i := 1) nd rfl (Or.inl rfl)) (fun _ _ _ _ _ => pts_one (pt_cmpR op_gt (pv 1) (pv 3) (nomark _))) (fun _ _ _ _ _ => (pv 1))) pa_nil)))) pa_nil))))), ?_⟩
    refine ⟨_, rfl, by show 2 ≤ sizeLine; decide, fun tp htp => ?_⟩
    have s1 := Same.up (o := .tup [.ty "list", .ty "tuple"]) htp
    have ha1 := ha.same s1
    obtain ⟨c, b1, ty, k1, k2⟩ := seq_isi (K := K) ha1
    refine ⟨_, tp, _, .type c, [.type "list", .type "tuple"], true, rfl, upd_same, .cons (.ty _) (.cons (.ty _) .nil), ty, kitAny_cons k1 (fun z => kitAny_cons (k2 z) (fun z => by cases z) (fun _ => rfl)) (fun _ => rfl), true, rfl, ?_⟩
    refine iteF ⟨_, rfl, a, _, rfl, ha1.len, _, _, rfl, rfl, _, rfl, ?_⟩
    rw [decide_eq_false (show ¬ (12 : Int) < ((nv p).length : Int) by rw [nv_len]; omega)]
    refine iteF ?_
    refine ⟨_, rfl, _, rfl, a, _, rfl, ha1.len, a, p, by rw [nv_len]; rfl, ha1, h12, hp, fun H1 s2 => ?_⟩
    refine ⟨_, rfl, iteF ?_⟩
    have ha2 := ha1.same s2
    have s3 := s1.trans s2
    rcases id ha2 with h1 | h1
    · refine ⟨_, rfl, a, _, rfl, Or.inl ⟨SqL.of h1, fun D nD => ?_⟩⟩
      refine lc_it (walk_enum (xs := nv p)) (fun i H' => Acc H1 D (nv ((codeL p).take i)) H') (Acc.start nD) (fun i H' _ ac => SqL.of (ac.s _ _ h1)) ?_ ?_
      · rintro j y H2 H3 hj ac ⟨T', x, x2, rfl, hT, rfl, e1, e2⟩
        obtain ⟨hj2, rfl⟩ := nv_at e2
        cases e1
        have ac3 := ac.same (Same.up (o := .tup [V.int (j : Nat), V.int (p[j] : Nat)]) hT)
        refine ⟨_, _, rfl, SqT.of upd_same, rfl, _, _, rfl, _, _, rfl, rfl, rfl, iteT (B := Acc H1 D (nv ((codeL p).take (j + 1))) (upd H2 T' (.tup [V.int (j : Nat), V.int (p[j] : Nat)]))) ?_⟩
        generalize upd H2 T' (.tup [V.int (j : Nat), V.int (p[j] : Nat)]) = G3 at ac3
        have h3 := ac3.s _ _ h1
        refine Or.inl ⟨_, rfl, _, rfl, _, rfl, a, _, rfl, SqL.of h3, fun p2 hp2 => ?_⟩
        rw [nv_cut _ _ (by omega)]
        have s4 := Same.up (o := .lst (nv (p.take j))) hp2
        have hp4 : upd G3 p2 (.lst (nv (p.take j))) p2 = some (.lst (nv (p.take j))) := upd_same
        generalize upd G3 p2 (.lst (nv (p.take j))) = G4 at s4 hp4
        refine ⟨p2, rfl, ⟨_, SqL.of hp4⟩, fun D2 nD2 => ?_⟩
        have htl : (natB (p.take j)).length ≤ 12 := by rw [natB_len, List.length_take]; omega
        refine lc_it (walk_list (xs := nv (p.take j))) (PickI G4 D2 (natB (p.take j)) fun z => if decide (((p[j] : Nat) : Int) < z) = true then some (V.int z) else none) (pick_start nD2) (fun i H' _ h => SqL.of (h.s _ _ hp4)) ?_ ?_
        · rintro i x H5 H6 hi pk ⟨rfl, ex⟩
          obtain ⟨hi2, rfl⟩ := map_at ex
          refine ⟨rfl, _, rfl, _, rfl, _, _, rfl, rfl, _, rfl, ?_⟩
          by_cases hf : ((p[j] : Nat) : Int) < (natB (p.take j))[i]
          · rw [decide_eq_true hf]
            exact iteT ⟨_, rfl, pick_yes hi2 (by omega) (by rw [decide_eq_true hf]; rfl) (Same.refl _) pk⟩
          · rw [decide_eq_false hf]
            exact iteF (pick_no hi2 (by rw [decide_eq_false hf]; rfl) (Same.refl _) pk)
        · intro H5 pk
          have aL := pick_end (by rw [nv_len, natB_len]) pk
          refine ⟨D2, _, rfl, .inl (SqL.of aL.a), ?_⟩
          rw [more_len]
          have ac5 := (ac3.same s4).same aL.s
          refine ⟨_, ac5.a, by rw [nv_len, List.length_take, codeL_len, sizeLine_eq]; omega, ?_⟩
          rw [code_step hj2]
          exact ac5.push
      · intro H2 ac
        rw [nv_len, show (codeL p).take p.length = codeL p by rw [← codeL_len, List.take_length]] at ac
        exact ⟨D, _, rfl, .inl ⟨SqL.of ac.a, fun t nt => q _ t ((s3.trans ac.s).trans (Same.up nt)) upd_same⟩⟩
    · refine ⟨_, rfl, a, _, rfl, Or.inr ⟨SqT.of h1, fun D nD => ?_⟩⟩
      refine lc_it (walk_enumT (xs := nv p)) (fun i H' => Acc H1 D (nv ((codeL p).take i)) H') (Acc.start nD) (fun i H' _ ac => SqT.of (ac.s _ _ h1)) ?_ ?_
      · rintro j y H2 H3 hj ac ⟨T', x, x2, rfl, hT, rfl, e1, e2⟩
        obtain ⟨hj2, rfl⟩ := nv_at e2
        cases e1
        have ac3 := ac.same (Same.up (o := .tup [V.int (j : Nat), V.int (p[j] : Nat)]) hT)
        refine ⟨_, _, rfl, SqT.of upd_same, rfl, _, _, rfl, _, _, rfl, rfl, rfl, iteT (B := Acc H1 D (nv ((codeL p).take (j + 1))) (upd H2 T' (.tup [V.int (j : Nat), V.int (p[j] : Nat)]))) ?_⟩
        generalize upd H2 T' (.tup [V.int (j : Nat), V.int (p[j] : Nat)]) = G3 at ac3
        have h3 := ac3.s _ _ h1
        refine Or.inr ⟨_, rfl, _, rfl, _, rfl, a, _, rfl, SqT.of h3, (fun z => by have z2 := z.2; rw [HT.sIx_nat, nv_len] at z2; omega), fun p2 hp2 => ?_⟩
        rw [nv_cut _ _ (by omega)]
        have s4 := Same.up (o := .tup (nv (p.take j))) hp2
        have hp4 : upd G3 p2 (.tup (nv (p.take j))) p2 = some (.tup (nv (p.take j))) := upd_same
        generalize upd G3 p2 (.tup (nv (p.take j))) = G4 at s4 hp4
        refine ⟨p2, rfl, ⟨_, SqT.of hp4⟩, fun D2 nD2 => ?_⟩
        have htl : (natB (p.take j)).length ≤ 12 := by rw [natB_len, List.length_take]; omega
        refine lc_it (walk_tup (xs := nv (p.take j))) (PickI G4 D2 (natB (p.take j)) fun z => if decide (((p[j] : Nat) : Int) < z) = true then some (V.int z) else none) (pick_start nD2) (fun i H' _ h => SqT.of (h.s _ _ hp4)) ?_ ?_
        · rintro i x H5 H6 hi pk ⟨rfl, ex⟩
          obtain ⟨hi2, rfl⟩ := map_at ex
          refine ⟨rfl, _, rfl, _, rfl, _, _, rfl, rfl, _, rfl, ?_⟩
          by_cases hf : ((p[j] : Nat) : Int) < (natB (p.take j))[i]
          · rw [decide_eq_true hf]
            exact iteT ⟨_, rfl, pick_yes hi2 (by omega) (by rw [decide_eq_true hf]; rfl) (Same.refl _) pk⟩
          · rw [decide_eq_false hf]
            exact iteF (pick_no hi2 (by rw [decide_eq_false hf]; rfl) (Same.refl _) pk)
        · intro H5 pk
          have aL := pick_end (by rw [nv_len, natB_len]) pk
          refine ⟨D2, _, rfl, .inl (SqL.of aL.a), ?_⟩
          rw [more_len]
          have ac5 := (ac3.same s4).same aL.s
          refine ⟨_, ac5.a, by rw [nv_len, List.length_take, codeL_len, sizeLine_eq]; omega, ?_⟩
          rw [code_step hj2]
          exact ac5.push
      · intro H2 ac
        rw [nv_len, show (codeL p).take p.length = codeL p by rw [← codeL_len, List.take_length]] at ac
        exact ⟨D, _, rfl, .inl ⟨SqL.of ac.a, fun t nt => q _ t ((s3.trans ac.s).trans (Same.up nt)) upd_same⟩⟩
end
end Tw

set_option Elab.async false
set_option linter.all false
set_option maxRecDepth 100000
set_option maxHeartbeats 2000000
namespace Tw
open PySem PySem.Spec PyProof.Rows L2
section
variable {P : Program} {w : World} {K : PySem.W.Frag} {mg : Str → Option Value} {base : Heap} {A : Ad}
open LamX (ExtN Tabs TabS)
/-! the index of an order: pe_dget2 -/
theorem cntW_le (r : Nat) : ∀ c : List Nat, cntW r c ≤ c.length
  | [] => Nat.le_refl _
  | d :: c => by
    rw [cntW_cons, List.length_cons]
    have := cntW_le r c
    have : wd r d ≤ 1 := by unfold wd; split <;> omega
    omega
theorem cntW_sum (r : Nat) : ∀ c : List Nat, (c.map fun d => ((wd r d : Nat) : Int)).sum = (cntW r c : Nat)
  | [] => rfl
  | d :: c => by
    rw [cntW_cons, List.map_cons, List.sum_cons, cntW_sum r c]
    omega
def spOi : Sp := fun vs H Q _ => ∃ (r a : Nat) (p : List Nat), vs = [.int r, .ref a] ∧ (1 ≤ r ∧ r ≤ 12) ∧ Sq H a (nv p) ∧ p.length ≤ 12 ∧ p.Perm (List.range p.length) ∧
  ∀ (H' : Hp) (i : Nat), Same H H' → (sufS r 0 p.length (cntW r (codeL p)))[i]? = some (codeL p) → Q (.int i) H'
theorem ok_oi (T : Tx K mg A) : FnOk P w K mg base CX0 6 A.f_order_index A.d_order_index ["room", "order"] spOi := by
  refine T.F_order_index.ok sc_order_index (fun vs H Q E h => ?_) (fun cdv B outer s H vs Q E hr h => ?_)
  · obtain ⟨r, a, p, rfl, _⟩ := h
    rfl
  · obtain ⟨r, a, p, rfl, hrr, hp, hl, hpm, q⟩ := h
    have nd := sc_order_index.nd
    have hd1 := Nat.lt_of_le_of_lt (Nat.add_le_add_left (show 1 ≤ 64 by decide) _) hr.units
    refine ⟨_, PSs.nox (pss_cons (ps_expr (pe_call (ok_cr T) (hr.mono (by decide)) (by rfl) T.m_check_room T.F_check_room.kp (b_cr T) .nil pass0 (pa_cons (pv 0) pa_nil)))
      (pss_cons (ps_set (i := 2) nd rfl (Or.inl rfl) (pe_call (ok_oc T) (hr.mono (by decide)) (by rfl) T.m_order_code T.F_order_code.kp (b_oc T) .nil pass0 (pa_cons (pv 1) pa_nil)))
      (C8.pss_cut (ps_set (i := 4) nd rfl (Or.inl rfl) (pe_callB (r := rSum K) (cr_sum rfl) (by rfl) T.g_sum (by decide +kernel) (pa_cons (pe_lc (own := [("digit", 3)]) (g := gName 3) (tt := tYes) rfl nd (pi_tup (pv 2)) (blkOk_by (own := [("digit", 3)]) (N := ["room", "order", "code", "digit", "number", "ends", "index", "coming", "later", "lesser"]) (sc := defScope s_order_index) (by decide +kernel)) (fun _ _ _ _ _ => pg_name (i := 3) nd rfl (Or.inl rfl)) (fun _ _ _ _ _ => pts_nil) (fun _ _ _ _ _ => (pe_call (ok_dc T) (hr.mono (by decide)) (by rfl) T.m_does_come T.F_does_come.kp (b_dc T) .nil pass0 (pa_cons (pv 3) (pa_cons (pv 0) pa_nil))))) pa_nil)))
      (C8.pss_cut (ps_set (i := 5) nd rfl (Or.inl rfl) (pe_call (ok_ef T) (hr.mono (by decide)) (by rfl) T.m_ends_for T.F_ends_for.kp (b_ef T) .nil pass0 (pa_cons (pe_callB (r := rLn K) call_len_seq (by rfl) T.g_len PySem.boot_len (pa_cons (pv 2) pa_nil)) (pa_cons (pv 0) (pa_cons (pv 4) pa_nil)))))
      (pss_cons (ps_set (i := 6) nd rfl (Or.inl rfl) pe_int)
      (pss_cons (ps_set (i := 7) nd rfl (Or.inr rfl) (pv 4))
      (C8.pss_cut (ps_for PassesOwn.never rfl (Zm.pi_zipM false true (by rfl) T.g_zip (pa_cons (pe_slice (r := rSlL K) sl_list (pv 5) (po_some pe_int) po_none) (pa_cons (pv 2) pa_nil))) (pg_tup rfl (pgs_cons (pg_name (i := 8) nd rfl (Or.inr rfl)) (pgs_cons (pg_name (i := 3) nd rfl (Or.inl rfl)) pgs_nil))) (pss_cons (ps_aug (i := 6) nd rfl (Or.inl rfl) (pe_callB (r := rSum K) (cr_sum rfl) (by rfl) T.g_sum (by decide +kernel) (pa_cons (pe_lc (own := [("lesser", 9)]) (g := gName 9) (tt := tYes) rfl nd (pi_range1 rfl T.g_range (pa_cons (pv 3) pa_nil)) (blkOk_by (own := [("lesser", 9)]) (N := ["room", "order", "code", "digit", "number", "ends", "index", "coming", "later", "lesser"]) (sc := defScope s_order_index) (by decide +kernel)) (fun _ _ _ _ _ => pg_name (i := 9) nd rfl (Or.inl rfl)) (fun _ _ _ _ _ => pts_nil) (fun _ _ _ _ _ => (pe_call (ok_ew T) (hr.mono (by decide)) (by rfl) T.m_ends_with T.F_ends_with.kp (b_ew T) .nil pass0 (pa_cons (pv 8) (pa_cons (pv 9) (pa_cons (pv 0) (pa_cons (pv 7) pa_nil))))))) pa_nil)) ip_add)
      (pss_one (ps_aug (i := 7) nd rfl (Or.inr rfl) (pe_call (ok_dc T) (hr.mono (by decide)) (by rfl) T.m_does_come T.F_does_come.kp (b_dc T) .nil pass0 (pa_cons (pv 3) (pa_cons (pv 0) pa_nil))) ip_sub))))
      (pss_one (ps_ret (pv 6)))))))))), ?_⟩
    refine ⟨_, rfl, r, rfl, hrr, _, rfl, a, p, rfl, hp, hl, hpm, fun H1 t s1 et => ?_⟩
    generalize ecd : codeL p = cd at q et
    have hcl : cd.length = p.length := by rw [← ecd, codeL_len]
    have hcb : ∀ (i x : Nat), cd[i]? = some x → x ≤ i := by rw [← ecd]; exact codeL_le p
    refine ⟨fun σ' H' => ∃ x3 : Option V, σ' = [some (.int r), some (.ref a), some (.ref t), x3, some (.int (cntW r cd : Nat)), none, none, none, none, none] ∧ Same H1 H', ?_, ?_⟩
    · refine ⟨_, rfl, t, rfl, ⟨_, SqT.of et⟩, fun L nL => ?_⟩
      refine lc_it (walk_tup (xs := nv cd)) (fun g H' => Acc H1 L ((cd.take g).map fun z => V.int (wd r z : Nat)) H') (Acc.start nL) (fun _ _ _ h => SqT.of (h.s _ _ et)) ?_ ?_
      · rintro g y Ho H8 hg ac ⟨rfl, ey⟩
        rw [nv_len] at hg
        obtain rfl : y = V.int (cd[g] : Nat) := by
          rw [nv_get hg] at ey
          exact (Option.some.inj ey).symm
        refine ⟨rfl, _, rfl, _, rfl, cd[g], r, rfl, ?_⟩
        refine ⟨_, ac.a, small1000 (by rw [List.length_map, List.length_take]; omega), ?_⟩
        rw [List.take_succ_eq_append_getElem hg, List.map_append, List.map_singleton]
        exact ac.push
      · intro H8 ac
        rw [nv_len, List.take_length] at ac
        refine ⟨L, cd.map fun z => ((wd r z : Nat) : Int), rfl, SqL.of (by rw [List.map_map]; exact ac.a), ?_⟩
        rw [cntW_sum]
        exact ⟨_, rfl, ac.s⟩
    rintro σ' H2 ⟨x3, rfl, s2⟩
    refine ⟨fun σ' H' => ∃ (p2 : Addr) (as : List Addr), σ' = [some (.int r), some (.ref a), some (.ref t), x3, some (.int (cntW r cd : Nat)), some (.ref p2), none, none, none, none] ∧ Same H2 H' ∧ H' p2 = some (.lst (as.reverse.map V.ref)) ∧ Ends r p.length H' as p.length, ?_, ?_⟩
    · refine ⟨_, rfl, t, nv cd, rfl, .inr (SqT.of (s2 _ _ et)), _, rfl, _, rfl, p.length, r, cntW r cd, ?_, hl, hrr, ?_, fun H3 p2 as s3 np ep en => ?_⟩
      · rw [nv_len, hcl]
        rfl
      · rw [← hcl]
        exact cntW_le r cd
      · exact ⟨p2, as, rfl, s3, ep, en⟩
    rintro σ' H3 ⟨p2, as, rfl, s3, ep, en⟩
    refine ⟨_, rfl, ?_⟩
    refine ⟨fun σ' H' => ∃ (x3 x8 x9 : Option V) (i : Nat), σ' = [some (.int r), some (.ref a), some (.ref t), x3, some (.int (cntW r cd : Nat)), some (.ref p2), some (.int i), some (.int (0 : Nat)), x8, x9] ∧ Same H3 H' ∧ (sufS r 0 p.length (cntW r cd))[i]? = some cd, ?_, ?_⟩
    · have hcut : cutV (as.reverse.map V.ref) (some 1) none = (as.reverse.map V.ref).drop 1 := cutv_from _ 1
      refine ⟨_, rfl, _, rfl, ?_⟩
      unfold tNoPart
      refine ⟨p2, _, rfl, SqL.of ep, fun z nz => ?_⟩
      rw [hcut]
      have s4 := Same.up (o := .lst ((as.reverse.map V.ref).drop 1)) nz
      have ez : upd H3 z (.lst ((as.reverse.map V.ref).drop 1)) z = _ := upd_same
      generalize upd H3 z (.lst ((as.reverse.map V.ref).drop 1)) = H4 at s4 ez
      have hlen : ((as.reverse.map V.ref).drop 1).length = cd.length := by rw [List.length_drop, List.length_map, List.length_reverse, en.len]; omega
      have et4 := s4 _ _ (s3 _ _ (s2 _ _ et))
      refine ⟨_, rfl, z, t, _, nv cd, rfl, SqL.of ez, SqT.of et4, ?_⟩
      refine for_it (Zm.walk_zipM (xs := (as.reverse.map V.ref).drop 1) (ys := nv cd) (n := cd.length) (by rw [hlen, nv_len, Nat.min_self])) (fun j σ' H' => ∃ (x3 x8 x9 : Option V) (i c : Nat), σ' = [some (.int r), some (.ref a), some (.ref t), x3, some (.int (cntW r cd : Nat)), some (.ref p2), some (.int i), some (.int c), x8, x9] ∧ Same H4 H' ∧ c = cntW r (cd.drop j) ∧ ∀ l, (sufS r j (p.length - j) c)[l]? = some (cd.drop j) → (sufS r 0 p.length (cntW r cd))[i + l]? = some cd)
        ⟨x3, none, none, 0, cntW r cd, rfl, fun _ _ e => e, rfl, fun l e => by rw [Nat.zero_add]; exact e⟩ (fun _ _ _ _ ⟨_, _, _, _, _, _, h, _⟩ => ⟨SqL.of (h _ _ ez), SqT.of (h _ _ et4)⟩) ?_ ?_
      · rintro j v σ' H5 H6 hj ⟨x3, x8, x9, i, c, rfl, s5, rfl, hi⟩ ⟨T', x, y, rfl, nT, rfl, ex, ey⟩
        obtain ⟨b, hb, eb⟩ := ends_at en (show j < p.length by omega)
        have ex : ((as.reverse.map V.ref).drop 1)[j]? = some x := ex
        have ey : (nv cd)[j]? = some y := ey
        obtain rfl : x = V.ref b := by
          rw [List.getElem?_drop, Nat.add_comm 1 j, hb] at ex
          exact (Option.some.inj ex).symm
        obtain rfl : y = V.int (cd[j] : Nat) := by
          rw [nv_get hj] at ey
          exact (Option.some.inj ey).symm
        have hdj : cd[j] ≤ j := hcb j _ (List.getElem?_eq_getElem hj)
        have hdrop : cd.drop j = cd[j] :: cd.drop (j + 1) := List.drop_eq_getElem_cons hj
        obtain ⟨k, hk⟩ : ∃ k, k + j + 1 = p.length := ⟨p.length - 1 - j, by omega⟩
        rw [show p.length - (j + 1) = k by omega] at eb
        have hcc : cntW r (cd.drop j) = wd r cd[j] + cntW r (cd.drop (j + 1)) := by rw [hdrop, cntW_cons]
        have hcle : cntW r (cd.drop j) < p.length + 1 := by
          have := cntW_le r (cd.drop j)
          rw [List.length_drop] at this
          omega
        refine ⟨_, _, rfl, SqT.of upd_same, rfl, ?_⟩
        have s6 : Same H5 (upd H5 T' (.tup [.ref b, .int (cd[j] : Nat)])) := Same.up nT
        have eb6 := s6 _ _ (s5 _ _ (s4 _ _ eb))
        generalize upd H5 T' (.tup [.ref b, .int (cd[j] : Nat)]) = H6 at s6 eb6
        refine ⟨_, _, rfl, _, _, rfl, rfl, ?_⟩
        refine ⟨_, rfl, _, rfl, _, rfl, by omega, by omega, fun L nL => ?_⟩
        rw [show ((cd[j] : Nat) : Int).toNat = cd[j] from rfl]
        refine lc_it (walk_range (lo := 0) (n := cd[j])) (fun g H' => Acc H6 L ((List.range g).map fun z => V.int (blkE r j k (cntW r (cd.drop j)) z : Nat)) H') (Acc.start nL) (fun _ _ _ _ => trivial) ?_ ?_
        · rintro g y Ho H8 hg ac ⟨rfl, ey⟩
          obtain rfl : y = V.int (g : Nat) := by
            rw [ey]
            show V.int (0 + (g : Int)) = _
            rw [Int.zero_add]
          refine ⟨rfl, _, rfl, _, rfl, _, rfl, _, rfl, b, g, r, cntW r (cd.drop j), p.length + 1, _, rfl, ac.s _ _ eb6, hcle, ?_⟩
          refine ⟨_, ac.a, small1000 (by rw [List.length_map, List.length_range]; omega), ?_⟩
          rw [List.range_succ, List.map_append, List.map_singleton]
          exact ac.push
        · intro H8 ac
          refine ⟨L, (List.range cd[j]).map fun z => ((blkE r j k (cntW r (cd.drop j)) z : Nat) : Int), rfl, SqL.of (by rw [List.map_map]; exact ac.a), ?_⟩
          rw [map_sum_int]
          refine ⟨_, _, rfl, rfl, ?_⟩
          refine ⟨_, rfl, _, rfl, _, rfl, cd[j], r, rfl, _, _, rfl, rfl, ?_⟩
          refine ⟨some (.int (cd[j] : Nat)), some (.ref b), x9, i + ((List.range cd[j]).map (blkE r j k (cntW r (cd.drop j)))).sum, cntW r (cd.drop (j + 1)), ?_, fun q o e => ac.s _ _ (s6 _ _ (s5 _ _ e)), rfl, fun l hl2 => ?_⟩
          · have e1 : ((cntW r (cd.drop j) : Nat) : Int) - (wd r cd[j] : Nat) = ((cntW r (cd.drop (j + 1)) : Nat) : Int) := by omega
            show [some (V.int r), some (V.ref a), some (V.ref t), _, some (V.int (cntW r cd : Nat)), some (V.ref p2), some (V.int _), some (V.int (((cntW r (cd.drop j) : Nat) : Int) - (wd r cd[j] : Nat))), _, _] = _
            rw [e1, Int.natCast_add]
          · rw [show p.length - (j + 1) = k by omega] at hl2
            rw [show p.length - j = k + 1 by omega] at hi
            have := hi (((List.range cd[j]).map (blkE r j k (cntW r (cd.drop j)))).sum + l) (by
              have f := fromS_back (r := r) (a := j) (k := k) (c := cntW r (cd.drop j)) (i := l) (y := cd.drop (j + 1)) hdj (by omega) (by rw [show cntW r (cd.drop j) - wd r cd[j] = cntW r (cd.drop (j + 1)) by omega]; exact hl2)
              rw [← hdrop] at f
              exact f)
            rw [Nat.add_assoc]
            exact this
      · rintro σ' H5 ⟨x3, x8, x9, i, c, rfl, s5, rfl, hi⟩
        rw [List.drop_length, Nat.sub_eq_zero_of_le (by omega)] at hi
        exact ⟨x3, x8, x9, i, by rw [List.drop_length]; rfl, s4.trans s5, by have := hi 0 rfl; exact this⟩
    rintro σ' H4 ⟨x3, x8, x9, i, rfl, s4, hi⟩
    exact ⟨_, rfl, q H4 i (((s1.trans s2).trans s3).trans s4) hi⟩
theorem b_oi (T : Tx K mg A) : L2.Binds K A.d_order_index ["room", "order"] [] := T.F_order_index.binds fun _ _ _ _ _ _ us hl => match us, hl with | [_, _], _ => rfl

end
end Tw

set_option Elab.async false
set_option linter.all false
set_option maxRecDepth 100000
set_option maxHeartbeats 2000000
namespace Tw
open PySem PySem.Spec PyProof.Rows L2
section
variable {P : Program} {w : World} {K : PySem.W.Frag} {mg : Str → Option Value} {base : Heap} {A : Ad}
open LamX (ExtN Tabs TabS)
/-! how many come in, by sorting: cr_sortedI -/
theorem cutv_neg (xs : List V) (k : Nat) (h : 1 ≤ k) : cutV xs (some (-(k : Int))) none = xs.drop (xs.length - k) := by
  unfold cutV
  have e : HT.sIx xs.length 0 (some (-(k : Int))) = xs.length - k := by
    show (if -(k : Int) < 0 then (-(k : Int) + (xs.length : Int)).toNat else min (-(k : Int)).toNat xs.length) = _
    rw [if_pos (by omega)]
    omega
  rw [HT.sIx_none, e, List.take_of_length_le (by rw [List.length_drop]; omega)]
def spLen : Sp := fun vs H Q _ => ∃ (r t : Nat) (p : List Nat), vs = [.int r, .ref t] ∧ (1 ≤ r ∧ r ≤ 12) ∧ H t = some (.tup (nv p)) ∧ p.length ≤ 12 ∧ p.Perm (List.range p.length) ∧ ∀ H', Same H H' → Q (.int (cntW r (codeL p) : Nat)) H'
theorem ok_len (T : Tx K mg A) : FnOk P w K mg base CX0 1 A.f__law_entered A.d__law_entered ["room", "row"] spLen := by
  refine T.F__law_entered.ok sc__law_entered (fun vs H Q E h => ?_) (fun cdv B outer s H vs Q E hr h => ?_)
  · obtain ⟨r, t, p, rfl, _⟩ := h
    rfl
  · obtain ⟨r, t, p, rfl, hrr, et, hl, hpm, q⟩ := h
    have nd := sc__law_entered.nd
    have hu := hr.units
    refine ⟨_, PSs.nox (pss_cons (ps_par (i := 2) (j := 3) rfl nd rfl rfl (by decide) rfl rfl (pa_cons (pe_lst pa_nil) (pa_cons pe_int pa_nil)) rfl)
      (C8.pss_cut (ps_for PassesOwn.never rfl (pi_tup (pv 1)) (pg_name (i := 4) nd rfl (Or.inl rfl)) (pss_one (ps_if (PW.pt (pw_or (pt_cmpR op_lt (pe_callB (r := rLn K) call_len_seq (by rfl) T.g_len PySem.boot_len (pa_cons (pv 2) pa_nil)) (pv 0) (nomark _)) (pw_or1 (pt_cmpR op_gt (pv 4) (pe_callB (r := rMin K) (cr_min rfl) (by rfl) T.g_min (by decide +kernel) (pa_cons (pv 2) pa_nil)) (nomark _))))) (pss_one (ps_par (i := 2) (j := 3) rfl nd rfl rfl (by decide) rfl rfl (pa_cons (pe_slice (r := rSlL K) sl_list (pe_callB cr_sortedI (by rfl) T.g_sorted (by decide +kernel) (pa_cons (pe_op op_cat (pv 2) (pe_lst (pa_cons (pv 4) pa_nil))) pa_nil)) (po_some (pe_un un_neg (pv 0))) po_none) (pa_cons (pe_op op_add (pv 3) pe_int) pa_nil)) rfl)) pss_nil)))
      (pss_one (ps_ret (pv 3))))), ?_⟩
    refine ⟨by show 0 ≤ sizeLine; decide, fun D0 nD0 => ?_⟩
    have s0 := Same.up (o := .lst []) nD0
    have e0 : upd H D0 (.lst []) D0 = _ := upd_same
    generalize upd H D0 (.lst []) = H0 at s0 e0
    refine ⟨_, _, rfl, ?_⟩
    refine ⟨fun σ' H' => ∃ (D : Addr) (x4 : Option V), σ' = [some (.int r), some (.ref t), some (.ref D), some (.int (cntW r (codeL p) : Nat)), x4] ∧ Same H H', ?_, ?_⟩
    · refine ⟨_, rfl, t, rfl, ⟨_, SqT.of (s0 _ _ et)⟩, ?_⟩
      refine for_it (walk_tup (xs := nv p)) (fun i σ' H' => ∃ (D : Addr) (x4 : Option V) (ks : List Int), σ' = [some (.int r), some (.ref t), some (.ref D), some (.int (entN r p i : Nat)), x4] ∧ Same H H' ∧ H' D = some (.lst (ks.map V.int)) ∧ Most r ((natB p).take i) ks)
        ⟨D0, none, [], ?_, s0, e0, ?_⟩ (fun _ _ _ _ ⟨_, _, _, _, h, _⟩ => SqT.of (h _ _ et)) ?_ ?_
      · unfold entN
        rw [List.take_zero]
        rfl
      · exact ⟨by rw [List.take_zero]; exact (Nat.min_zero r).symm, [], by rw [List.take_zero]; exact .nil, fun x hx => absurd hx List.not_mem_nil⟩
      · rintro i y σ' Ho H2 hi ⟨D, x4, ks, rfl, s2, eD, mo⟩ ⟨rfl, ey⟩
        rw [nv_len] at hi
        obtain rfl : y = V.int (p[i] : Nat) := by
          rw [nv_get hi] at ey
          exact (Option.some.inj ey).symm
        have hnl : (natB p).length = p.length := by unfold natB; rw [List.length_map]
        have hpi : (natB p)[i]'(by omega) = ((p[i] : Nat) : Int) := by
          unfold natB
          rw [List.getElem_map]
          rfl
        have htk : (natB p).take (i + 1) = (natB p).take i ++ [((p[i] : Nat) : Int)] := by rw [List.take_succ_eq_append_getElem (by omega), hpi]
        have hkl : ks.length ≤ 12 := by
          have := mo.1
          omega
        have hgd : p.getD i 0 = p[i] := by rw [List.getD_eq_getElem?_getD, List.getElem?_eq_getElem hi]; rfl
        have hnd : p.Nodup := hpm.nodup_iff.mpr List.nodup_range
        have hnot : ((p[i] : Nat) : Int) ∉ (natB p).take i := by
          rw [natB_take]
          intro z
          obtain ⟨x, hx, e⟩ := List.mem_map.mp z
          have e : (x : Int) = ((p[i] : Nat) : Int) := e
          have e3 : x = p[i] := by omega
          rw [e3] at hx
          obtain ⟨j, hj, ej⟩ := List.mem_iff_getElem.mp hx
          rw [List.getElem_take] at ej
          rw [List.length_take] at hj
          exact List.pairwise_iff_getElem.mp hnd j i (by omega) (by omega) (by omega) ej
        have it : ∀ m : Int, (r ≤ ks.length → m ∈ ks ∧ ∀ z ∈ ks, m ≤ z) → ((ks.length < r ∨ m < ((p[i] : Nat) : Int)) ↔ ((p.take i).filter fun y => decide (p.getD i 0 < y)).length < r) := fun m hm => by
          have := ent_iff hrr.1 mo hnot hm
          rw [natB_take, natB_filter] at this
          rw [hgd]
          exact this
        -- it comes in
        have go : ∀ (m : Int), (r ≤ ks.length → m ∈ ks ∧ ∀ z ∈ ks, m ≤ z) → (ks.length < r ∨ m < ((p[i] : Nat) : Int)) → ∀ (s : List Int), s.Perm (ks ++ [((p[i] : Nat) : Int)]) → s.Pairwise (· ≤ ·) →
            Most r ((natB p).take (i + 1)) (s.drop (s.length - r)) ∧ entN r p (i + 1) = entN r p i + 1 := fun m hm hc s hs ha => by
          refine ⟨by rw [htk]; exact most_snoc hrr.1 mo hm hc hs ha, ?_⟩
          rw [entN_succ hi]
          unfold wd
          rw [if_pos ((it m hm).mp hc)]
        have no : ∀ (m : Int), (r ≤ ks.length → m ∈ ks ∧ ∀ z ∈ ks, m ≤ z) → ¬ (ks.length < r ∨ m < ((p[i] : Nat) : Int)) → Most r ((natB p).take (i + 1)) ks ∧ entN r p (i + 1) = entN r p i := fun m hm hc => by
          refine ⟨by rw [htk]; exact most_same hrr.1 mo hm hc, ?_⟩
          rw [entN_succ hi]
          unfold wd
          rw [if_neg (fun z => hc ((it m hm).mpr z)), Nat.add_zero]
        refine ⟨_, rfl, D, _, rfl, .inl (SqL.of eD), _, rfl, _, _, rfl, rfl, _, rfl, ?_⟩
        by_cases hlt : ks.length < r
        · refine ite_b (c := true) (decide_eq_true (show (((ks.map V.int).length : Nat) : Int) < (r : Int) by rw [List.length_map]; omega)) (iteT (iteT ?_))
          have hm : r ≤ ks.length → (0 : Int) ∈ ks ∧ ∀ z ∈ ks, (0 : Int) ≤ z := fun h => by omega
          have hc : ks.length < r ∨ (0 : Int) < ((p[i] : Nat) : Int) := .inl hlt
          generalize (0 : Int) = m at hm hc
          have nDp : ∀ {z : Addr}, H2 z = none → z ≠ D := fun h e => by rw [e, eD] at h; cases h
          refine ⟨_, rfl, _, rfl, by show 1 ≤ sizeLine; decide, fun c nc => ?_⟩
          have sc := Same.up (o := .lst [V.int (p[i] : Nat)]) nc
          refine ⟨D, c, _, _, rfl, rfl, sc _ _ eD, upd_same, by rw [List.length_map, sizeLine_eq]; show ks.length + 1 ≤ _; omega, fun c2 nc2 => ?_⟩
          have sc2 := sc.trans (Same.up (o := .lst (ks.map V.int ++ [V.int (p[i] : Nat)])) nc2)
          refine ⟨c2, ks ++ [((p[i] : Nat) : Int)], rfl, SqL.of (by rw [upd_same, List.map_append]; rfl), fun s c3 hs ha nc3 => ?_⟩
          have sc3 := sc2.trans (Same.up (o := .lst (s.map V.int)) nc3)
          refine ⟨_, rfl, _, rfl, _, rfl, ?_⟩
          unfold tNoPart
          refine ⟨c3, _, rfl, SqL.of upd_same, fun c4 nc4 => ?_⟩
          have sc4 := sc3.trans (Same.up (o := .lst (cutV (s.map V.int) (some (-(r : Int))) none)) nc4)
          refine ⟨_, rfl, _, _, rfl, rfl, ?_⟩
          obtain ⟨g1, g2⟩ := go m hm hc s hs ha
          refine ⟨_, _, rfl, c4, some (.int (p[i] : Nat)), s.drop (s.length - r), ?_, s2.trans sc4, ?_, g1⟩
          · rw [g2]
            rfl
          · rw [upd_same, cutv_neg _ _ hrr.1, List.length_map, List.map_drop]
        · refine ite_b (c := false) (decide_eq_false (show ¬ (((ks.map V.int).length : Nat) : Int) < (r : Int) by rw [List.length_map]; omega)) (iteF ?_)
          refine ⟨_, rfl, _, rfl, D, ks, rfl, SqL.of eD, by omega, fun m m1 m2 => ?_⟩
          have hm : r ≤ ks.length → m ∈ ks ∧ ∀ z ∈ ks, m ≤ z := fun _ => ⟨m1, m2⟩
          refine ⟨_, _, rfl, rfl, _, rfl, ?_⟩
          by_cases hmk : m < ((p[i] : Nat) : Int)
          · refine ite_b (c := true) (decide_eq_true hmk) (iteT ?_)
            have hc : ks.length < r ∨ m < ((p[i] : Nat) : Int) := .inr hmk
            have nDp : ∀ {z : Addr}, H2 z = none → z ≠ D := fun h e => by rw [e, eD] at h; cases h
            refine ⟨_, rfl, _, rfl, by show 1 ≤ sizeLine; decide, fun c nc => ?_⟩
            have sc := Same.up (o := .lst [V.int (p[i] : Nat)]) nc
            refine ⟨D, c, _, _, rfl, rfl, sc _ _ eD, upd_same, by rw [List.length_map, sizeLine_eq]; show ks.length + 1 ≤ _; omega, fun c2 nc2 => ?_⟩
            have sc2 := sc.trans (Same.up (o := .lst (ks.map V.int ++ [V.int (p[i] : Nat)])) nc2)
            refine ⟨c2, ks ++ [((p[i] : Nat) : Int)], rfl, SqL.of (by rw [upd_same, List.map_append]; rfl), fun s c3 hs ha nc3 => ?_⟩
            have sc3 := sc2.trans (Same.up (o := .lst (s.map V.int)) nc3)
            refine ⟨_, rfl, _, rfl, _, rfl, ?_⟩
            unfold tNoPart
            refine ⟨c3, _, rfl, SqL.of upd_same, fun c4 nc4 => ?_⟩
            have sc4 := sc3.trans (Same.up (o := .lst (cutV (s.map V.int) (some (-(r : Int))) none)) nc4)
            refine ⟨_, rfl, _, _, rfl, rfl, ?_⟩
            obtain ⟨g1, g2⟩ := go m hm hc s hs ha
            refine ⟨_, _, rfl, c4, some (.int (p[i] : Nat)), s.drop (s.length - r), ?_, s2.trans sc4, ?_, g1⟩
            · rw [g2]
              rfl
            · rw [upd_same, cutv_neg _ _ hrr.1, List.length_map, List.map_drop]
          · refine ite_b (c := false) (decide_eq_false hmk) (iteF ?_)
            obtain ⟨g1, g2⟩ := no m hm (fun z => z.elim hlt hmk)
            exact ⟨D, some (.int (p[i] : Nat)), ks, by rw [g2]; rfl, s2, eD, g1⟩
      · rintro σ' H2 ⟨D, x4, ks, rfl, s2, eD, mo⟩
        refine ⟨D, x4, ?_, s2⟩
        rw [nv_len]
        unfold entN
        rw [← codeL_len, List.take_length]
    rintro σ' H1 ⟨D, x4, rfl, s1⟩
    exact ⟨_, rfl, q H1 s1⟩
theorem b_len (T : Tx K mg A) : L2.Binds K A.d__law_entered ["room", "row"] [] := T.F__law_entered.binds fun _ _ _ _ _ _ us hl => match us, hl with | [_, _], _ => rfl

end
end Tw

set_option Elab.async false
set_option linter.all false
set_option maxRecDepth 100000
set_option maxHeartbeats 2000000
namespace Tw
open PySem PySem.Spec PyProof.Rows L2
section
variable {P : Program} {w : World} {K : PySem.W.Frag} {mg : Str → Option Value} {base : Heap} {A : Ad}
open LamX (ExtN Tabs TabS)
/-- a tuple of keys at an address -/
def RowAt (H : Hp) (v : V) (l : List Int) : Prop := ∃ t, v = .ref t ∧ H t = some (.tup (l.map V.int))
abbrev RowsAt (H : Hp) : List V → List (List Int) → Prop := Paired (RowAt H)
structure AccR (H1 : Hp) (D : Addr) (ls : List (List Int)) (H : Hp) : Prop where
  s : Same H1 H
  n : H1 D = Option.none
  a : ∃ xs, H D = some (.lst xs) ∧ RowsAt H xs ls
theorem AccR.start {H1 : Hp} {D : Addr} (n : H1 D = none) : AccR H1 D [] (upd H1 D (.lst [])) := ⟨Same.up n, n, [], upd_same, .nil⟩
abbrev NRows (H : Hp) (xs : List V) (ls : List (List Nat)) : Prop := RowsAt H xs (ls.map natB)
theorem b_chg (T : Tx K mg A) : L2.Binds K A.d_changes ["room", "row"] [] := T.F_changes.binds fun _ _ _ _ _ _ us hl => match us, hl with | [_, _], _ => rfl
theorem b_lk (T : Tx K mg A) : L2.Binds K A.d__law_codes ["many"] [] := T.F__law_codes.binds fun _ _ _ _ _ _ us hl => match us, hl with | [_], _ => rfl
theorem b_num (T : Tx K mg A) : L2.Binds K A.d__law_number ["script", "index"] [] := T.F__law_number.binds fun _ _ _ _ _ _ us hl => match us, hl with | [_, _], _ => rfl
theorem extN_of {H H' : Hp} (s : Same H H') : ExtN H H' := fun b o e _ => s b o e
theorem ints_shT (ks : List Int) : SeqAt.shaped (.tuple (ks.map PyData.int)) = true := by
  have h := shaped_ints ks
  unfold SeqAt.shaped at h ⊢
  simp only [PyData.canLay0, PyData.depth] at h ⊢
  exact h
theorem ints_tup (K : PySem.W.Frag) {H : Hp} {a : Addr} {ks : List Int} (h : H a = some (.tup (ks.map V.int))) : Dp K H (.ref a) (.tuple (ks.map PyData.int)) := .tup (SqT.of h) (ints_dp K H ks)
/-- tuples of keys as data -/
abbrev rowD (r : List Int) : PyData := .tuple (r.map .int)
theorem nv_tup (K : PySem.W.Frag) {H : Hp} {a : Addr} {p : List Nat} (h : H a = some (.tup (nv p))) : Dp K H (.ref a) (rowD (natB p)) := ints_tup K h
def fdK (r w : Int) (t : Addr) (n : Int) (m : V) : List (Str × V) := [("room", .int r), ("arms", .int w), ("_heap", .ref t), ("_entered", .int n), ("_mark", m)]
theorem lk_ne {f g : Str} {v : V} {l : List (Str × V)} (h : g ≠ f) : List.lookup g ((f, v) :: l) = List.lookup g l := by
  have hb : (g == f) = false := beq_eq_false_iff_ne.mpr h
  simp only [List.lookup, hb]
theorem fdK_no {f : Str} (r w : Int) (t : Addr) (n : Int) (m : V) (h1 : f ≠ "room") (h2 : f ≠ "arms") (h3 : f ≠ "_heap") (h4 : f ≠ "_entered") (h5 : f ≠ "_mark") : (fdK r w t n m).lookup f = none := by
  unfold fdK
  rw [lk_ne h1, lk_ne h2, lk_ne h3, lk_ne h4, lk_ne h5]
  rfl
/-- a keeper: its room, arms, the number that came in, its heap -/
structure KAt (C : Addr) (H : Hp) (p : Addr) (r w n : Nat) (t : Addr) (ks : List Int) : Prop where
  ob : ∃ dx m, H p = some (.ins C dx (fdK r w t n m))
  hp : H t = some (.tup (ks.map V.int))
theorem KAt.ext {C : Addr} {H H' : Hp} {p r w n t : Nat} {ks : List Int} (h : KAt C H p r w n t ks) (e : LamX.ExtN H H') : KAt C H' p r w n t ks :=
  let ⟨⟨dx, m, h1⟩, h2⟩ := h; ⟨⟨dx, m, e _ _ h1 (fun _ z => nomatch z)⟩, e _ _ h2 (fun _ z => nomatch z)⟩
theorem KAt.same {C : Addr} {H H' : Hp} {p r w n t : Nat} {ks : List Int} (h : KAt C H p r w n t ks) (s : Same H H') : KAt C H' p r w n t ks := h.ext (extN_of s)
theorem KAt.ins {C : Addr} {H : Hp} {p r w n t : Nat} {ks : List Int} (h : KAt C H p r w n t ks) : ∃ dx fs, H p = some (.ins C dx fs) := let ⟨⟨dx, m, h1⟩, _⟩ := h; ⟨dx, _, h1⟩
/-- all but one object and the tables stay -/
def ButP (p : Addr) (H H' : Hp) : Prop := ∀ b o, H b = some o → (∀ ps, o ≠ .tbl ps) → b ≠ p → H' b = some o
theorem ButP.of {p : Addr} {H H' : Hp} (e : LamX.ExtN H H') : ButP p H H' := fun b o h n _ => e b o h n
theorem ButP.trans {p : Addr} {H H1 H2 : Hp} (a : ButP p H H1) (b : ButP p H1 H2) : ButP p H H2 := fun c o h n k => b c o (a c o h n k) n k
theorem b_ca (T : Tx K mg A) : L2.Binds K A.d_check_arms ["arms"] [] := T.F_check_arms.binds fun _ _ _ _ _ _ us hl => match us, hl with | [_], _ => rfl
theorem new_up {C x dx : Addr} {H : Hp} (nx : H x = none) (ndx : H dx = none) (nex : dx ≠ x) : Same H (upd (upd H dx (.own x)) x (.ins C dx [])) :=
  (Same.up ndx).trans (Same.up (by rw [upd_ne nex.symm]; exact nx))
def spCa : Sp := fun vs H Q _ => ∃ i : Int, vs = [.int i] ∧ (1 ≤ i ∧ i ≤ 4) ∧ Q .non H
theorem ok_ca (T : Tx K mg A) : FnOk P w K mg base CX0 3 A.f_check_arms A.d_check_arms ["arms"] spCa := by
  refine T.F_check_arms.ok sc_check_arms (fun vs H Q E h => ?_) (fun cdv B outer s H vs Q E hr h => ?_)
  · obtain ⟨i, rfl, _⟩ := h
    rfl
  · obtain ⟨i, rfl, hi, q⟩ := h
    obtain ⟨t, hg⟩ := cst T.c_MOST_ARMS
    refine ⟨_, pss_one (ps_if (pt_not (pt_val (pe_call (ok_ii T) hr (by rfl) T.m_is_integer_from T.F_is_integer_from.kp (b_ii T) .nil pass0
      (pa_cons (pv 0) (pa_cons pe_int (pa_cons (pe_glob (by rfl) hg (relI _ _)) pa_nil)))))) (pss_one ps_never) pss_nil), ?_⟩
    refine ⟨_, rfl, _, _, _, rfl, .inl ⟨i, rfl, _, rfl, ?_⟩⟩
    rw [decide_eq_true hi]
    exact iteF q
theorem fdK_eq (r w : Int) (t : Addr) (n : Int) (m : V) : putF "_mark" m (putF "_entered" (.int n) (putF "_heap" (.ref t) (putF "arms" (.int w) (putF "room" (.int r) [])))) = fdK r w t n m := by
  have h1 : ("room" : Str) ≠ "arms" := by decide +kernel
  have h2 : ("room" : Str) ≠ "_heap" := by decide +kernel
  have h3 : ("room" : Str) ≠ "_entered" := by decide +kernel
  have h4 : ("room" : Str) ≠ "_mark" := by decide +kernel
  have h5 : ("arms" : Str) ≠ "_heap" := by decide +kernel
  have h6 : ("arms" : Str) ≠ "_entered" := by decide +kernel
  have h7 : ("arms" : Str) ≠ "_mark" := by decide +kernel
  have h8 : ("_heap" : Str) ≠ "_entered" := by decide +kernel
  have h9 : ("_heap" : Str) ≠ "_mark" := by decide +kernel
  have ha : ("_entered" : Str) ≠ "_mark" := by decide +kernel
  unfold fdK
  simp only [putF, if_neg h1, if_neg h2, if_neg h3, if_neg h4, if_neg h5, if_neg h6, if_neg h7, if_neg h8, if_neg h9, if_neg ha]
def spIK (C : Addr) : Sp := fun vs H Q _ => ∃ (p dx r w : Nat), vs = [.ref p, .int r, .int w] ∧ (1 ≤ r ∧ r ≤ 12) ∧ (1 ≤ w ∧ w ≤ 4) ∧ H p = some (.ins C dx []) ∧
  ∀ (H' : Hp) (t : Addr), (∀ b o, H b = some o → b ≠ p → H' b = some o) → KAt C H' p r w 0 t [] → Q .non H'
theorem ok_iK (T : Tx K mg A) : FnOk P w K mg base CX0 4 A.f_e___init__ A.d_e___init__ ["self", "room", "arms"] (spIK A.CK) := by
  refine T.F_e___init__.ok sc_e___init__ (fun vs H Q E h => ?_) (fun cdv B outer s H vs Q E hr h => ?_)
  · obtain ⟨p, dx, r, w, rfl, _⟩ := h
    rfl
  · obtain ⟨p, dx, r, w, rfl, hr1, hw, hp, q⟩ := h
    refine ⟨_, (pss_cons (ps_expr (pe_call (ok_ca T) (hr.mono (by decide)) (by rfl) T.m_check_arms T.F_check_arms.kp (b_ca T) .nil pass0 (pa_cons (pv 2) pa_nil)))
      (pss_cons (ps_expr (pe_call (ok_cr T) (hr.mono (by decide)) (by rfl) T.m_check_room T.F_check_room.kp (b_cr T) .nil pass0 (pa_cons (pv 1) pa_nil)))
      (pss_cons (ps_fld (pv 0) (pv 1) rfl)
      (pss_cons (ps_fld (pv 0) (pv 2) rfl)
      (pss_cons (ps_fld (pv 0) (pe_tup pa_nil) rfl)
      (pss_cons (ps_fld (pv 0) pe_int rfl)
      (pss_one (ps_fld (pv 0) (pe_makeO T.mkCM (by rfl) T.mCM) rfl)))))))), ?_⟩
    refine ⟨_, rfl, w, rfl, ⟨by omega, by omega⟩, _, rfl, r, rfl, hr1, ?_⟩
    refine ⟨_, rfl, _, rfl, p, A.CK, dx, _, rfl, hp, T.cTK, T.kRoom, by show 0 < 1000; decide, ?_⟩
    refine ⟨_, rfl, _, rfl, p, A.CK, dx, _, rfl, upd_same, T.cTK, T.kArms, by show 1 < 1000; decide, ?_⟩
    have fr : ∀ b o, H b = some o → b ≠ p → (upd (upd H p (.ins A.CK dx (putF "room" (.int r) []))) p (.ins A.CK dx (putF "arms" (.int w) (putF "room" (.int r) [])))) b = some o := fun b o e n => by rw [upd_ne n, upd_ne n]; exact e
    have hp1 : (upd (upd H p (.ins A.CK dx (putF "room" (.int r) []))) p (.ins A.CK dx (putF "arms" (.int w) (putF "room" (.int r) [])))) p = _ := upd_same
    generalize upd (upd H p (.ins A.CK dx (putF "room" (.int r) []))) p (.ins A.CK dx (putF "arms" (.int w) (putF "room" (.int r) []))) = H1 at fr hp1
    refine ⟨by show 0 ≤ sizeLine; decide, fun t nt => ?_⟩
    have st := Same.up (o := .tup []) nt
    have et := upd_same (H := H1) (a := t) (o := .tup [])
    have hp2 := st _ _ hp1
    have fr2 : ∀ b o, H b = some o → b ≠ p → upd H1 t (.tup []) b = some o := fun b o e n => st _ _ (fr b o e n)
    generalize upd H1 t (.tup []) = H2 at et hp2 fr2
    have htp : t ≠ p := ne_of et hp2 (by intro z; cases z)
    refine ⟨_, rfl, p, A.CK, dx, _, rfl, hp2, T.cTK, T.kHeap, by show 2 < 1000; decide, ?_⟩
    refine ⟨_, rfl, p, A.CK, dx, _, rfl, upd_same, T.cTK, T.kEnt, by show 3 < 1000; decide, ?_⟩
    have fr3 : ∀ b o, H b = some o → b ≠ p → (upd (upd H2 p (.ins A.CK dx (putF "_heap" (.ref t) (putF "arms" (.int w) (putF "room" (.int r) []))))) p (.ins A.CK dx (putF "_entered" (.int 0) (putF "_heap" (.ref t) (putF "arms" (.int w) (putF "room" (.int r) [])))))) b = some o := fun b o e n => by rw [upd_ne n, upd_ne n]; exact fr2 b o e n
    have hp3 : (upd (upd H2 p (.ins A.CK dx (putF "_heap" (.ref t) (putF "arms" (.int w) (putF "room" (.int r) []))))) p (.ins A.CK dx (putF "_entered" (.int 0) (putF "_heap" (.ref t) (putF "arms" (.int w) (putF "room" (.int r) [])))))) p = _ := upd_same
    have et3 : (upd (upd H2 p (.ins A.CK dx (putF "_heap" (.ref t) (putF "arms" (.int w) (putF "room" (.int r) []))))) p (.ins A.CK dx (putF "_entered" (.int 0) (putF "_heap" (.ref t) (putF "arms" (.int w) (putF "room" (.int r) [])))))) t = _ := (upd_ne htp).trans ((upd_ne htp).trans et)
    generalize upd (upd H2 p (.ins A.CK dx (putF "_heap" (.ref t) (putF "arms" (.int w) (putF "room" (.int r) []))))) p (.ins A.CK dx (putF "_entered" (.int 0) (putF "_heap" (.ref t) (putF "arms" (.int w) (putF "room" (.int r) []))))) = H3 at fr3 hp3 et3
    refine fun x d2 nx nd2 nex => ?_
    have s4 := new_up (C := A.CM) nx nd2 nex
    have hp4 := s4 _ _ hp3
    have et4 := s4 _ _ et3
    refine ⟨_, rfl, p, A.CK, dx, _, rfl, hp4, T.cTK, T.kMark, by show 4 < 1000; decide, ?_⟩
    refine q _ t (fun b o e n => by rw [upd_ne n]; exact s4 _ _ (fr3 b o e n)) ⟨⟨dx, .ref x, ?_⟩, by rw [upd_ne htp]; exact et4⟩
    rw [upd_same, ← fdK_eq]
    rfl
theorem bd_iK (T : Tx K mg A) : ∃ ds, Vals [V.int 2] ds ∧ L2.Binds K A.d_e___init__ ["self", "room", "arms"] ds := by
  refine T.F_e___init__.binds0 2 (by simp) rfl (fun D doc pm an cdv ct us ks h1 h2 => ?_)
  match us, ks, h1, h2 with
  | [a, b], [c], _, _ => exact ⟨_, _, _, _, _, _, rfl, rfl, rfl⟩
theorem lk_eq {f : Str} {v : V} {l : List (Str × V)} : List.lookup f ((f, v) :: l) = some v := by
  have hb : (f == f) = true := beq_iff_eq.mpr rfl
  simp only [List.lookup, hb]
theorem fdK_en (r w : Int) (t : Addr) (n : Int) (m : V) : (fdK r w t n m).lookup ("_entered" : Str) = some (.int n) := (lk_ne (by decide +kernel)).trans ((lk_ne (by decide +kernel)).trans ((lk_ne (by decide +kernel)).trans lk_eq))
def spEent (C : Addr) : Sp := fun vs H Q _ => ∃ (p r w n t : Nat) (ks : List Int), vs = [.ref p] ∧ KAt C H p r w n t ks ∧ Q (.int n) H
theorem ok_eent (T : Tx K mg A) : FnOk P w K mg base CX0 1 A.f_e_entered A.d_e_entered ["self"] (spEent A.CK) := by
  refine T.F_e_entered.ok sc_e_entered (fun vs H Q E h => ?_) (fun cdv B outer s H vs Q E hr h => ?_)
  · obtain ⟨p, r, w, n, t, ks, rfl, _⟩ := h
    rfl
  · obtain ⟨p, r, w, n, t, ks, rfl, ⟨⟨dx, m, h1⟩, h2⟩, q⟩ := h
    refine ⟨_, (pss_one (ps_ret (pe_fld (pv 0) rfl))), ?_⟩
    exact ⟨_, rfl, p, A.CK, dx, _, _, rfl, h1, T.cTK, T.kEnt, fdK_en _ _ _ _ _, q⟩
theorem b_eent (T : Tx K mg A) : L2.Binds K A.d_e_entered ["self"] [] := T.F_e_entered.binds fun _ _ _ _ _ _ us hl => match us, hl with | [_], _ => rfl
/-- its attributes -/
def tf (n w t : Nat) : List (Str × V) := putF "_places" (.ref t) (putF "arms" (.int w) (putF "many" (.int n) []))
/-- the places of a tree -/
def pl (n : Nat) : List V := (List.range n).map fun i => V.int (i : Nat)
/-- a tree of n places and w arms stands at p -/
structure TreeAt (C : Addr) (H : Hp) (p n w : Nat) : Prop where
  ob : ∃ dx t, H p = some (.ins C dx (tf n w t)) ∧ H t = some (.tup (pl n))
  hn : n ≤ 12
  hw : 1 ≤ w ∧ w ≤ 4
theorem TreeAt.same {C : Addr} {H H' : Hp} {p n w : Nat} (h : TreeAt C H p n w) (s : Same H H') : TreeAt C H' p n w :=
  ⟨let ⟨dx, t, a, b⟩ := h.ob; ⟨dx, t, s _ _ a, s _ _ b⟩, h.hn, h.hw⟩
def RowIn (H : Hp) (a : Addr) (ns : List Int) : Prop := Sq H a (ns.map V.int) ∧ ns.length ≤ 12 ∧ (∀ n ∈ ns, -1000000000 ≤ n ∧ n ≤ 1000000000)
theorem RowIn.same {H H' : Hp} {a : Addr} {ns : List Int} (h : RowIn H a ns) (s : Same H H') : RowIn H' a ns := ⟨h.1.same s, h.2⟩
theorem b_key (T : Tx K mg A) : L2.Binds K A.d_is_key ["thing"] [] := T.F_is_key.binds fun _ _ _ _ _ _ us hl => match us, hl with | [_], _ => rfl
/-- is_key of an int -/
def spKey : Sp := fun vs H Q _ => ∃ i : Int, vs = [.int i] ∧ Q (.bl (decide (-1000000000 ≤ i ∧ i ≤ 1000000000))) H
theorem ok_key (T : Tx K mg A) : FnOk P w K mg base CX0 3 A.f_is_key A.d_is_key ["thing"] spKey := by
  refine T.F_is_key.ok sc_is_key (fun vs H Q E h => ?_) (fun cdv B outer s H vs Q E hr h => ?_)
  · obtain ⟨i, rfl, _⟩ := h
    rfl
  · obtain ⟨i, rfl, q⟩ := h
    obtain ⟨t, hg⟩ := cst T.c_GREATEST_KEY
    refine ⟨_, pss_one (ps_ret (pe_call (ok_ii T) hr (by rfl) T.m_is_integer_from T.F_is_integer_from.kp (b_ii T) .nil pass0
      (pa_cons (pv 0) (pa_cons (pe_un un_neg (pe_glob (by rfl) hg (relI _ _))) (pa_cons (pe_glob (by rfl) hg (relI _ _)) pa_nil))))), ?_⟩
    exact ⟨_, rfl, _, rfl, _, _, _, rfl, .inl ⟨i, rfl, q⟩⟩
/-- keys go in, a tuple of them comes out -/
def spRow (K : PySem.W.Frag) : Sp := fun vs H Q _ => ∃ (a : Addr) (ns : List Int), vs = [.ref a] ∧ Sq H a (ns.map V.int) ∧ ns.length ≤ 12 ∧ (∀ n ∈ ns, -1000000000 ≤ n ∧ n ≤ 1000000000) ∧
  ∀ H' p, Same H H' → H' p = some (.tup (ns.map V.int)) → Q (.ref p) H'
theorem ok_row (T : Tx K mg A) : FnOk P w K mg base CX0 4 A.f_row_of A.d_row_of ["row"] (spRow K) := by
  refine T.F_row_of.ok sc_row_of (fun vs H Q E h => ?_) (fun cdv B outer s H vs Q E hr h => ?_)
  · obtain ⟨a, ns, rfl, _⟩ := h
    rfl
  · obtain ⟨a, ns, rfl, ha, hl, hk, q⟩ := h
    obtain ⟨t, hg⟩ := cst T.c_MOST_PLACES
    refine ⟨_, pss_cons (ps_if (PW.pt (pw_or (pt_not (pt_val (pe_callB call_isiT (by rfl) T.g_isinstance (by decide +kernel) (pa_cons (pv 0) (pa_cons (pe_tup (pa_cons (pe_bltn (v := .ty "list") (by rfl) T.g_list (by decide +kernel) rfl) (pa_cons (pe_bltn (v := .ty "tuple") (by rfl) T.g_tuple (by decide +kernel) rfl) pa_nil))) pa_nil)))))
        (pw_or1 (pt_cmpR op_gt (pe_callB call_len_seq (by rfl) T.g_len PySem.boot_len (pa_cons (pv 0) pa_nil)) (pe_glob (by rfl) hg (relI _ _)) (nomark _))))) (pss_one ps_never) pss_nil)
      (C8.pss_cut (ps_for PassesOwn.never rfl (pi_enS (by rfl) T.g_enumerate (pa_cons (pv 0) pa_nil)) (pg_tup rfl (pgs_cons (pg_name (i := 1) sc_row_of.nd rfl (Or.inl rfl)) (pgs_cons (pg_name (i := 2) sc_row_of.nd rfl (Or.inl rfl)) pgs_nil)))
        (pss_one (ps_if (pt_not (pt_val (pe_call (ok_key T) hr (by rfl) T.m_is_key T.F_is_key.kp (b_key T) .nil pass0 (pa_cons (pv 2) pa_nil)))) (pss_one ps_never) pss_nil)))
      (pss_one (ps_ret (pe_callTy call_tuple_of (by rfl) T.g_tuple (by decide +kernel) (pa_cons (pv 0) pa_nil))))), ?_⟩
    refine ⟨_, rfl, by show 2 ≤ sizeLine; decide, fun tp htp => ?_⟩
    have ha1 : Sq (upd H tp (.tup [.ty "list", .ty "tuple"])) a (ns.map V.int) := ha.same (Same.up htp)
    have isi : ∃ c b1, TyX K (upd H tp (.tup [.ty "list", .ty "tuple"])) (.ref a) (.type c) ∧ PySem.W.kitOne K (.type c) (.type "list") = some b1 ∧ (b1 = false → PySem.W.kitOne K (.type c) (.type "tuple") = some true) := by
      rcases ha1 with h | h
      · exact ⟨"list", true, .base (.lst h), kit_ty (by decide +kernel), fun z => by cases z⟩
      · exact ⟨"tuple", false, .base (.tup h), kit_ty (by decide +kernel), fun _ => kit_ty (by decide +kernel)⟩
    obtain ⟨c, b1, ty, k1, k2⟩ := isi
    refine ⟨_, tp, _, .type c, [.type "list", .type "tuple"], true, rfl, upd_same, .cons (.ty _) (.cons (.ty _) .nil), ty, kitAny_cons k1 (fun z => kitAny_cons (k2 z) (fun z => by cases z) (fun _ => rfl)) (fun _ => rfl), true, rfl, ?_⟩
    refine iteF ⟨_, rfl, a, _, rfl, ha1.len, _, _, rfl, rfl, _, rfl, ite2 (fun z => ?_) (fun _ => ?_)⟩
    · exfalso
      rw [List.length_map] at z
      have := of_decide_eq_true z
      omega
    refine ⟨fun σ H' => ∃ z y, σ = [some (.ref a), z, y] ∧ Same H H', ?_, ?_⟩
    · rcases ha with ha | ha
      · refine ⟨_, rfl, a, _, rfl, .inl ⟨SqL.of ((Same.up htp) _ _ ha), for_it (walk_enum (xs := ns.map V.int)) (fun i σ H' => ∃ z y, σ = [some (.ref a), z, y] ∧ Same H H') ⟨none, none, rfl, Same.up htp⟩ (fun i σ H' _ ⟨_, _, _, s⟩ => SqL.of (s _ _ ha)) ?_ ?_⟩⟩
        · rintro i v σ H2 H3 hi ⟨z, y, rfl, s⟩ ⟨T', x, x2, rfl, hT, rfl, e1, e2⟩
          obtain ⟨hi', rfl⟩ := ints_at e2
          cases e1
          refine ⟨_, _, rfl, SqT.of upd_same, rfl, _, _, rfl, _, _, rfl, rfl, ?_⟩
          refine ⟨_, rfl, _, rfl, _, rfl, ?_⟩
          rw [decide_eq_true (hk _ (List.getElem_mem hi'))]
          exact iteF ⟨_, _, rfl, s.trans (Same.up hT)⟩
        · rintro σ H2 ⟨z, y, rfl, s⟩
          exact ⟨_, _, rfl, s⟩
      · refine ⟨_, rfl, a, _, rfl, .inr ⟨SqT.of ((Same.up htp) _ _ ha), for_it (walk_enumT (xs := ns.map V.int)) (fun i σ H' => ∃ z y, σ = [some (.ref a), z, y] ∧ Same H H') ⟨none, none, rfl, Same.up htp⟩ (fun i σ H' _ ⟨_, _, _, s⟩ => SqT.of (s _ _ ha)) ?_ ?_⟩⟩
        · rintro i v σ H2 H3 hi ⟨z, y, rfl, s⟩ ⟨T', x, x2, rfl, hT, rfl, e1, e2⟩
          obtain ⟨hi', rfl⟩ := ints_at e2
          cases e1
          refine ⟨_, _, rfl, SqT.of upd_same, rfl, _, _, rfl, _, _, rfl, rfl, ?_⟩
          refine ⟨_, rfl, _, rfl, _, rfl, ?_⟩
          rw [decide_eq_true (hk _ (List.getElem_mem hi'))]
          exact iteF ⟨_, _, rfl, s.trans (Same.up hT)⟩
        · rintro σ H2 ⟨z, y, rfl, s⟩
          exact ⟨_, _, rfl, s⟩
    · rintro σ H2 ⟨z, y, rfl, s⟩
      rcases ha with ha | ha
      · exact ⟨_, rfl, a, _, rfl, .inl ⟨SqL.of (s _ _ ha), fun p hp => q _ _ (s.trans (Same.up hp)) upd_same⟩⟩
      · exact ⟨_, rfl, a, _, rfl, .inr ⟨SqT.of (s _ _ ha), q _ _ s (s _ _ ha)⟩⟩
theorem b_row (T : Tx K mg A) : L2.Binds K A.d_row_of ["row"] [] := T.F_row_of.binds fun _ _ _ _ _ _ us hl => match us, hl with | [_], _ => rfl
/-- what stood before an instance was made stands behind its making -/
theorem new_same {C x dx : Addr} {H H' : Hp} (nx : H x = none) (ndx : H dx = none) (k : ∀ b o, (upd (upd H dx (.own x)) x (.ins C dx [])) b = some o → b ≠ x → H' b = some o) : Same H H' := fun b o e => by
  refine k b o ?_ (ne_of_none e nx)
  rw [upd_ne (ne_of_none e nx), upd_ne (ne_of_none e ndx)]
  exact e
def zf (t1 t2 lk : Nat) : List (Str × V) := putF "looks" (.int lk) (putF "way" (.ref t2) (putF "row" (.ref t1) []))
/-- a Sift stands at p -/
def SiftAt (C : Addr) (H : Hp) (p : Addr) (ks ws : List Int) (lk : Nat) : Prop := ∃ (dx t1 t2 : Addr), H p = some (.ins C dx (zf t1 t2 lk)) ∧ H t1 = some (.tup (ks.map V.int)) ∧ H t2 = some (.tup (ws.map V.int))
theorem SiftAt.ext {C : Addr} {H H' : Hp} {p : Addr} {ks ws : List Int} {lk : Nat} (h : SiftAt C H p ks ws lk) (e : ∀ b o, H b = some o → (∀ ps, o ≠ .tbl ps) → H' b = some o) : SiftAt C H' p ks ws lk := by
  obtain ⟨dx, t1, t2, a, b, c⟩ := h
  exact ⟨dx, t1, t2, e _ _ a (fun ps z => nomatch z), e _ _ b (fun ps z => nomatch z), e _ _ c (fun ps z => nomatch z)⟩
theorem SiftAt.same {C : Addr} {H H' : Hp} {p : Addr} {ks ws : List Int} {lk : Nat} (h : SiftAt C H p ks ws lk) (s : Same H H') : SiftAt C H' p ks ws lk := h.ext fun b o e _ => s b o e
/-- two lists of one's own -/
structure Two (H : Hp) (D W : Addr) (xs ys : List V) (H' : Hp) : Prop where
  s : Same H H'
  d : H' D = some (.lst xs)
  w : H' W = some (.lst ys)
  nD : H D = Option.none
  nW : H W = Option.none
  ne : D ≠ W
theorem Two.same {H H' H2 : Hp} {D W : Addr} {xs ys : List V} (h : Two H D W xs ys H') (s : Same H' H2) : Two H D W xs ys H2 := ⟨h.s.trans s, s _ _ h.d, s _ _ h.w, h.nD, h.nW, h.ne⟩
theorem tabs_upd {T : List (Addr × Str)} {H : Hp} {D : Addr} {xs : List V} {o : HO} (t : Tabs T H) (h : H D = some (.lst xs)) : Tabs T (upd H D o) := fun p hp => by
  obtain ⟨ps, h1, h2, h3⟩ := t p hp
  refine ⟨ps, by rw [upd_ne (ne_of h1 h (by intro z; cases z))]; exact h1, h2, fun pos cv hc => ?_⟩
  obtain ⟨c, e1, e2⟩ := h3 pos cv hc
  exact ⟨c, e1, by rw [upd_ne (ne_of e2 h (by intro z; unfold LamX.CodeO at z; cases z))]; exact e2⟩
/-- two lists of one's own, where code may be made -/
structure TwoE (T : List (Addr × Str)) (H : Hp) (D W : Addr) (xs ys : List V) (H' : Hp) : Prop where
  e : ExtN H H'
  t : Tabs T H'
  d : H' D = some (.lst xs)
  w : H' W = some (.lst ys)
  nD : H D = Option.none
  nW : H W = Option.none
  ne : D ≠ W
section
variable {T : List (Addr × Str)} {H H' H2 : Hp} {D W : Addr} {xs ys zs : List V}
theorem TwoE.setD (h : TwoE T H D W xs ys H') : TwoE T H D W zs ys (upd H' D (.lst zs)) :=
  ⟨fun b o e n => by rw [upd_ne (ne_of_none e h.nD)]; exact h.e _ _ e n, tabs_upd h.t h.d, upd_same, by rw [upd_ne h.ne.symm]; exact h.w, h.nD, h.nW, h.ne⟩
theorem TwoE.setW (h : TwoE T H D W xs ys H') : TwoE T H D W xs zs (upd H' W (.lst zs)) :=
  ⟨fun b o e n => by rw [upd_ne (ne_of_none e h.nW)]; exact h.e _ _ e n, tabs_upd h.t h.w, by rw [upd_ne h.ne]; exact h.d, upd_same, h.nD, h.nW, h.ne⟩
theorem TwoE.same (h : TwoE T H D W xs ys H') (s : Same H' H2) : TwoE T H D W xs ys H2 := ⟨h.e.trans (extN_of s), h.t.ext s, s _ _ h.d, s _ _ h.w, h.nD, h.nW, h.ne⟩
theorem TwoE.ext (h : TwoE T H D W xs ys H') (e : ExtN H' H2) (t : Tabs T H2) : TwoE T H D W xs ys H2 := ⟨h.e.trans e, t, e _ _ h.d (fun ps z => nomatch z), e _ _ h.w (fun ps z => nomatch z), h.nD, h.nW, h.ne⟩
end
theorem TreeAt.ext {C : Addr} {H H' : Hp} {p n w : Nat} (h : TreeAt C H p n w) (e : ExtN H H') : TreeAt C H' p n w :=
  ⟨let ⟨dx, t, a, b⟩ := h.ob; ⟨dx, t, e _ _ a (fun ps z => nomatch z), e _ _ b (fun ps z => nomatch z)⟩, h.hn, h.hw⟩
theorem Sq.ext {H H' : Hp} {a : Addr} {xs : List V} (h : Sq H a xs) (e : ExtN H H') : Sq H' a xs := h.elim (fun x => .inl (e _ _ x (fun ps z => nomatch z))) fun x => .inr (e _ _ x (fun ps z => nomatch z))
theorem RowIn.ext {H H' : Hp} {a : Addr} {ns : List Int} (h : RowIn H a ns) (e : ExtN H H') : RowIn H' a ns := ⟨h.1.ext e, h.2⟩
theorem q5 : ¬ (("changes" : Str) = "looks") := by decide +kernel
def wz (l : List Nat) : List Int := l.map fun i => ((i : Nat) : Int)
def resSift (C : Addr) (H : Hp) (q : Addr) (r : List Int × List Nat × Nat) : Prop := SiftAt C H q r.1 (wz r.2.1) r.2.2
def TookAt (C : Addr) (H : Hp) (t : Addr) (least : Int) (r : List Int × List Nat × Nat) : Prop := ∃ q : Addr, H t = some (.tup [.int least, .ref q]) ∧ resSift C H q r
theorem TookAt.ext {C : Addr} {H H' : Hp} {t : Addr} {x : Int} {r : List Int × List Nat × Nat} (h : TookAt C H t x r) (e : ExtN H H') : TookAt C H' t x r :=
  let ⟨p, a, s⟩ := h; ⟨p, e _ _ a (fun ps z => nomatch z), SiftAt.ext s e⟩
theorem fdK_heap (r w : Int) (t t' : Addr) (n : Int) (m : V) : putF "_heap" (.ref t') (fdK r w t n m) = fdK r w t' n m := by
  have h2 : ("room" : Str) ≠ "_heap" := by decide +kernel
  have h5 : ("arms" : Str) ≠ "_heap" := by decide +kernel
  unfold fdK
  simp only [putF, if_neg h2, if_neg h5, if_true]
theorem fdK_ent (r w : Int) (t : Addr) (n n' : Int) (m : V) : putF "_entered" (.int n') (fdK r w t n m) = fdK r w t n' m := by
  have h2 : ("room" : Str) ≠ "_entered" := by decide +kernel
  have h5 : ("arms" : Str) ≠ "_entered" := by decide +kernel
  have h8 : ("_heap" : Str) ≠ "_entered" := by decide +kernel
  unfold fdK
  simp only [putF, if_neg h2, if_neg h5, if_neg h8, if_true]
theorem fdK_room (r w : Int) (t : Addr) (n : Int) (m : V) : (fdK r w t n m).lookup ("room" : Str) = some (.int r) := lk_eq
theorem fdK_arms (r w : Int) (t : Addr) (n : Int) (m : V) : (fdK r w t n m).lookup ("arms" : Str) = some (.int w) := (lk_ne (by decide +kernel)).trans lk_eq
theorem fdK_hp (r w : Int) (t : Addr) (n : Int) (m : V) : (fdK r w t n m).lookup ("_heap" : Str) = some (.ref t) := (lk_ne (by decide +kernel)).trans ((lk_ne (by decide +kernel)).trans lk_eq)
theorem ButP.put {p : Addr} {H : Hp} (o : HO) : ButP p H (upd H p o) := fun b u h _ k => by rw [upd_ne k]; exact h
theorem tabs_ins {Ts : List (Addr × Str)} {H : Hp} {p C dx : Addr} {fs fs' : List (Str × V)} (t : Tabs Ts H) (h : H p = some (.ins C dx fs)) : Tabs Ts (upd H p (.ins C dx fs')) := fun q hq => by
  obtain ⟨ps, h1, h2, h3⟩ := t q hq
  refine ⟨ps, by rw [upd_ne (ne_of h1 h (by intro z; cases z))]; exact h1, h2, fun pos cv hc => ?_⟩
  obtain ⟨c, e1, e2⟩ := h3 pos cv hc
  exact ⟨c, e1, by rw [upd_ne (ne_of e2 h (by intro z; cases z))]; exact e2⟩
theorem b_ck (T : Tx K mg A) : L2.Binds K A.d_check_key ["key"] [] := T.F_check_key.binds fun _ _ _ _ _ _ us hl => match us, hl with | [_], _ => rfl
/-- the faults of a row -/
def faultB (ns : List Int) (w p : Nat) : Bool := decide (0 < p) && decide (ns.getD p 0 < ns.getD ((p - 1) / w) 0)
def faultL (ns : List Int) (w : Nat) : List Nat := (List.range ns.length).filter (faultB ns w)
theorem heap_fault {n w : Nat} {ks : List Int} (hl : ks.length = n) (h : HeapL n w ks) : faultL ks w = [] := by
  refine List.eq_nil_iff_forall_not_mem.mpr fun p hp => ?_
  unfold faultL at hp
  obtain ⟨h1, h2⟩ := List.mem_filter.mp hp
  unfold faultB at h2
  obtain ⟨h3, h4⟩ := Bool.and_eq_true_iff.mp h2
  have h1 := List.mem_range.mp h1
  have h3 := of_decide_eq_true h3
  have h4 := of_decide_eq_true h4
  have := h p (by omega) (by omega)
  unfold keyAt at this
  omega
theorem kb_push (T : Tx K mg A) : ∃ mv : List Value, KBn K A.d_push ["row", "key", "arms"] 2 ["arms"] (fun us ws => us ++ (mv ++ ws)) (fun vs zs => vs ++ zs) := by
  obtain ⟨mv, h⟩ := T.F_push.kbinds0 (ps := ["row", "key", "arms"]) 2 ["arms"] [] (fun us mv ws => us ++ (mv ++ ws)) (by simp) (by simp) (fun r1 r2 r3 => r1.append (r2.append r3))
    (fun D doc pm an cdv ct us mv ws h1 h2 h3 => by
      match us, mv, ws, h1, h2, h3 with
      | [a, b], [], [c], _, _, _ => rfl)
  exact ⟨mv, h⟩
theorem kb_put (T : Tx K mg A) : ∃ mv : List Value, KBn K A.d_put_for ["row", "key", "arms"] 2 ["arms"] (fun us ws => us ++ (mv ++ ws)) (fun vs zs => vs ++ zs) := by
  obtain ⟨mv, h⟩ := T.F_put_for.kbinds0 (ps := ["row", "key", "arms"]) 2 ["arms"] [] (fun us mv ws => us ++ (mv ++ ws)) (by simp) (by simp) (fun r1 r2 r3 => r1.append (r2.append r3))
    (fun D doc pm an cdv ct us mv ws h1 h2 h3 => by
      match us, mv, ws, h1, h2, h3 with
      | [a, b], [], [c], _, _, _ => rfl)
  exact ⟨mv, h⟩
theorem key_at {ks : List Int} {p : Nat} (h : p < ks.length) : atI (ks.map V.int) (p : Int) = some (V.int (keyAt ks p)) := by
  have e : (ks.map V.int)[p]? = some (V.int (keyAt ks p)) := by
    unfold keyAt
    rw [List.getElem?_map, List.getD_eq_getElem?_getD, List.getElem?_eq_getElem h]
    rfl
  exact atI_nat e
def spCk : Sp := fun vs H Q _ => ∃ i : Int, vs = [.int i] ∧ (-1000000000 ≤ i ∧ i ≤ 1000000000) ∧ Q .non H
theorem ok_ck (T : Tx K mg A) : FnOk P w K mg base CX0 4 A.f_check_key A.d_check_key ["key"] spCk := by
  refine T.F_check_key.ok sc_check_key (fun vs H Q E h => ?_) (fun cdv B outer s H vs Q E hr h => ?_)
  · obtain ⟨i, rfl, _⟩ := h
    rfl
  · obtain ⟨i, rfl, hi, q⟩ := h
    refine ⟨_, (pss_one (ps_if (pt_not (pt_val (pe_call (ok_key T) (hr.mono (by decide)) (by rfl) T.m_is_key T.F_is_key.kp (b_key T) .nil pass0 (pa_cons (pv 0) pa_nil)))) (pss_one ps_never) pss_nil)), ?_⟩
    refine ⟨_, rfl, i, rfl, _, rfl, ?_⟩
    rw [decide_eq_true hi]
    exact iteF q
def vi (l : List Nat) : List V := l.map fun i => V.int (i : Nat)
theorem b_iter (T : Tx K mg A) : L2.Binds K A.d_t___iter__ ["self"] [] := T.F_t___iter__.binds fun _ _ _ _ _ _ us hl => match us, hl with | [_], _ => rfl
theorem kb_of (T : Tx K mg A) : ∃ mv : List Value, KBn K A.d_t_of ["cls", "row", "arms"] 2 ["arms"] (fun us ws => us ++ (mv ++ ws)) (fun vs zs => vs ++ zs) := by
  obtain ⟨mv, h⟩ := T.F_t_of.kbinds0 (ps := ["cls", "row", "arms"]) 2 ["arms"] [] (fun us mv ws => us ++ (mv ++ ws)) (by simp) (by simp) (fun r1 r2 r3 => r1.append (r2.append r3))
    (fun D doc pm an cdv ct us mv ws h1 h2 h3 => by
      match us, mv, ws, h1, h2, h3 with
      | [a, b], [], [c], _, _, _ => rfl)
  exact ⟨mv, h⟩
theorem tf_no (n w t : Nat) {m : Str} (h1 : ¬ m = "many") (h2 : ¬ m = "arms") (h3 : ¬ m = "_places") : (tf n w t).lookup m = none := by
  unfold tf
  rw [lookup_putF, if_neg h3, lookup_putF, if_neg h2, lookup_putF, if_neg h1]
  rfl
theorem b_par (T : Tx K mg A) : L2.Binds K A.d_t_parent ["self", "place"] [] := T.F_t_parent.binds fun _ _ _ _ _ _ us hl => match us, hl with | [_, _], _ => rfl
/-- the parent as the program says it -/
def parV (w p : Nat) : V := if p = 0 then .non else .int ((p - 1) / w : Nat)
theorem ok_cp (T : Tx K mg A) : FnOk P w K mg base CX0 3 A.f_check_place A.d_check_place ["place", "many"] spCp := by
  refine T.F_check_place.ok sc_check_place (fun vs H Q E h => ?_) (fun cdv B outer s H vs Q E hr h => ?_)
  · obtain ⟨i, n, rfl, _⟩ := h
    rfl
  · obtain ⟨i, n, rfl, hi, q⟩ := h
    refine ⟨_, pss_one (ps_if (pt_not (pt_val (pe_call (ok_ii T) hr (by rfl) T.m_is_integer_from T.F_is_integer_from.kp (b_ii T) .nil pass0
      (pa_cons (pv 0) (pa_cons pe_int (pa_cons (pe_op op_sub (pv 1) pe_int) pa_nil)))))) (pss_one ps_never) pss_nil), ?_⟩
    refine ⟨_, rfl, _, rfl, _, _, rfl, rfl, _, _, _, rfl, .inl ⟨i, rfl, _, rfl, ?_⟩⟩
    rw [decide_eq_true (show 0 ≤ i ∧ i ≤ n - 1 by omega)]
    exact iteF q
theorem b_cp (T : Tx K mg A) : L2.Binds K A.d_check_place ["place", "many"] [] := T.F_check_place.binds fun _ _ _ _ _ _ us hl => match us, hl with | [_, _], _ => rfl
end
end Tw

set_option Elab.async false
set_option linter.all false
set_option maxRecDepth 100000
set_option maxHeartbeats 2000000
namespace Tw
open PySem PySem.Spec PyProof.Rows L2
section
variable {P : Program} {w : World} {K : PySem.W.Frag} {mg : Str → Option Value} {base : Heap} {A : Ad}
open LamX (ExtN Tabs TabS)
theorem tf_many (n w t : Nat) : (tf n w t).lookup ("many" : Str) = some (.int n) := by
  unfold tf
  rw [lookup_putF, if_neg n2, lookup_putF, if_neg n1, lookup_putF, if_pos rfl]
theorem n3 : ¬ (("arms" : Str) = "_places") := by decide +kernel
theorem tf_arms (n w t : Nat) : (tf n w t).lookup ("arms" : Str) = some (.int w) := by
  unfold tf
  rw [lookup_putF, if_neg n3, lookup_putF, if_pos rfl]
def spPar (C : Addr) : Sp := fun vs H Q _ => ∃ (p n w i : Nat), vs = [.ref p, .int i] ∧ TreeAt C H p n w ∧ i < n ∧ Q (parV w i) H
theorem ok_par (T : Tx K mg A) : FnOk P w K mg base CX0 4 A.f_t_parent A.d_t_parent ["self", "place"] (spPar A.C) := by
  refine T.F_t_parent.ok sc_t_parent (fun vs H Q E h => ?_) (fun cdv B outer s H vs Q E hr h => ?_)
  · obtain ⟨p, n, w, i, rfl, _⟩ := h
    rfl
  · obtain ⟨p, n, w, i, rfl, t, hi, q⟩ := h
    obtain ⟨dx, l, h1, h2⟩ := t.ob
    refine ⟨_, pss_cons (ps_expr (pe_call (ok_cp T) hr (by rfl) T.m_check_place T.F_check_place.kp (b_cp T) .nil pass0 (pa_cons (pv 1) (pa_cons (pe_fld (pv 0) rfl) pa_nil))))
      (pss_cons (ps_if (pt_cmpR op_eq (pv 1) pe_int (nomark _)) (pss_one (ps_ret pe_non)) pss_nil)
      (pss_one (ps_ret (pe_op op_fdivN (pe_op op_sub (pv 1) pe_int) (pe_fld (pv 0) rfl))))), ?_⟩
    refine ⟨_, rfl, _, rfl, p, A.C, dx, _, _, rfl, h1, T.cT, T.nMany, tf_many _ _ _, _, _, rfl, ⟨by omega, by omega⟩, ?_⟩
    refine ⟨_, rfl, rfl, _, rfl, ?_⟩
    by_cases h0 : i = 0
    · rw [decide_eq_true (show V.int (i : Nat) = V.int 0 by rw [h0]; rfl)]
      refine iteT ?_
      unfold parV at q
      rw [if_pos h0] at q
      exact q
    · rw [decide_eq_false (show ¬ V.int (i : Nat) = V.int 0 by intro z; injection z with z; omega)]
      refine iteF ?_
      refine ⟨_, rfl, _, _, rfl, rfl, _, rfl, p, A.C, dx, _, _, rfl, h1, T.cT, T.nArms, tf_arms _ _ _, _, _, rfl, rfl, ⟨by have := t.hw; omega, by have := t.hw; omega⟩, ?_⟩
      unfold parV at q
      rw [if_neg h0] at q
      have e : Int.fdiv ((i : Int) - 1) (w : Int) = ((i - 1) / w : Nat) := by
        rw [Int.fdiv_eq_ediv_of_nonneg _ (by omega), show ((i : Int) - 1) = ((i - 1 : Nat) : Int) by omega]
        rfl
      show Q (V.int (Int.fdiv ((i : Int) - 1) (w : Int))) H
      rw [e]
      exact q
theorem ok_iter (T : Tx K mg A) : FnIt P w K mg base 2 A.f_t___iter__ A.d_t___iter__ ["self"] (spIter K A.C "_places") := by
  refine fnIt_of T.F_t___iter__ sc_t___iter__ (fun cdv B outer s H vs Q hr h => ?_)
  obtain ⟨a, dx, fs, t, zs, rfl, ha, hf, ht, q⟩ := h
  refine ⟨_, pss_one (ps_ret (pe_callB call_iterT (by rfl) T.g_iter (by decide +kernel) (pa_cons (pe_fld (pv 0) rfl) pa_nil))), ?_⟩
  exact ⟨_, rfl, a, A.C, dx, _, _, rfl, ha, T.cT, T.nPl, hf, t, zs, rfl, ht, q⟩
theorem kb_init (T : Tx K mg A) : ∃ mv : List Value, KBn K A.d_t___init__ ["self", "many", "arms"] 2 ["arms"] (fun us ws => us ++ (mv ++ ws)) (fun vs zs => vs ++ zs) := by
  obtain ⟨mv, h⟩ := T.F_t___init__.kbinds0 (ps := ["self", "many", "arms"]) 2 ["arms"] [] (fun us mv ws => us ++ (mv ++ ws)) (by simp) (by simp) (fun r1 r2 r3 => r1.append (r2.append r3))
    (fun D doc pm an cdv ct us mv ws h1 h2 h3 => by
      match us, mv, ws, h1, h2, h3 with
      | [a, b], [], [c], _, _, _ => rfl)
  exact ⟨mv, h⟩
theorem rg_pl (n : Nat) : rgV 0 (n : Int) = pl n := by
  unfold rgV pl
  rw [show ((n : Int) - 0).toNat = n by omega]
  exact congrArg (fun f => (List.range n).map f) (funext fun i => by rw [Int.zero_add])
def spInit (C : Addr) : Sp := fun vs H Q _ => ∃ (p dx n w : Nat), vs = [.ref p, .int n, .int w] ∧ n ≤ 12 ∧ (1 ≤ w ∧ w ≤ 4) ∧ H p = some (.ins C dx []) ∧
  ∀ (H' : Hp), (∀ b o, H b = some o → b ≠ p → H' b = some o) → TreeAt C H' p n w → Q .non H'
theorem ok_init (T : Tx K mg A) : FnOk P w K mg base CX0 4 A.f_t___init__ A.d_t___init__ ["self", "many", "arms"] (spInit A.C) := by
  refine T.F_t___init__.ok sc_t___init__ (fun vs H Q E h => ?_) (fun cdv B outer s H vs Q E hr h => ?_)
  · obtain ⟨p, dx, n, w, rfl, _⟩ := h
    rfl
  · obtain ⟨p, dx, n, w, rfl, hn, hw, hp, q⟩ := h
    refine ⟨_, PSs.nox (pss_cons (ps_expr (pe_call (ok_ca T) hr (by rfl) T.m_check_arms T.F_check_arms.kp (b_ca T) .nil pass0 (pa_cons (pv 2) pa_nil)))
      (pss_cons (ps_expr (pe_call (ok_cm T) hr (by rfl) T.m_check_many T.F_check_many.kp (b_cm T) .nil pass0 (pa_cons (pv 1) pa_nil)))
      (pss_cons (ps_fld (pv 0) (pv 1) rfl) (pss_cons (ps_fld (pv 0) (pv 2) rfl)
      (pss_one (ps_fld (pv 0) (pe_tupRg rfl (by rfl) T.g_tuple (prg_1 (by rfl) T.g_range (pv 1))) rfl)))))), ?_⟩
    refine ⟨_, rfl, _, rfl, ⟨by omega, by omega⟩, _, rfl, _, rfl, ⟨by omega, by omega⟩, ?_⟩
    refine ⟨_, rfl, _, rfl, p, A.C, dx, _, rfl, hp, T.cT, T.nMany, (by show 0 < 1000; decide), ?_⟩
    refine ⟨_, rfl, _, rfl, p, A.C, dx, _, rfl, upd_same, T.cT, T.nArms, (by show 1 < 1000; decide), ?_⟩
    refine ⟨_, rfl, _, rfl, RgOk.of_le (by omega) (by omega) (by omega) (by omega), fun t ht => ?_⟩
    have npt : p ≠ t := fun z => by
      rw [z, upd_same] at ht
      cases ht
    refine ⟨_, rfl, p, A.C, dx, _, rfl, Eq.trans (upd_ne npt) upd_same, T.cT, T.nPl, (by simp only [putF, n1, if_false]; show 2 < 1000; decide), ?_⟩
    refine q _ (fun b o e hb => ?_) ⟨⟨dx, t, upd_same, ?_⟩, hn, hw⟩
    · have nbt : b ≠ t := ne_of_none (by rw [upd_ne hb, upd_ne hb]; exact e) ht
      rw [upd_ne hb, upd_ne nbt, upd_ne hb, upd_ne hb]
      exact e
    · rw [upd_ne npt.symm, upd_same, rg_pl]
def spOf (K : PySem.W.Frag) (C : Addr) : Sp := fun vs H Q _ => ∃ (a w : Nat) (ns : List Int), vs = [.ref C, .ref a, .int w] ∧ (1 ≤ w ∧ w ≤ 4) ∧ Sq H a (ns.map V.int) ∧ ns.length ≤ 12 ∧ (∀ n ∈ ns, -1000000000 ≤ n ∧ n ≤ 1000000000) ∧
  ∀ (H' : Hp) p, Same H H' → H p = none → TreeAt C H' p ns.length w → Q (.ref p) H'
theorem ok_of (T : Tx K mg A) : FnOk P w K mg base CX0 6 A.f_t_of A.d_t_of ["cls", "row", "arms"] (spOf K A.C) := by
  obtain ⟨mv, kb⟩ := kb_init T
  refine T.F_t_of.ok sc_t_of (fun vs H Q E h => ?_) (fun cdv B outer s H vs Q E hr h => ?_)
  · obtain ⟨a, w, ns, rfl, _⟩ := h
    rfl
  · obtain ⟨a, w, ns, rfl, hw, ha, hl, hk, q⟩ := h
    refine ⟨_, PSs.nox (pss_cons (ps_expr (pe_call (ok_ca T) (hr.mono (by decide)) (by rfl) T.m_check_arms T.F_check_arms.kp (b_ca T) .nil pass0 (pa_cons (pv 2) pa_nil)))
      (pss_one (ps_ret (pe_makeLK (i := 0) T.mkC (ok_init T) hr kb pass0 (pa_cons (pe_callB call_len_seq (by rfl) T.g_len PySem.boot_len (pa_cons (pe_call (ok_row T) (hr.mono (by decide)) (by rfl) T.m_row_of T.F_row_of.kp (b_row T) .nil pass0 (pa_cons (pv 1) pa_nil)) pa_nil)) pa_nil)
        (pk_cons (pv 2) pk_nil) rfl (Or.inl rfl))))), ?_⟩
    refine ⟨_, rfl, _, rfl, ⟨by omega, by omega⟩, rfl, _, rfl, a, ns, rfl, ha, hl, hk, fun H1 p s1 hp => ?_⟩
    refine ⟨p, _, rfl, .inr (SqT.of hp), _, rfl, rfl, rfl, fun x dx nx ndx nex => ?_⟩
    refine ⟨x, dx, ns.length, w, by rw [List.length_map]; rfl, hl, hw, upd_same, fun H2 k2 t2 => ⟨rfl, q H2 x (fun b o e => k2 b o ?_ (ne_of_none (s1 _ _ e) nx)) (s1.free nx) t2⟩⟩
    rw [upd_ne (ne_of_none (s1 _ _ e) nx), upd_ne (ne_of_none (s1 _ _ e) ndx)]
    exact s1 _ _ e
theorem tf_pl (n w t : Nat) : (tf n w t).lookup ("_places" : Str) = some (.ref t) := by
  unfold tf
  rw [lookup_putF, if_pos rfl]
theorem pl_len (n : Nat) : (pl n).length = n := by unfold pl; rw [List.length_map, List.length_range]
theorem ix_sq {H : Hp} {a : Addr} {ns : List Int} {i : Nat} {Q : VK} (h : Sq H a (ns.map V.int)) (hi : i < ns.length) (q : Q (.int (ns.getD i 0)) H) : rIx K (.ref a) (.int i) H Q := by
  have e : (ns.map V.int)[i]? = some (V.int (ns.getD i 0)) := by
    rw [List.getElem?_map, List.getElem?_eq_getElem hi, List.getD_eq_getElem?_getD, List.getElem?_eq_getElem hi]
    rfl
  rcases h with h | h
  · exact .inl ⟨a, _, _, _, rfl, rfl, SqL.of h, atI_nat e, q⟩
  · exact .inr (.inl ⟨a, _, _, _, rfl, rfl, SqT.of h, atI_nat e, q⟩)
theorem filt_pick (l : List Nat) (b : Nat → Bool) : vi (l.filter b) = l.filterMap fun j => if b j = true then some (V.int (j : Nat)) else none := by
  unfold vi
  induction l with
  | nil => rfl
  | cons a l ih =>
    by_cases h : b a = true
    · rw [List.filter_cons_of_pos h, List.map_cons, ih, List.filterMap_cons, if_pos h]
    · rw [List.filter_cons_of_neg h, ih, List.filterMap_cons, if_neg h]
def spFau : Sp := fun vs H Q _ => ∃ (a w : Nat) (ns : List Int), vs = [.ref a, .int w] ∧ (1 ≤ w ∧ w ≤ 4) ∧ RowIn H a ns ∧ ∀ H' q, Same H H' → H q = none → H' q = some (.lst (vi (faultL ns w))) → Q (.ref q) H'
theorem ok_fau (T : Tx K mg A) : FnOk P w K mg base CX0 7 A.f_faults A.d_faults ["row", "arms"] spFau := by
  obtain ⟨mo, ko⟩ := kb_of T
  refine T.F_faults.ok sc_faults (fun vs H Q E h => ?_) (fun cdv B outer s H vs Q E hr h => ?_)
  · obtain ⟨a, w, ns, rfl, _⟩ := h
    rfl
  · obtain ⟨a, w, ns, rfl, hw, hrow, q⟩ := h
    have nd := sc_faults.nd
    refine ⟨_, PSs.nox (pss_cons (ps_set (i := 2) nd rfl (Or.inr rfl) (pe_cmethK (pe_glob (v := .ref A.C) (by rfl) T.mC (relR _)) T.cr T.cof (ok_of T) hr ko pass0 (pa_cons (pv 0) pa_nil) (pk_cons (pv 1) pk_nil)))
      (pss_one (ps_ret (pe_lc (own := [("place", 3)]) (g := gName 3) rfl nd (pi_own T.D_t___iter__ (ok_iter T) (hr.mono (by decide)) (b_iter T) (pv 2)) (blkOk_by (own := [("place", 3)]) (N := ["row", "arms", "tree", "place"]) (sc := defScope s_faults) (by decide +kernel))
        (fun _ _ _ _ _ => pg_name (i := 3) nd rfl (Or.inl rfl))
        (fun _ _ _ _ _ => pts_one (PW.pt (pw_and (pt_cmpR op_gt (pv 3) pe_int (nomark _)) (pw_and1 (pt_cmpR op_lt (pe_ix (r := rIx K) ix_seq (pv 0) (pv 3) (fun _ _ => rfl))
          (pe_ix (r := rIx K) ix_seq (pv 0) (pe_meth (pv 2) T.cT T.M_t_parent (ok_par T) (hr.mono (by decide)) (b_par T) .nil pass0 (pa_cons (pv 3) pa_nil)) (fun _ _ => rfl)) (nomark _))))))
        (fun _ _ _ _ _ => pv 3))))), ?_⟩
    refine ⟨rfl, _, rfl, _, rfl, rfl, rfl, a, w, ns, rfl, hw, hrow.1, hrow.2.1, hrow.2.2, fun H1 p s1 p0 t1 => ?_⟩
    obtain ⟨dx, l, h1, h2⟩ := t1.ob
    have noP : (tf ns.length w l).lookup ("parent" : Str) = none := tf_no _ _ _ (by decide +kernel) (by decide +kernel) (by decide +kernel)
    have hlen := hrow.2.1
    refine ⟨_, rfl, p, dx, _, l, _, rfl, h1, tf_pl _ _ _, SqT.of h2, fun D hD => ?_⟩
    refine lc_it (walk_tup (xs := pl ns.length)) (PickI H1 D (List.range ns.length) fun j => if faultB ns w j = true then some (V.int (j : Nat)) else none) (pick_start hD) (fun k H' _ h => SqT.of (h.s _ _ h2)) ?_ ?_
    · rintro k x H2 H3 hk pk ⟨rfl, ex⟩
      obtain ⟨hk', rfl⟩ := map_at ex
      rw [List.getElem_range]
      have hk2 : k < ns.length := by rw [List.length_range] at hk'; exact hk'
      have hrow3 := (hrow.1.same s1).same pk.s
      refine ⟨rfl, _, rfl, _, _, rfl, rfl, _, rfl, ?_⟩
      by_cases h0 : 0 < k
      · rw [decide_eq_true (show (0 : Int) < (k : Nat) by omega)]
        have ep : parV w k = V.int ((k - 1) / w : Nat) := by unfold parV; rw [if_neg (by omega)]
        have hlt : (k - 1) / w < k := Nat.lt_of_le_of_lt (Nat.div_le_self _ _) (by omega)
        refine iteT ⟨_, rfl, _, rfl, ix_sq hrow3 hk2 ⟨_, rfl, _, rfl, p, dx, _, rfl, pk.s _ _ h1, noP, _, rfl, p, ns.length, w, k, rfl, t1.same pk.s, hk2, ?_⟩⟩
        rw [ep]
        refine ix_sq hrow3 (by omega) ⟨_, _, rfl, rfl, _, rfl, ?_⟩
        have ef : faultB ns w k = decide (ns.getD k 0 < ns.getD ((k - 1) / w) 0) := by unfold faultB; rw [decide_eq_true h0, Bool.true_and]
        by_cases hf : ns.getD k 0 < ns.getD ((k - 1) / w) 0
        · rw [decide_eq_true hf] at ef ⊢
          exact iteT ⟨_, rfl, pick_yes hk' (by rw [List.length_range]; omega) (by rw [List.getElem_range, ef]; rfl) (Same.refl _) pk⟩
        · rw [decide_eq_false hf] at ef ⊢
          exact iteF (pick_no hk' (by rw [List.getElem_range, ef]; rfl) (Same.refl _) pk)
      · rw [decide_eq_false (show ¬ (0 : Int) < (k : Nat) by omega)]
        have ef : faultB ns w k = false := by unfold faultB; rw [decide_eq_false h0, Bool.false_and]
        exact iteF (iteF (pick_no hk' (by rw [List.getElem_range, ef]; rfl) (Same.refl _) pk))
    · intro H2 pk
      have ac := pick_end (by rw [pl_len, List.length_range]) pk
      refine q _ D (s1.trans ac.s) (s1.free hD) ?_
      rw [ac.a]
      unfold faultL
      rw [filt_pick]
theorem kb_fau (T : Tx K mg A) : ∃ mv : List Value, KBn K A.d_faults ["row", "arms"] 1 ["arms"] (fun us ws => us ++ (mv ++ ws)) (fun vs zs => vs ++ zs) := by
  obtain ⟨mv, h⟩ := T.F_faults.kbinds0 (ps := ["row", "arms"]) 1 ["arms"] [] (fun us mv ws => us ++ (mv ++ ws)) (by simp) (by simp) (fun r1 r2 r3 => r1.append (r2.append r3))
    (fun D doc pm an cdv ct us mv ws h1 h2 h3 => by
      match us, mv, ws, h1, h2, h3 with
      | [a], [], [c], _, _, _ => rfl)
  exact ⟨mv, h⟩
def rTupOf (K : PySem.W.Frag) : List V → Hp → VK → Prop := fun xs H Q => ∃ p ys, xs = [V.ref p] ∧ ((SqL K H p ys ∧ ∀ l, H l = none → Q (.ref l) (upd H l (.tup ys))) ∨ SqT K H p ys ∧ Q (.ref p) H)
theorem call_tupK {X : Cx} : CallR X (.type "tuple") (rTupOf X.K) := call_tuple_of
def spHp : Sp := fun vs H Q _ => ∃ (r w : Nat) (ks : List Int), vs = [.ref r, .int w] ∧ (1 ≤ w ∧ w ≤ 4) ∧ RowIn H r ks ∧ faultL ks w = [] ∧ ∀ H' q, Same H H' → H' q = some (.tup (ks.map V.int)) → Q (.ref q) H'
theorem ok_hp (T : Tx K mg A) : FnOk P w K mg base CX0 8 A.f_heap_of A.d_heap_of ["row", "arms"] spHp := by
  obtain ⟨mf, kf⟩ := kb_fau T
  refine T.F_heap_of.ok sc_heap_of (fun vs H Q E h => ?_) (fun cdv B outer s H vs Q E hr h => ?_)
  · obtain ⟨r, w, ks, rfl, _⟩ := h
    rfl
  · obtain ⟨r, w, ks, rfl, hw, hrow, hf, q⟩ := h
    have nd := sc_heap_of.nd
    refine ⟨_, PSs.nox (pss_cons (ps_set (i := 2) nd rfl (Or.inl rfl) (pe_callN (ok_fau T) (hr.mono (by decide)) (by rfl) T.m_faults T.F_faults.kp kf pass0 (pa_cons (pv 0) pa_nil) (pk_cons (pv 1) pk_nil)))
      (pss_cons (ps_if (pt_truth (pv 2) (fun _ => rfl)) (pss_one ps_never) pss_nil)
      (pss_one (ps_ret (pe_callTy (r := rTupOf K) call_tupK (by rfl) T.g_tuple (by decide +kernel) (pa_cons (pv 0) pa_nil)))))), ?_⟩
    refine ⟨_, rfl, _, rfl, rfl, rfl, r, w, ks, rfl, hw, hrow, fun H1 d s1 d0 hd => ?_⟩
    refine ⟨_, rfl, !(vi (faultL ks w)).isEmpty, .inl ⟨_, SqL.of hd, rfl⟩, ?_⟩
    rw [hf]
    refine iteF ?_
    rcases hrow.1.same s1 with h | h
    · exact ⟨_, rfl, r, _, rfl, .inl ⟨SqL.of h, fun t nt => q _ t (s1.trans (Same.up nt)) upd_same⟩⟩
    · exact ⟨_, rfl, r, _, rfl, .inr ⟨SqT.of h, q _ r s1 h⟩⟩
theorem b_hp (T : Tx K mg A) : L2.Binds K A.d_heap_of ["row", "arms"] [] := T.F_heap_of.binds fun _ _ _ _ _ _ us hl => match us, hl with | [_, _], _ => rfl
def upF : Nat → Nat → Nat → List Nat
  | 0, _, p => [p]
  | k + 1, w, p => if p = 0 then [0] else p :: upF k w ((p - 1) / w)
def upL (w p : Nat) : List Nat := upF 13 w p
def wayL (w p : Nat) : List Nat := (upL w p).reverse
theorem b_way (T : Tx K mg A) : L2.Binds K A.d_t_way_to ["self", "place"] [] := T.F_t_way_to.binds fun _ _ _ _ _ _ us hl => match us, hl with | [_, _], _ => rfl
theorem vi_len (l : List Nat) : (vi l).length = l.length := by unfold vi; rw [List.length_map]
theorem up_len : ∀ w, w < 5 → ∀ p, p < 13 → 1 ≤ w → (upL w p).length ≤ 13 := by decide +kernel
theorem vi_app (a b : List Nat) : vi (a ++ b) = vi a ++ vi b := by unfold vi; rw [List.map_append]
theorem up_eq : ∀ w, w < 5 → ∀ p, p < 13 → 1 ≤ w → upL w p = if p = 0 then [0] else p :: upL w ((p - 1) / w) := by decide +kernel
theorem vi_rev (a : List Nat) : (vi a).reverse = vi a.reverse := by unfold vi; rw [List.map_reverse]
/-- a number that falls while a place goes up -/
def muV : Option (Option V) → Nat
  | some (some (V.int z)) => z.toNat + 1
  | _ => 0
def spWay (C : Addr) : Sp := fun vs H Q _ => ∃ (p n w i : Nat), vs = [.ref p, .int i] ∧ TreeAt C H p n w ∧ i < n ∧ ∀ H' q, Same H H' → H q = none → H' q = some (.tup (vi (wayL w i))) → Q (.ref q) H'
theorem ok_way (T : Tx K mg A) : FnOk P w K mg base CX0 5 A.f_t_way_to A.d_t_way_to ["self", "place"] (spWay A.C) := by
  refine T.F_t_way_to.ok sc_t_way_to (fun vs H Q E h => ?_) (fun cdv B outer s H vs Q E hr h => ?_)
  · obtain ⟨p, n, w, i, rfl, _⟩ := h
    rfl
  · obtain ⟨p, n, w, i, rfl, t, hi, q⟩ := h
    refine ⟨_, pss_cons (ps_set (i := 2) sc_t_way_to.nd rfl (Or.inl rfl) (pe_lst (pa_cons (pv 1) pa_nil)))
      (pss_cons (ps_set (i := 3) sc_t_way_to.nd rfl (Or.inl rfl) (pe_meth (pv 0) T.cT T.M_t_parent (ok_par T) hr (b_par T) .nil pass0 (pa_cons (pv 1) pa_nil)))
      (pss_cons (ps_while PassesOwn.never (pt_cmpR op_notN (pv 3) pe_non (nomark _))
        (pss_cons (ps_expr (pe_bm PySem.F.plainAttrs_list PySem.F.slot_list_append PySem.F.type_list_append mt_append (pv 2) (pa_cons (pv 3) pa_nil)))
        (pss_one (ps_set (i := 3) sc_t_way_to.nd rfl (Or.inl rfl) (pe_meth (pv 0) T.cT T.M_t_parent (ok_par T) hr (b_par T) .nil pass0 (pa_cons (pv 3) pa_nil))))))
      (pss_one (ps_ret (pe_callTy call_tuple_of (by rfl) T.g_tuple (by decide +kernel) (pa_cons (pe_revL (pv 2)) pa_nil)))))), ?_⟩
    obtain ⟨dx, l, h1, h2⟩ := t.ob
    have noP : (tf n w l).lookup ("parent" : Str) = none := tf_no _ _ _ (by decide +kernel) (by decide +kernel) (by decide +kernel)
    refine ⟨_, rfl, by show 1 ≤ sizeLine; decide, fun d hd => ?_⟩
    have s1 : Same H (upd H d (.lst [V.int (i : Nat)])) := Same.up hd
    refine ⟨_, rfl, p, dx, _, rfl, s1 _ _ h1, noP, _, rfl, p, n, w, i, rfl, t.same s1, hi, ?_⟩
    refine while_by (fun σ H' => ∃ (c : Nat) (acc : List Nat), σ = [some (.ref p), some (.int i), some (.ref d), some (parV w c)] ∧ c < n ∧ Acc H d (vi (acc ++ [c])) H' ∧ acc ++ upL w c = upL w i ∧ acc.length ≤ 12)
      (fun σ _ => muV σ[3]?) ⟨i, [], rfl, hi, ⟨s1, hd, upd_same⟩, rfl, Nat.zero_le _⟩ ?_ ?_
    · rintro σ H' ⟨c, acc, rfl, hc, ac, ea, hl⟩
      have hn := t.hn
      have hw := t.hw
      have eu := up_eq w (by omega) c (by omega) hw.1
      refine ⟨_, rfl, rfl, _, rfl, ?_⟩
      by_cases h0 : c = 0
      · have ev : parV w c = V.non := by unfold parV; rw [if_pos h0]
        rw [ev, decide_eq_true (rfl : V.non = V.non)]
        refine iteF ?_
        rw [if_pos h0] at eu
        refine ⟨_, rfl, d, _, rfl, SqL.of ac.a, fun r hr0 => ⟨r, _, rfl, .inl ⟨SqL.of upd_same, fun u hu => q _ u (ac.s.trans ((Same.up hr0).trans (Same.up hu))) (ac.s.free ((Same.up hr0).free hu)) ?_⟩⟩⟩
        unfold wayL
        rw [upd_same, vi_rev, ← ea, eu, h0]
      · have ev : parV w c = V.int ((c - 1) / w : Nat) := by unfold parV; rw [if_neg h0]
        rw [ev, decide_eq_false (show ¬ V.int ((c - 1) / w : Nat) = V.non from fun z => nomatch z)]
        refine iteT ?_
        rw [if_neg h0] at eu
        have hlt : (c - 1) / w < c := Nat.lt_of_le_of_lt (Nat.div_le_self _ _) (by omega)
        have hL : acc.length + 1 + (upL w ((c - 1) / w)).length = (upL w i).length := by
          rw [← ea, eu, List.length_append, List.length_cons]
          omega
        have hL2 := up_len w (by omega) i (by omega) hw.1
        have hL3 := up_eq w (by omega) ((c - 1) / w) (by omega) hw.1
        have hL4 : 1 ≤ (upL w ((c - 1) / w)).length := by
          rw [hL3]
          split
          · exact Nat.le_refl _
          · rw [List.length_cons]; omega
        refine ⟨_, rfl, .inl ⟨rfl, _, SqL.of ac.a⟩, _, rfl, d, _, _, rfl, rfl, ac.a, small1000 (by rw [vi_len, List.length_append, List.length_singleton]; omega), ?_⟩
        have e2 : vi (acc ++ [c]) ++ [V.int ((c - 1) / w : Nat)] = vi (acc ++ [c] ++ [(c - 1) / w]) := by rw [vi_app (acc ++ [c])]; rfl
        rw [e2]
        have ac2 : Acc H d (vi (acc ++ [c] ++ [(c - 1) / w])) (upd H' d (.lst (vi (acc ++ [c] ++ [(c - 1) / w])))) := ac.push
        refine ⟨_, rfl, p, dx, _, rfl, ac2.s _ _ h1, noP, _, rfl, p, n, w, (c - 1) / w, rfl, t.same ac2.s, by omega, ?_⟩
        refine ⟨⟨(c - 1) / w, acc ++ [c], rfl, by omega, ac2, ?_, by rw [List.length_append, List.length_singleton]; omega⟩, ?_⟩
        · rw [← ea, eu, List.append_assoc]
          rfl
        · show muV (some (some (parV w ((c - 1) / w)))) < muV (some (some (V.int ((c - 1) / w : Nat))))
          unfold parV
          split
          · show 0 < _
            exact Nat.succ_pos _
          · rename_i h9
            show (((((c - 1) / w - 1) / w : Nat) : Int)).toNat + 1 < ((((c - 1) / w : Nat) : Int)).toNat + 1
            rw [Int.toNat_natCast, Int.toNat_natCast]
            exact Nat.succ_lt_succ (Nat.lt_of_le_of_lt (Nat.div_le_self _ _) (Nat.sub_lt (Nat.pos_of_ne_zero h9) Nat.one_pos))
    · rintro σ' H1 Q1 Q2 mono ⟨v, hv, e1, b1, e2, z⟩
      exact ⟨v, hv, e1, b1, e2, mono _ _ z⟩
theorem vi_ints (l : List Nat) : vi l = (l.map fun i => ((i : Nat) : Int)).map V.int := by unfold vi; rw [List.map_map]; rfl
theorem vi_wz (l : List Nat) : vi l = (wz l).map V.int := vi_ints l
theorem last_at {xs : List V} {y : V} : atI (xs ++ [y]) (-1) = some y := by
  unfold atI ixN
  rw [if_neg (by omega), if_pos (by simp; omega), show ((-1 : Int) + ((xs ++ [y]).length : Nat)).toNat = xs.length by rw [List.length_append, List.length_singleton]; omega]
  simp
theorem set_int (ks : List Int) (p : Nat) (v : Int) : (ks.map V.int).set p (V.int v) = (ks.set p v).map V.int := (List.map_set ..).symm
theorem up_chain : ∀ w, w < 5 → ∀ p, p < 13 → 1 ≤ w → ∀ i, i < (upL w p).length - 1 → (upL w p).getD i 0 ≠ 0 ∧ ((upL w p).getD i 0 - 1) / w = (upL w p).getD (i + 1) 0 := by decide +kernel
theorem up_ends : ∀ w, w < 5 → ∀ p, p < 13 → 1 ≤ w → (upL w p).getD ((upL w p).length - 1) 0 = 0 ∧ 1 ≤ (upL w p).length ∧ (upL w p).getD 0 0 = p ∧ ∀ i, i < (upL w p).length → (upL w p).getD i 0 ≤ p := by decide +kernel
def spZi (C : Addr) : Sp := fun vs H Q _ => ∃ (p dx a b lk : Nat) (ks ws : List Int), vs = [.ref p, .ref a, .ref b, .int lk] ∧ H p = some (.ins C dx []) ∧ Sq H a (ks.map V.int) ∧ Sq H b (ws.map V.int) ∧ 
  ∀ (H' : Hp), (∀ b o, H b = some o → b ≠ p → H' b = some o) → SiftAt C H' p ks ws lk → Q .non H'
theorem ok_zi (T : Tx K mg A) : FnOk P w K mg base CX0 2 A.f_z___init__ A.d_z___init__ ["self", "row", "way", "looks"] (spZi A.CS) := by
  refine T.F_z___init__.ok sc_z___init__ (fun vs H Q E h => ?_) (fun cdv B outer s H vs Q E hr h => ?_)
  · obtain ⟨p, dx, a, b, lk, ks, ws, rfl, _⟩ := h
    rfl
  · obtain ⟨p, dx, a, b, lk, ks, ws, rfl, hp, ha, hb, q⟩ := h
    refine ⟨_, C8.pss_cut (ps_fld (pv 0) (pe_callTy call_tuple_of (by rfl) T.g_tuple (by decide +kernel) (pa_cons (pv 1) pa_nil)) rfl)
      (C8.pss_cut (ps_fld (pv 0) (pe_callTy call_tuple_of (by rfl) T.g_tuple (by decide +kernel) (pa_cons (pv 2) pa_nil)) rfl)
      (pss_one (ps_fld (pv 0) (pv 3) rfl))), ?_⟩
    have npa : p ≠ a := fun z => by rcases ha with h | h <;> rw [← z, hp] at h <;> cases h
    have npb : p ≠ b := fun z => by rcases hb with h | h <;> rw [← z, hp] at h <;> cases h
    refine ⟨fun σ H' => ∃ t1 : Addr, σ = L2.start ["self", "row", "way", "looks"] [.ref p, .ref a, .ref b, .int lk] ∧ (∀ c o, H c = some o → c ≠ p → H' c = some o) ∧ H' p = some (.ins A.CS dx (putF "row" (.ref t1) [])) ∧ H' t1 = some (.tup (ks.map V.int)) ∧ t1 ≠ p, ?_, ?_⟩
    · have go : ∀ (H1 : Hp) (t1 : Addr), Same H H1 → H1 t1 = some (.tup (ks.map V.int)) → ∃ t2 : Addr, (L2.start ["self", "row", "way", "looks"] [.ref p, .ref a, .ref b, .int lk]) = L2.start ["self", "row", "way", "looks"] [.ref p, .ref a, .ref b, .int lk] ∧ (∀ c o, H c = some o → c ≠ p → upd H1 p (.ins A.CS dx (putF "row" (.ref t1) [])) c = some o) ∧ upd H1 p (.ins A.CS dx (putF "row" (.ref t1) [])) p = some (.ins A.CS dx (putF "row" (.ref t2) [])) ∧ upd H1 p (.ins A.CS dx (putF "row" (.ref t1) [])) t2 = some (.tup (ks.map V.int)) ∧ t2 ≠ p := fun H1 t1 s1 e1 => by
        have n1 : t1 ≠ p := fun z => by rw [z, s1 _ _ hp] at e1; cases e1
        exact ⟨t1, rfl, fun c o e n => by rw [upd_ne n]; exact s1 _ _ e, upd_same, by rw [upd_ne n1]; exact e1, n1⟩
      rcases ha with h | h
      · exact ⟨_, rfl, a, _, rfl, .inl ⟨SqL.of h, fun t1 ht1 => ⟨_, rfl, p, A.CS, dx, _, rfl, (Same.up ht1) _ _ hp, T.cTS, T.nRow, (by show 0 < 1000; decide), go _ t1 (Same.up ht1) upd_same⟩⟩⟩
      · exact ⟨_, rfl, a, _, rfl, .inr ⟨SqT.of h, _, rfl, p, A.CS, dx, _, rfl, hp, T.cTS, T.nRow, (by show 0 < 1000; decide), go H a (Same.refl _) h⟩⟩
    rintro σ H1 ⟨t1, rfl, k1, hp1, e1, n1⟩
    have hb1 : Sq H1 b (ws.map V.int) := hb.elim (fun h => .inl (k1 _ _ h npb.symm)) fun h => .inr (k1 _ _ h npb.symm)
    refine ⟨fun σ H' => ∃ t2 : Addr, σ = L2.start ["self", "row", "way", "looks"] [.ref p, .ref a, .ref b, .int lk] ∧ (∀ c o, H1 c = some o → c ≠ p → H' c = some o) ∧ H' p = some (.ins A.CS dx (putF "way" (.ref t2) (putF "row" (.ref t1) []))) ∧ H' t2 = some (.tup (ws.map V.int)) ∧ t2 ≠ p, ?_, ?_⟩
    · have go : ∀ (H2 : Hp) (t2 : Addr), Same H1 H2 → H2 t2 = some (.tup (ws.map V.int)) → ∃ t3 : Addr, (L2.start ["self", "row", "way", "looks"] [.ref p, .ref a, .ref b, .int lk]) = L2.start ["self", "row", "way", "looks"] [.ref p, .ref a, .ref b, .int lk] ∧ (∀ c o, H1 c = some o → c ≠ p → upd H2 p (.ins A.CS dx (putF "way" (.ref t2) (putF "row" (.ref t1) []))) c = some o) ∧ upd H2 p (.ins A.CS dx (putF "way" (.ref t2) (putF "row" (.ref t1) []))) p = some (.ins A.CS dx (putF "way" (.ref t3) (putF "row" (.ref t1) []))) ∧ upd H2 p (.ins A.CS dx (putF "way" (.ref t2) (putF "row" (.ref t1) []))) t3 = some (.tup (ws.map V.int)) ∧ t3 ≠ p := fun H2 t2 s2 e2 => by
        have n2 : t2 ≠ p := fun z => by rw [z, s2 _ _ hp1] at e2; cases e2
        exact ⟨t2, rfl, fun c o e n => by rw [upd_ne n]; exact s2 _ _ e, upd_same, by rw [upd_ne n2]; exact e2, n2⟩
      rcases hb1 with h | h
      · exact ⟨_, rfl, b, _, rfl, .inl ⟨SqL.of h, fun t2 ht2 => ⟨_, rfl, p, A.CS, dx, _, rfl, (Same.up ht2) _ _ hp1, T.cTS, T.nWay, (by show 1 < 1000; decide), go _ t2 (Same.up ht2) upd_same⟩⟩⟩
      · exact ⟨_, rfl, b, _, rfl, .inr ⟨SqT.of h, _, rfl, p, A.CS, dx, _, rfl, hp1, T.cTS, T.nWay, (by show 1 < 1000; decide), go H1 b (Same.refl _) h⟩⟩
    rintro σ H2 ⟨t2, rfl, k2, hp2, e2, n2⟩
    refine ⟨_, rfl, _, rfl, p, A.CS, dx, _, rfl, hp2, T.cTS, T.nLooks, (by simp only [putF, m1, if_false]; show 2 < 1000; decide), ?_⟩
    refine q _ (fun c o e hc => ?_) ⟨dx, t1, t2, upd_same, ?_, ?_⟩
    · rw [upd_ne hc]
      exact k2 _ _ (k1 _ _ e hc) hc
    · rw [upd_ne n1]
      exact k2 _ _ e1 n1
    · rw [upd_ne n2]
      exact e2
theorem b_zi (T : Tx K mg A) : L2.Binds K A.d_z___init__ ["self", "row", "way", "looks"] [] := T.F_z___init__.binds fun _ _ _ _ _ _ us hl => match us, hl with | [_, _, _, _], _ => rfl
theorem Two.setD {H H' : Hp} {D W : Addr} {xs ys zs : List V} (h : Two H D W xs ys H') : Two H D W zs ys (upd H' D (.lst zs)) :=
  ⟨fun b o e => by rw [upd_ne (ne_of_none e h.nD)]; exact h.s _ _ e, upd_same, by rw [upd_ne h.ne.symm]; exact h.w, h.nD, h.nW, h.ne⟩
theorem Two.setW {H H' : Hp} {D W : Addr} {xs ys zs : List V} (h : Two H D W xs ys H') : Two H D W xs zs (upd H' W (.lst zs)) :=
  ⟨fun b o e => by rw [upd_ne (ne_of_none e h.nW)]; exact h.s _ _ e, by rw [upd_ne h.ne]; exact h.d, upd_same, h.nD, h.nW, h.ne⟩
theorem cut_last (xs : List V) (h : xs ≠ []) : cutV xs none (some (-1)) = xs.take (xs.length - 1) ∧ ¬ (HT.sIx xs.length 0 none = 0 ∧ HT.sIx xs.length xs.length (some (-1)) = xs.length) := by
  have hl := List.length_pos_iff.mpr h
  have e : HT.sIx xs.length xs.length (some (-1)) = xs.length - 1 := by
    unfold HT.sIx
    simp
    try omega
  have e0 : HT.sIx xs.length 0 none = 0 := rfl
  refine ⟨?_, fun z => ?_⟩
  · unfold cutV
    rw [e, e0]
    simp
  · rw [e] at z
    omega
theorem rev_at {U : List Nat} {i : Nat} (h : i + 1 < U.length) : ((U.reverse).take (U.length - 1))[(U.length - 1) - 1 - i]? = some (U.getD (i + 1) 0) := by
  rw [List.getElem?_take_of_lt (by omega), List.getElem?_reverse (by omega), List.getD_eq_getElem?_getD, show U.length - 1 - (U.length - 1 - 1 - i) = i + 1 by omega, List.getElem?_eq_getElem h]
  rfl
def spUp (C : Addr) : Sp := fun vs H Q _ => ∃ (r p w : Nat) (ks : List Int), vs = [.ref r, .int p, .int w] ∧ (1 ≤ w ∧ w ≤ 4) ∧ RowIn H r ks ∧ p < ks.length ∧
  ∀ (H' : Hp) (q : Addr), Same H H' → resSift C H' q (goUp w 20 ks p [p] 0) → Q (.ref q) H'
theorem ok_up (T : Tx K mg A) : FnOk P w K mg base CX0 7 A.f_sift_up A.d_sift_up ["row", "place", "arms"] (spUp A.CS) := by
  obtain ⟨mo, ko⟩ := kb_of T
  refine T.F_sift_up.ok sc_sift_up (fun vs H Q E h => ?_) (fun cdv B outer s H vs Q E hr h => ?_)
  · obtain ⟨r, p, w, ks, rfl, _⟩ := h
    rfl
  · obtain ⟨r, p, w, ks, rfl, hw, hrow, hp, q⟩ := h
    have nd := sc_sift_up.nd
    refine ⟨_, PSs.nox (pss_cons (ps_set (i := 3) nd rfl (Or.inl rfl) (pe_cmethK (pe_glob (v := .ref A.C) (by rfl) T.mC (relR _)) T.cr T.cof (ok_of T) hr ko pass0 (pa_cons (pv 0) pa_nil) (pk_cons (pv 2) pk_nil)))
      (pss_cons (ps_set (i := 4) nd rfl (Or.inl rfl) (pe_slice sl_tup (pe_meth (pv 3) T.cT T.M_t_way_to (ok_way T) (hr.mono (by decide)) (b_way T) .nil pass0 (pa_cons (pv 1) pa_nil)) po_none (po_some (pe_un un_neg pe_int))))
      (pss_cons (ps_set (i := 5) nd rfl (Or.inl rfl) (pe_callTy call_list_of (by rfl) T.g_list (by decide +kernel) (pa_cons (pv 0) pa_nil)))
      (pss_cons (ps_set (i := 6) nd rfl (Or.inl rfl) (pe_lst (pa_cons (pv 1) pa_nil)))
      (pss_cons (ps_set (i := 7) nd rfl (Or.inl rfl) pe_int)
      (C8.pss_cut (ps_for PassesOwn.never rfl (pi_reversed (by rfl) T.g_reversed (pa_cons (pe_callTy call_list_of (by rfl) T.g_list (by decide +kernel) (pa_cons (pv 4) pa_nil)) pa_nil)) (pg_name (i := 8) nd rfl (Or.inl rfl)) (pss_cons (ps_set (i := 9) nd rfl (Or.inl rfl) (pe_ix ix_list (pv 6) (pe_un un_neg pe_int) (fun _ _ => rfl)))
      (pss_cons (ps_aug (i := 7) nd rfl (Or.inl rfl) pe_int ip_add)
      (pss_cons (ps_if (pt_cmpR op_ge (pe_ix ix_list (pv 5) (pv 9) (fun _ _ => rfl)) (pe_ix ix_list (pv 5) (pv 8) (fun _ _ => rfl)) (nomark _)) (pss_one ps_break) pss_nil)
      (pss_cons (ps_asg (pe_tup (pa_cons (pe_ix ix_list (pv 5) (pv 8) (fun _ _ => rfl)) (pa_cons (pe_ix ix_list (pv 5) (pv 9) (fun _ _ => rfl)) pa_nil))) (pg_tup rfl (pgs_cons (pg_sub (pv 5) (pv 9) set_list) (pgs_cons (pg_sub (pv 5) (pv 8) set_list) pgs_nil))))
      (pss_one (ps_expr (pe_bm PySem.F.plainAttrs_list PySem.F.slot_list_append PySem.F.type_list_append mt_append (pv 6) (pa_cons (pv 8) pa_nil)))))))))
      (pss_one (ps_ret (pe_make T.mkCS (ok_zi T) (hr.mono (by decide)) (by rfl) T.mCS (b_zi T) .nil pass0 (pa_cons (pv 5) (pa_cons (pv 6) (pa_cons (pv 7) pa_nil)))))))))))), ?_⟩
    refine ⟨rfl, _, rfl, _, rfl, rfl, rfl, r, w, ks, rfl, hw, hrow.1, hrow.2.1, hrow.2.2, fun H1 tr s1 p0 t1 => ?_⟩
    obtain ⟨dx, l, h1, h2⟩ := t1.ob
    have noW : (tf ks.length w l).lookup ("way_to" : Str) = none := tf_no _ _ _ (by decide +kernel) (by decide +kernel) (by decide +kernel)
    have hk12 := hrow.2.1
    obtain ⟨u0, u1, u2, u3⟩ := up_ends w (by omega) p (by omega) hw.1
    have uc := up_chain w (by omega) p (by omega) hw.1
    have ul := up_len w (by omega) p (by omega) hw.1
    refine ⟨_, rfl, tr, dx, _, rfl, h1, noW, _, rfl, tr, ks.length, w, p, rfl, t1, hp, fun H2 t0 s2 n2 e2 => ?_⟩
    have ew : wayL w p = (upL w p).reverse := rfl
    have wl : (vi (wayL w p)).length = (upL w p).length := by rw [vi_len, ew, List.length_reverse]
    obtain ⟨c1, c2⟩ := cut_last (vi (wayL w p)) (List.length_pos_iff.mp (by rw [wl]; omega))
    refine ⟨_, rfl, _, rfl, t0, _, rfl, SqT.of e2, c2, fun ab nab => ?_⟩
    rw [c1, wl]
    have s3 : Same H2 (upd H2 ab (.tup ((vi (wayL w p)).take ((upL w p).length - 1)))) := Same.up nab
    have e3 : upd H2 ab (.tup ((vi (wayL w p)).take ((upL w p).length - 1))) ab = some (.tup ((vi (wayL w p)).take ((upL w p).length - 1))) := upd_same
    generalize upd H2 ab (.tup ((vi (wayL w p)).take ((upL w p).length - 1))) = H3 at s3 e3
    have s13 : Same H H3 := s1.trans (s2.trans s3)
    refine ⟨_, rfl, r, _, rfl, (hrow.1.same s13).len, fun D nD => ?_⟩
    refine ⟨_, rfl, by show 1 ≤ sizeLine; decide, fun W nW => ?_⟩
    have nDW : D ≠ W := ne_of_none (upd_same (H := H3) (a := D)) nW
    have two0 : Two H3 D W (ks.map V.int) (vi [p]) (upd (upd H3 D (.lst (ks.map V.int))) W (.lst [V.int (p : Nat)])) :=
      ⟨(Same.up nD).trans (Same.up nW), by rw [upd_ne nDW]; exact upd_same, upd_same, nD, (Same.up nD).free nW, nDW⟩
    generalize upd (upd H3 D (.lst (ks.map V.int))) W (.lst [V.int (p : Nat)]) = H4 at two0
    -- the loop
    refine ⟨fun σ' H' => ∃ (x8 x9 : Option V), σ' = [some (.ref r), some (.int p), some (.int w), some (.ref tr), some (.ref ab), some (.ref D), some (.ref W), some (.int ((goUp w 20 ks p [p] 0).2.2 : Nat)), x8, x9] ∧ Two H3 D W ((goUp w 20 ks p [p] 0).1.map V.int) (vi (goUp w 20 ks p [p] 0).2.1) H', ?_, ?_⟩
    · refine ⟨_, rfl, ab, _, rfl, .inr (SqT.of (two0.s _ _ e3)), fun c nc => ?_⟩
      have two1 := two0.same (Same.up (o := .lst ((vi (wayL w p)).take ((upL w p).length - 1))) nc)
      have ec : upd H4 c (.lst ((vi (wayL w p)).take ((upL w p).length - 1))) c = some (.lst ((vi (wayL w p)).take ((upL w p).length - 1))) := upd_same
      have nDc : D ≠ c := ne_of_none two0.d nc
      have nWc : W ≠ c := ne_of_none two0.w nc
      generalize upd H4 c (.lst ((vi (wayL w p)).take ((upL w p).length - 1))) = H5 at two1 ec
      have zl : ((vi (wayL w p)).take ((upL w p).length - 1)).length = (upL w p).length - 1 := by rw [List.length_take, wl]; omega
      refine ⟨c, _, rfl, SqL.of ec, RT.for_Itv (fun i σ' H' => ∃ (ks' : List Int) (way : List Nat) (lk : Nat) (x8 x9 : Option V), σ' = [some (.ref r), some (.int p), some (.int w), some (.ref tr), some (.ref ab), some (.ref D), some (.ref W), some (.int lk), x8, x9] ∧ Two H3 D W (ks'.map V.int) (vi (way ++ [(upL w p).getD i 0])) H' ∧
        H' c = some (.lst ((vi (wayL w p)).take ((upL w p).length - 1))) ∧ i ≤ (upL w p).length - 1 ∧ ks'.length = ks.length ∧ way.length = i ∧ goUp w 20 ks p [p] 0 = goUp w (20 - i) ks' ((upL w p).getD i 0) (way ++ [(upL w p).getD i 0]) lk) ?_ ?_ ?_ ?_⟩
      · exact ⟨ks, [], 0, none, none, rfl, by rw [u2]; exact two1, ec, by omega, rfl, rfl, by rw [u2]; rfl⟩
      · rintro i σ' H' ⟨_, _, _, _, _, _, _, h, _⟩
        exact SqL.of h
      · rintro i x σ' H' hi hx ⟨ks', way, lk, x8, x9, rfl, two, hc, hi2, hkl, hwl, eg⟩
        rw [zl] at hi hx
        obtain ⟨n0, np⟩ := uc i hi
        have hx2 : x = V.int (((upL w p).getD (i + 1) 0 : Nat) : Int) := by
          have e := rev_at (U := upL w p) (i := i) (by omega)
          rw [← ew] at e
          unfold vi at hx
          rw [← List.map_take, List.getElem?_map, e] at hx
          exact (Option.some.inj hx).symm
        subst hx2
        have b1 := u3 i (by omega)
        have b2 := u3 (i + 1) (by omega)
        have hc1 : (upL w p).getD i 0 < ks'.length := by omega
        have hc2 : (upL w p).getD (i + 1) 0 < ks'.length := by omega
        have hlast : atI (vi (way ++ [(upL w p).getD i 0])) (-1) = some (V.int (((upL w p).getD i 0 : Nat) : Int)) := by
          rw [vi_app]
          exact last_at
        have hlen14 : (way ++ [(upL w p).getD i 0]).length ≤ 900 := by rw [List.length_append, List.length_singleton]; omega
        have ef : 20 - i = (20 - (i + 1)) + 1 := by omega
        generalize (upL w p).getD i 0 = cur at *
        generalize (upL w p).getD (i + 1) 0 = nx at *
        rw [ef] at eg
        refine ⟨_, rfl, _, rfl, W, _, _, _, rfl, rfl, SqL.of two.w, hlast, ?_⟩
        refine ⟨_, rfl, _, _, rfl, rfl, ?_⟩
        refine ⟨_, rfl, _, rfl, D, _, _, _, rfl, rfl, SqL.of two.d, key_at hc1, _, rfl, _, rfl, D, _, _, _, rfl, rfl, SqL.of two.d, key_at hc2, _, _, rfl, rfl, _, rfl, ?_⟩
        by_cases hlt : keyAt ks' cur < keyAt ks' nx
        · rw [decide_eq_false (show ¬ keyAt ks' cur ≥ keyAt ks' nx by omega)]
          refine iteF ?_
          rw [goUp_go n0 (by rw [np]; exact hlt), np] at eg
          refine ⟨_, rfl, _, rfl, D, _, _, _, rfl, rfl, SqL.of two.d, key_at hc2, _, rfl, _, rfl, D, _, _, _, rfl, rfl, SqL.of two.d, key_at hc1, by show 2 ≤ sizeLine; decide, fun t ht => ?_⟩
          have ntc : c ≠ t := ne_of_none hc ht
          have two2 := two.same (Same.up (o := .tup [V.int (keyAt ks' nx), V.int (keyAt ks' cur)]) ht)
          have hc3 := (Same.up (o := .tup [V.int (keyAt ks' nx), V.int (keyAt ks' cur)]) ht) _ _ hc
          have et : upd H' t (.tup [V.int (keyAt ks' nx), V.int (keyAt ks' cur)]) t = some (.tup [V.int (keyAt ks' nx), V.int (keyAt ks' cur)]) := upd_same
          generalize upd H' t (.tup [V.int (keyAt ks' nx), V.int (keyAt ks' cur)]) = G at two2 hc3 et
          refine ⟨t, _, rfl, SqT.of et, rfl, _, _, rfl, _, rfl, _, rfl, D, _, _, cur, rfl, rfl, two2.d, ixN_nat (by rw [List.length_map]; exact hc1), ?_⟩
          rw [set_int]
          have two3 : Two H3 D W ((ks'.set cur (keyAt ks' nx)).map V.int) (vi (way ++ [cur])) (upd G D (.lst ((ks'.set cur (keyAt ks' nx)).map V.int))) := two2.setD
          have hc4 : upd G D (.lst ((ks'.set cur (keyAt ks' nx)).map V.int)) c = some (.lst ((vi (wayL w p)).take ((upL w p).length - 1))) := by rw [upd_ne nDc.symm]; exact hc3
          generalize upd G D (.lst ((ks'.set cur (keyAt ks' nx)).map V.int)) = G2 at two3 hc4
          refine ⟨_, _, rfl, _, rfl, _, rfl, D, _, _, nx, rfl, rfl, two3.d, ixN_nat (by rw [List.length_map, List.length_set]; exact hc2), ?_⟩
          rw [set_int, show (ks'.set cur (keyAt ks' nx)).set nx (keyAt ks' cur) = swp ks' cur nx from rfl]
          have two4 : Two H3 D W ((swp ks' cur nx).map V.int) (vi (way ++ [cur])) (upd G2 D (.lst ((swp ks' cur nx).map V.int))) := two3.setD
          have hc5 : upd G2 D (.lst ((swp ks' cur nx).map V.int)) c = some (.lst ((vi (wayL w p)).take ((upL w p).length - 1))) := by rw [upd_ne nDc.symm]; exact hc4
          generalize upd G2 D (.lst ((swp ks' cur nx).map V.int)) = G3 at two4 hc5
          refine ⟨rfl, _, rfl, .inl ⟨rfl, _, SqL.of two4.w⟩, _, rfl, W, _, _, rfl, rfl, two4.w, small1000 (by rw [vi_len]; omega), ?_⟩
          have em : vi (way ++ [cur]) ++ [V.int (nx : Nat)] = vi ((way ++ [cur]) ++ [nx]) := by rw [vi_app (way ++ [cur])]; rfl
          rw [em]
          refine ⟨swp ks' cur nx, way ++ [cur], lk + 1, _, _, rfl, two4.setW, by rw [upd_ne nWc.symm]; exact hc5, by omega, by rw [swp_len]; exact hkl, by rw [List.length_append, hwl]; rfl, eg⟩
        · rw [decide_eq_true (show keyAt ks' cur ≥ keyAt ks' nx by omega)]
          refine iteT ?_
          rw [goUp_stay n0 (by rw [np]; exact hlt)] at eg
          rw [eg]
          exact ⟨_, _, rfl, two⟩
      · rintro σ' H' ⟨ks', way, lk, x8, x9, rfl, two, hc, hi2, hkl, hwl, eg⟩
        rw [zl, u0, goUp_root] at eg
        rw [zl, u0] at two
        rw [eg]
        exact ⟨x8, x9, rfl, two⟩
    · rintro σ' H' ⟨x8, x9, rfl, two⟩
      refine ⟨_, rfl, _, rfl, _, rfl, fun x dx2 nx ndx nex => ?_⟩
      have hD := (Same.up (o := .own x) ndx) _ _ two.d
      have hW := (Same.up (o := .own x) ndx) _ _ two.w
      have nx2 : upd H' dx2 (.own x) x = none := by rw [upd_ne nex.symm]; exact nx
      refine ⟨x, dx2, D, W, _, (goUp w 20 ks p [p] 0).1, wz (goUp w 20 ks p [p] 0).2.1, rfl, upd_same, .inl ((Same.up nx2) _ _ hD), .inl (by rw [← vi_wz]; exact (Same.up nx2) _ _ hW), fun H6 k6 st => ⟨rfl, q H6 x ?_ st⟩⟩
      exact s13.trans (two.s.trans (new_same nx ndx k6))
end
end Tw

set_option Elab.async false
set_option linter.all false
set_option maxRecDepth 100000
set_option maxHeartbeats 2000000
namespace Tw
open PySem PySem.Spec PyProof.Rows L2
section
variable {P : Program} {w : World} {K : PySem.W.Frag} {mg : Str → Option Value} {base : Heap} {A : Ad}
open LamX (ExtN Tabs TabS)
theorem kb_up (T : Tx K mg A) : ∃ mv : List Value, KBn K A.d_sift_up ["row", "place", "arms"] 2 ["arms"] (fun us ws => us ++ (mv ++ ws)) (fun vs zs => vs ++ zs) := by
  obtain ⟨mv, h⟩ := T.F_sift_up.kbinds0 (ps := ["row", "place", "arms"]) 2 ["arms"] [] (fun us mv ws => us ++ (mv ++ ws)) (by simp) (by simp) (fun r1 r2 r3 => r1.append (r2.append r3))
    (fun D doc pm an cdv ct us mv ws h1 h2 h3 => by
      match us, mv, ws, h1, h2, h3 with
      | [a, b], [], [c], _, _, _ => rfl)
  exact ⟨mv, h⟩
theorem map_one (l : List Int) (x : Int) : l.map V.int ++ [V.int x] = (l ++ [x]).map V.int := by rw [List.map_append]; rfl
def spPush (A : Ad) : Sp := fun vs H Q _ => ∃ (r w : Nat) (k : Int) (ks : List Int), vs = [.ref r, .int k, .int w] ∧ (1 ≤ w ∧ w ≤ 4) ∧ RowIn H r ks ∧ faultL ks w = [] ∧ (-1000000000 ≤ k ∧ k ≤ 1000000000) ∧ ks.length < 12 ∧
  ∀ (H' : Hp) (q : Addr), Same H H' → resSift A.CS H' q (goUp w 20 (ks ++ [k]) ks.length [ks.length] 0) → Q (.ref q) H'
theorem ok_push (T : Tx K mg A) : FnOk P w K mg base CX0 9 A.f_push A.d_push ["row", "key", "arms"] (spPush A) := by
  obtain ⟨mu, ku⟩ := kb_up T
  refine T.F_push.ok sc_push (fun vs H Q E h => ?_) (fun cdv B outer s H vs Q E hr h => ?_)
  · obtain ⟨r, w, k, ks, rfl, _⟩ := h
    rfl
  · obtain ⟨r, w, k, ks, rfl, hw, hrow, hf, hk, hlt, q⟩ := h
    have nd := sc_push.nd
    obtain ⟨t12, hg⟩ := cst T.c_MOST_PLACES
    refine ⟨_, PSs.nox (pss_cons (ps_set (i := 3) nd rfl (Or.inl rfl) (pe_call (ok_hp T) (hr.mono (by decide)) (by rfl) T.m_heap_of T.F_heap_of.kp (b_hp T) .nil pass0 (pa_cons (pv 0) (pa_cons (pv 2) pa_nil))))
      (pss_cons (ps_expr (pe_call (ok_ck T) (hr.mono (by decide)) (by rfl) T.m_check_key T.F_check_key.kp (b_ck T) .nil pass0 (pa_cons (pv 1) pa_nil)))
      (pss_cons (ps_if (pt_cmpR op_eq (pe_callB call_len_seq (by rfl) T.g_len PySem.boot_len (pa_cons (pv 3) pa_nil)) (pe_glob (by rfl) hg (relI _ _)) (nomark _)) (pss_one ps_never) pss_nil)
      (pss_one (ps_ret (pe_callN (ok_up T) (hr.mono (by decide)) (by rfl) T.m_sift_up T.F_sift_up.kp ku pass0 (pa_cons (pe_op op_catA (pv 3) (pe_tup (pa_cons (pv 1) pa_nil))) (pa_cons (pe_callB call_len_seq (by rfl) T.g_len PySem.boot_len (pa_cons (pv 3) pa_nil)) pa_nil)) (pk_cons (pv 2) pk_nil))))))), ?_⟩
    refine ⟨_, rfl, _, rfl, r, w, ks, rfl, hw, hrow, hf, fun H1 t s1 e1 => ?_⟩
    refine ⟨_, rfl, k, rfl, hk, ?_⟩
    refine ⟨_, rfl, t, _, rfl, .inr (SqT.of e1), rfl, _, rfl, ?_⟩
    rw [decide_eq_false (show ¬ V.int ((ks.map V.int).length : Nat) = V.int 12 by rw [List.length_map]; intro z; injection z with z; omega)]
    refine iteF ?_
    refine ⟨_, rfl, _, rfl, by show 1 ≤ sizeLine; decide, fun u nu => ?_⟩
    have su := Same.up (o := .tup [V.int k]) nu
    refine ⟨t, u, _, _, rfl, rfl, SqT.of (su _ _ e1), SqT.of upd_same, Nat.le_of_lt (small1000 (by rw [List.length_map, List.length_singleton]; omega)), fun hn => ?_, fun _ z => (nomatch z), fun hn _ c nc => ?_⟩
    · have e0 : ks = [] := List.map_eq_nil_iff.mp hn
      obtain ⟨c, rfl⟩ : ∃ c, c = u := ⟨u, rfl⟩
      have s2 := su
      have ec : upd H1 c (.tup [V.int k]) c = some (.tup ((ks ++ [k]).map V.int)) := by rw [e0]; exact upd_same
      clear su
      generalize upd H1 c (.tup [V.int k]) = H2 at s2 ec
      refine ⟨_, rfl, t, _, rfl, .inr (SqT.of (s2 _ _ e1)), _, rfl, rfl, rfl, c, ks.length, w, ks ++ [k], by rw [List.length_map]; rfl, hw, ⟨.inr ec, by rw [List.length_append, List.length_singleton]; omega, ?_⟩, by rw [List.length_append, List.length_singleton]; omega, fun H3 u s3 ru => q H3 u (s1.trans (s2.trans s3)) ru⟩
      intro z hz
      rcases List.mem_append.mp hz with y | y
      · exact hrow.2.2 z y
      · rw [List.mem_singleton.mp y]
        exact hk
    · rw [map_one]
      have s2 := su.trans (Same.up (o := .tup ((ks ++ [k]).map V.int)) nc)
      have ec : upd (upd H1 u (.tup [V.int k])) c (.tup ((ks ++ [k]).map V.int)) c = some (.tup ((ks ++ [k]).map V.int)) := upd_same
      generalize upd (upd H1 u (.tup [V.int k])) c (.tup ((ks ++ [k]).map V.int)) = H2 at s2 ec
      refine ⟨_, rfl, t, _, rfl, .inr (SqT.of (s2 _ _ e1)), _, rfl, rfl, rfl, c, ks.length, w, ks ++ [k], by rw [List.length_map]; rfl, hw, ⟨.inr ec, by rw [List.length_append, List.length_singleton]; omega, ?_⟩, by rw [List.length_append, List.length_singleton]; omega, fun H3 u s3 ru => q H3 u (s1.trans (s2.trans s3)) ru⟩
      intro z hz
      rcases List.mem_append.mp hz with y | y
      · exact hrow.2.2 z y
      · rw [List.mem_singleton.mp y]
        exact hk
theorem b_gi (T : Tx K mg A) : L2.Binds K A.d_t___getitem__ ["self", "place"] [] := T.F_t___getitem__.binds fun _ _ _ _ _ _ us hl => match us, hl with | [_, _], _ => rfl
/-- the children of a place, as the program cuts them -/
def kids (n w i : Nat) : List V := cutV (pl n) (some ((i : Int) * (w : Int) + 1)) (some ((i : Int) * (w : Int) + 1 + (w : Int)))
def spGi (C : Addr) : Sp := fun vs H Q _ => ∃ (p n w i : Nat), vs = [.ref p, .int i] ∧ TreeAt C H p n w ∧ i < n ∧ ∀ H' q, Same H H' → H' q = some (.tup (kids n w i)) → Q (.ref q) H'
theorem ok_gi (T : Tx K mg A) : FnOk P w K mg base CX0 4 A.f_t___getitem__ A.d_t___getitem__ ["self", "place"] (spGi A.C) := by
  refine T.F_t___getitem__.ok sc_t___getitem__ (fun vs H Q E h => ?_) (fun cdv B outer s H vs Q E hr h => ?_)
  · obtain ⟨p, n, w, i, rfl, _⟩ := h
    rfl
  · obtain ⟨p, n, w, i, rfl, t, hi, q⟩ := h
    obtain ⟨dx, l, h1, h2⟩ := t.ob
    refine ⟨_, pss_cons (ps_expr (pe_call (ok_cp T) hr (by rfl) T.m_check_place T.F_check_place.kp (b_cp T) .nil pass0 (pa_cons (pv 1) (pa_cons (pe_fld (pv 0) rfl) pa_nil))))
      (pss_cons (ps_set (i := 2) sc_t___getitem__.nd rfl (Or.inl rfl) (pe_op op_add (pe_op op_mul (pv 1) (pe_fld (pv 0) rfl)) pe_int))
      (pss_one (ps_ret (pe_slice sl_tup (pe_fld (pv 0) rfl) (po_some (pv 2)) (po_some (pe_op op_add (pv 2) (pe_fld (pv 0) rfl))))))), ?_⟩
    refine ⟨_, rfl, _, rfl, p, A.C, dx, _, _, rfl, h1, T.cT, T.nMany, tf_many _ _ _, _, _, rfl, ⟨by omega, by omega⟩, ?_⟩
    refine ⟨_, rfl, _, rfl, p, A.C, dx, _, _, rfl, h1, T.cT, T.nArms, tf_arms _ _ _, _, _, rfl, rfl, .inl ⟨by have := t.hn; omega, by have := t.hn; omega⟩, _, _, rfl, rfl, ?_⟩
    refine ⟨_, rfl, p, A.C, dx, _, _, rfl, h1, T.cT, T.nPl, tf_pl _ _ _, ?_⟩
    refine ⟨_, rfl, _, rfl, _, rfl, _, rfl, p, A.C, dx, _, _, rfl, h1, T.cT, T.nArms, tf_arms _ _ _, _, _, rfl, rfl, _, rfl, ?_⟩
    refine ⟨l, pl n, rfl, SqT.of h2, fun z => ?_, fun r hr0 => q _ r (Same.up hr0) upd_same⟩
    have z1 := z.1
    rw [pl_len, show ((i : Int) * (w : Int) + 1) = ((i * w + 1 : Nat) : Int) by push_cast; rfl, HT.sIx_nat] at z1
    omega
def kidsN (n w i : Nat) : List Nat := ((List.range n).drop (min (i * w + 1) n)).take (min (i * w + 1 + w) n - min (i * w + 1) n)
theorem kids_same : ∀ n, n < 13 → ∀ w, w < 5 → ∀ i, i < n → 1 ≤ w → kidsN n w i = kidL n w i := by decide +kernel
theorem kids_eq (n w i : Nat) : kids n w i = vi (kidsN n w i) := by
  unfold kids cutV kidsN
  rw [pl_len, show ((i : Int) * (w : Int) + 1) = ((i * w + 1 : Nat) : Int) by push_cast; rfl, show (((i * w + 1 : Nat) : Int) + (w : Int)) = ((i * w + 1 + w : Nat) : Int) by push_cast; rfl, HT.sIx_nat, HT.sIx_nat]
  unfold vi pl
  rw [List.map_take, List.map_drop]
theorem kid_len : ∀ n, n < 13 → ∀ w, w < 5 → ∀ i, i < n → 1 ≤ w → (kidL n w i).length ≤ 4 := by decide +kernel
/-- least_child -/
def spLc (K : PySem.W.Frag) (A : Ad) : Sp := fun vs H Q _ => ∃ (l a : Addr) (ks ns : List Int), vs = [.ref l, .ref a] ∧ SqL K H l (ks.map V.int) ∧ SqT K H a (ns.map V.int) ∧ 0 < ns.length ∧ (∀ n ∈ ns, 0 ≤ n ∧ n < ks.length) ∧ LamX.Tabs (TT A) H ∧
  ∀ (m : Int) (H' : Hp), LamX.ExtN H H' → LamX.Tabs (TT A) H' → Cl.LeastAt ks ns m → Q (.int m) H'
theorem ok_lc (T : Tx K mg A) (TB : LamX.TabB base mg A.c_least_child A.P_least_child) : FnOk P w K mg base CX0 2 A.f_least_child A.d_least_child ["keys", "children"] (spLc K A) := by
  obtain ⟨oc, od, kV, doc, pm, an, ct, osl, ed, lk, hcd⟩ := T.L_least_child
  rw [ed] at lk ⊢
  refine fn_of lk hcd sc_least_child (fun vs H Q E h => ?_) (fun B outer s H vs Q E hr h => ?_)
  · obtain ⟨l, a, ks, ns, rfl, _⟩ := h
    rfl
  · obtain ⟨l, a, ks, ns, rfl, hl, ha, hne, hin, hT, q⟩ := h
    refine ⟨_, PSs.nox (pss_one (ps_ret (Cl.pe_minlam (T := TT A) (x := "place") (y := "keys") (j := 0) (by rfl) T.g_min (pv 1) hr.depth hr.hd TB rfl (List.mem_singleton.mpr rfl) (fun p hp _ => by rw [List.mem_singleton.mp hp]; rfl)
      ⟨rfl, rfl, rfl, by decide +kernel, by decide +kernel, by decide +kernel⟩ (show (defScope s_least_child).names.lookup ("keys" : Str) = some NameKind.cell by decide +kernel) (by decide +kernel) rfl rfl (fun _ _ _ _ _ _ => rfl)))), ?_⟩
    exact ⟨_, rfl, a, l, ns, ks, rfl, ha, rfl, hl, hne, hin, hT, fun m H2 e t lm => q m H2 e t lm⟩
theorem b_lc (T : Tx K mg A) : L2.Binds K A.d_least_child ["keys", "children"] [] := T.F_least_child.binds fun _ _ _ _ _ _ us hl => match us, hl with | [_, _], _ => rfl
theorem wz_get (l : List Nat) (i : Nat) : (wz l).getD i 0 = ((l.getD i 0 : Nat) : Int) := by
  unfold wz
  rw [List.getD_eq_getElem?_getD, List.getD_eq_getElem?_getD, List.getElem?_map]
  cases l[i]? <;> rfl
theorem least_wz {ks : List Int} {l : List Nat} {m : Int} (h : Cl.LeastAt ks (wz l) m) : m = ((leastC ks l : Nat) : Int) := by
  obtain ⟨j, fl, e⟩ := h
  rw [wz_get] at e
  have hl : (wz l).length = l.length := by unfold wz; rw [List.length_map]
  have ef : (fun i => ks.getD ((wz l).getD i 0).toNat 0) = fun i => keyAt ks (l.getD i 0) := by
    funext i
    rw [wz_get, Int.toNat_natCast]
    rfl
  rw [hl, ef] at fl
  rw [e, least_of fl]
def muW (σ : L2.St) (H : Hp) : Nat := match σ[6]? with
  | some (some (V.ref W)) => (match H W with | some (.lst xs) => 40 - xs.length | _ => 0)
  | _ => 0
theorem muW_at {σ : L2.St} {H : Hp} {W : Addr} {xs : List V} (h : σ[6]? = some (some (V.ref W))) (hw : H W = some (.lst xs)) : muW σ H = 40 - xs.length := by
  unfold muW
  rw [h]
  show (match H W with | some (.lst xs) => 40 - xs.length | _ => 0) = _
  rw [hw]
def spDown (A : Ad) : Sp := fun vs H Q _ => ∃ (r p w : Nat) (ks : List Int), vs = [.ref r, .int p, .int w] ∧ (1 ≤ w ∧ w ≤ 4) ∧ RowIn H r ks ∧ p < ks.length ∧ Tabs (TT A) H ∧
  ∀ (H' : Hp) (q : Addr), ExtN H H' → Tabs (TT A) H' → resSift A.CS H' q (goDown ks.length w 20 ks p [p] 0) → Q (.ref q) H'
theorem ok_down (T : Tx K mg A) (TB : LamX.TabB base mg A.c_least_child A.P_least_child) : FnOk P w K mg base CX0 7 A.f_sift_down A.d_sift_down ["row", "place", "arms"] (spDown A) := by
  obtain ⟨mo, ko⟩ := kb_of T
  refine T.F_sift_down.ok sc_sift_down (fun vs H Q E h => ?_) (fun cdv B outer s H vs Q E hr h => ?_)
  · obtain ⟨r, p, w, ks, rfl, _⟩ := h
    rfl
  · obtain ⟨r, p, w, ks, rfl, hw, hrow, hp, hT, q⟩ := h
    have nd := sc_sift_down.nd
    refine ⟨_, PSs.nox (pss_cons (ps_set (i := 3) nd rfl (Or.inl rfl) (pe_cmethK (pe_glob (v := .ref A.C) (by rfl) T.mC (relR _)) T.cr T.cof (ok_of T) hr ko pass0 (pa_cons (pv 0) pa_nil) (pk_cons (pv 2) pk_nil)))
      (pss_cons (ps_set (i := 4) nd rfl (Or.inl rfl) (pe_gi T.D_t___getitem__ (ok_gi T) (hr.mono (by decide)) (b_gi T) pass0 (pv 3) (pv 1)))
      (pss_cons (ps_set (i := 5) nd rfl (Or.inl rfl) (pe_callTy call_list_of (by rfl) T.g_list (by decide +kernel) (pa_cons (pv 0) pa_nil)))
      (pss_cons (ps_set (i := 6) nd rfl (Or.inl rfl) (pe_lst (pa_cons (pv 1) pa_nil)))
      (pss_cons (ps_set (i := 7) nd rfl (Or.inl rfl) pe_int)
      (C8.pss_cut (ps_while PassesOwn.never (pt_truth (pv 4) (fun _ => rfl)) (pss_cons (ps_set (i := 8) nd rfl (Or.inl rfl) (pe_ix ix_list (pv 6) (pe_un un_neg pe_int) (fun _ _ => rfl)))
      (pss_cons (ps_aug (i := 7) nd rfl (Or.inl rfl) (pe_callB call_len_seq (by rfl) T.g_len PySem.boot_len (pa_cons (pv 4) pa_nil)) ip_add)
      (pss_cons (ps_set (i := 9) nd rfl (Or.inl rfl) (pe_call (ok_lc T TB) (hr.mono (by decide)) (by rfl) T.m_least_child T.F_least_child.kp (b_lc T) .nil pass0 (pa_cons (pv 5) (pa_cons (pv 4) pa_nil))))
      (pss_cons (ps_if (pt_cmpR op_le (pe_ix ix_list (pv 5) (pv 8) (fun _ _ => rfl)) (pe_ix ix_list (pv 5) (pv 9) (fun _ _ => rfl)) (nomark _)) (pss_one ps_break) pss_nil)
      (pss_cons (ps_asg (pe_tup (pa_cons (pe_ix ix_list (pv 5) (pv 9) (fun _ _ => rfl)) (pa_cons (pe_ix ix_list (pv 5) (pv 8) (fun _ _ => rfl)) pa_nil))) (pg_tup rfl (pgs_cons (pg_sub (pv 5) (pv 8) set_list) (pgs_cons (pg_sub (pv 5) (pv 9) set_list) pgs_nil))))
      (pss_cons (ps_expr (pe_bm PySem.F.plainAttrs_list PySem.F.slot_list_append PySem.F.type_list_append mt_append (pv 6) (pa_cons (pv 9) pa_nil)))
      (pss_one (ps_set (i := 4) nd rfl (Or.inl rfl) (pe_gi T.D_t___getitem__ (ok_gi T) (hr.mono (by decide)) (b_gi T) pass0 (pv 3) (pv 9)))))))))))
      (pss_one (ps_ret (pe_make T.mkCS (ok_zi T) (hr.mono (by decide)) (by rfl) T.mCS (b_zi T) .nil pass0 (pa_cons (pv 5) (pa_cons (pv 6) (pa_cons (pv 7) pa_nil)))))))))))), ?_⟩
    refine ⟨rfl, _, rfl, _, rfl, rfl, rfl, r, w, ks, rfl, hw, hrow.1, hrow.2.1, hrow.2.2, fun H1 tr s1 p0 t1 => ?_⟩
    obtain ⟨dx, l, h1, h2⟩ := t1.ob
    have hk12 := hrow.2.1
    refine ⟨_, rfl, _, rfl, tr, dx, _, rfl, h1, tr, ks.length, w, p, rfl, t1, hp, fun H2 ch s2 hch => ?_⟩
    rw [kids_eq, kids_same ks.length (by omega) w (by omega) p hp hw.1] at hch
    have s12 : Same H H2 := s1.trans s2
    refine ⟨_, rfl, r, _, rfl, (hrow.1.same s12).len, fun D nD => ?_⟩
    refine ⟨_, rfl, by show 1 ≤ sizeLine; decide, fun W nW => ?_⟩
    have nDW : D ≠ W := ne_of_none (upd_same (H := H2) (a := D)) nW
    have s24 : Same H2 (upd (upd H2 D (.lst (ks.map V.int))) W (.lst [V.int (p : Nat)])) := (Same.up nD).trans (Same.up nW)
    have two0 : TwoE (TT A) H2 D W (ks.map V.int) (vi ([] ++ [p])) (upd (upd H2 D (.lst (ks.map V.int))) W (.lst [V.int (p : Nat)])) :=
      ⟨extN_of s24, (hT.ext s12).ext s24, by rw [upd_ne nDW]; exact upd_same, upd_same, nD, (Same.up nD).free nW, nDW⟩
    have hch4 := s24 _ _ hch
    generalize upd (upd H2 D (.lst (ks.map V.int))) W (.lst [V.int (p : Nat)]) = H4 at two0 hch4
    have t2 := t1.same s2
    generalize en : ks.length = n at *
    refine ⟨fun σ' H' => ∃ (x4 x8 x9 : Option V), σ' = [some (.ref r), some (.int p), some (.int w), some (.ref tr), x4, some (.ref D), some (.ref W), some (.int ((goDown n w 20 ks p [p] 0).2.2 : Nat)), x8, x9] ∧ TwoE (TT A) H2 D W ((goDown n w 20 ks p [p] 0).1.map V.int) (vi (goDown n w 20 ks p [p] 0).2.1) H', ?_, ?_⟩
    · refine while_by (fun σ' H' => ∃ (f : Nat) (ks' : List Int) (cur : Nat) (way : List Nat) (lk : Nat) (x8 x9 : Option V) (ch : Addr), σ' = [some (.ref r), some (.int p), some (.int w), some (.ref tr), some (.ref ch), some (.ref D), some (.ref W), some (.int lk), x8, x9] ∧
        TwoE (TT A) H2 D W (ks'.map V.int) (vi (way ++ [cur])) H' ∧ H' ch = some (.tup (vi (kidL n w cur))) ∧ cur < n ∧ ks'.length = n ∧ way.length + f = 20 ∧ n - cur < f ∧ goDown n w 20 ks p [p] 0 = goDown n w f ks' cur (way ++ [cur]) lk) muW ?_ ?_ ?_
      · exact ⟨20, ks, p, [], 0, none, none, ch, rfl, two0, hch4, hp, en, rfl, by omega, rfl⟩
      · rintro σ' H' ⟨f, ks', cur, way, lk, x8, x9, ch', rfl, two, hch', hcur, hkl, hwf, hf, eg⟩
        refine ⟨_, rfl, !(vi (kidL n w cur)).isEmpty, .inr (.inl ⟨_, SqT.of hch', rfl⟩), ?_⟩
        obtain ⟨f, rfl⟩ : ∃ f', f = f' + 1 := ⟨f - 1, by omega⟩
        have hlast : atI (vi (way ++ [cur])) (-1) = some (V.int ((cur : Nat) : Int)) := by
          rw [vi_app]
          exact last_at
        have hmu0 : muW [some (.ref r), some (.int p), some (.int w), some (.ref tr), some (.ref ch'), some (.ref D), some (.ref W), some (.int lk), x8, x9] H' = 40 - (way.length + 1) := by
          rw [muW_at rfl two.w, vi_len, List.length_append]
          rfl
        by_cases hk0 : kidL n w cur = []
        · rw [hk0]
          refine iteF ?_
          rw [goDown_leaf hk0] at eg
          rw [eg]
          exact ⟨_, _, _, rfl, two⟩
        · have e0 : (!(vi (kidL n w cur)).isEmpty) = true := by
            cases e : kidL n w cur with
            | nil => exact absurd e hk0
            | cons a b => rfl
          rw [e0]
          refine iteT ?_
          have hmem := least_mem (ks := ks') hk0
          have hk4 := kid_len n (by omega) w (by omega) cur hcur hw.1
          obtain ⟨hb1, hb2⟩ := kid_in hw.1 hmem
          refine ⟨_, rfl, _, rfl, W, _, _, _, rfl, rfl, SqL.of two.w, hlast, ?_⟩
          refine ⟨_, rfl, _, rfl, ch', _, rfl, .inr (SqT.of hch'), _, _, rfl, rfl, ?_⟩
          refine ⟨_, rfl, _, rfl, D, ch', ks', wz (kidL n w cur), rfl, SqL.of two.d, by rw [← vi_wz]; exact SqT.of hch', ?_, ?_, two.t, fun m H5 e5 t5 hm => ?_⟩
          · unfold wz
            rw [List.length_map]
            exact List.length_pos_iff.mpr hk0
          · intro z hz
            unfold wz at hz
            obtain ⟨j, hj, rfl⟩ := List.mem_map.mp hz
            have := kid_in hw.1 hj
            omega
          have em := least_wz hm
          subst em
          generalize ebb : leastC ks' (kidL n w cur) = b at *
          have two5 := two.ext e5 t5
          have hch5 := e5 _ _ hch' (fun ps z => nomatch z)
          have hc1 : cur < ks'.length := by omega
          have hc2 : b < ks'.length := by omega
          rw [vi_len]
          refine ⟨_, rfl, _, rfl, D, _, _, _, rfl, rfl, SqL.of two5.d, key_at hc1, _, rfl, _, rfl, D, _, _, _, rfl, rfl, SqL.of two5.d, key_at hc2, _, _, rfl, rfl, _, rfl, ?_⟩
          by_cases hlt : keyAt ks' b < keyAt ks' cur
          · rw [decide_eq_false (show ¬ keyAt ks' cur ≤ keyAt ks' b by omega)]
            refine iteF ?_
            rw [goDown_go hk0 ebb hlt] at eg
            refine ⟨_, rfl, _, rfl, D, _, _, _, rfl, rfl, SqL.of two5.d, key_at hc2, _, rfl, _, rfl, D, _, _, _, rfl, rfl, SqL.of two5.d, key_at hc1, by show 2 ≤ sizeLine; decide, fun t ht => ?_⟩
            have two2 := two5.same (Same.up (o := .tup [V.int (keyAt ks' b), V.int (keyAt ks' cur)]) ht)
            have et : upd H5 t (.tup [V.int (keyAt ks' b), V.int (keyAt ks' cur)]) t = some (.tup [V.int (keyAt ks' b), V.int (keyAt ks' cur)]) := upd_same
            generalize upd H5 t (.tup [V.int (keyAt ks' b), V.int (keyAt ks' cur)]) = G at two2 et
            refine ⟨t, _, rfl, SqT.of et, rfl, _, _, rfl, _, rfl, _, rfl, D, _, _, cur, rfl, rfl, two2.d, ixN_nat (by rw [List.length_map]; exact hc1), ?_⟩
            rw [set_int]
            have two3 : TwoE (TT A) H2 D W ((ks'.set cur (keyAt ks' b)).map V.int) (vi (way ++ [cur])) (upd G D (.lst ((ks'.set cur (keyAt ks' b)).map V.int))) := two2.setD
            generalize upd G D (.lst ((ks'.set cur (keyAt ks' b)).map V.int)) = G2 at two3
            refine ⟨_, _, rfl, _, rfl, _, rfl, D, _, _, b, rfl, rfl, two3.d, ixN_nat (by rw [List.length_map, List.length_set]; exact hc2), ?_⟩
            rw [set_int, show (ks'.set cur (keyAt ks' b)).set b (keyAt ks' cur) = swp ks' cur b from rfl]
            have two4 : TwoE (TT A) H2 D W ((swp ks' cur b).map V.int) (vi (way ++ [cur])) (upd G2 D (.lst ((swp ks' cur b).map V.int))) := two3.setD
            generalize upd G2 D (.lst ((swp ks' cur b).map V.int)) = G3 at two4
            refine ⟨rfl, _, rfl, .inl ⟨rfl, _, SqL.of two4.w⟩, _, rfl, W, _, _, rfl, rfl, two4.w, small1000 (by rw [vi_len, List.length_append, List.length_singleton]; omega), ?_⟩
            have em : vi (way ++ [cur]) ++ [V.int (b : Nat)] = vi ((way ++ [cur]) ++ [b]) := by rw [vi_app (way ++ [cur])]; rfl
            rw [em]
            have two6 : TwoE (TT A) H2 D W ((swp ks' cur b).map V.int) (vi ((way ++ [cur]) ++ [b])) (upd G3 W (.lst (vi ((way ++ [cur]) ++ [b])))) := two4.setW
            generalize upd G3 W (.lst (vi ((way ++ [cur]) ++ [b]))) = G4 at two6
            have t6 := t2.ext two6.e
            obtain ⟨dx6, l6, h16, h26⟩ := t6.ob
            refine ⟨_, rfl, _, rfl, tr, dx6, _, rfl, h16, tr, n, w, b, rfl, t6, hb2, fun H7 ch7 s7 hch7 => ?_⟩
            rw [kids_eq, kids_same n (by omega) w (by omega) b hb2 hw.1] at hch7
            have two7 := two6.same s7
            refine ⟨⟨f, swp ks' cur b, b, way ++ [cur], _, _, _, ch7, rfl, two7, hch7, hb2, by rw [swp_len]; exact hkl, by rw [List.length_append, List.length_singleton]; omega, by omega, eg⟩, ?_⟩
            rw [hmu0]
            show muW [some (.ref r), some (.int p), some (.int w), some (.ref tr), some (.ref ch7), some (.ref D), some (.ref W), _, _, _] H7 < _
            rw [muW_at rfl two7.w, vi_len, List.length_append, List.length_append, List.length_singleton, List.length_singleton]
            omega
          · rw [decide_eq_true (show keyAt ks' cur ≤ keyAt ks' b by omega)]
            refine iteT ?_
            rw [goDown_stay hk0 (by rw [ebb]; exact hlt)] at eg
            rw [eg]
            exact ⟨_, _, _, rfl, two5⟩
      · rintro σ' H1 Q1 Q2 mono ⟨v, hv, k, tv, z⟩
        exact ⟨v, hv, k, tv, mono _ _ z⟩
    · rintro σ' H' ⟨x4, x8, x9, rfl, two⟩
      refine ⟨_, rfl, _, rfl, _, rfl, fun x dx2 nx ndx nex => ?_⟩
      have hD := (Same.up (o := .own x) ndx) _ _ two.d
      have hW := (Same.up (o := .own x) ndx) _ _ two.w
      have nx2 : upd H' dx2 (.own x) x = none := by rw [upd_ne nex.symm]; exact nx
      refine ⟨x, dx2, D, W, _, (goDown n w 20 ks p [p] 0).1, wz (goDown n w 20 ks p [p] 0).2.1, rfl, upd_same, .inl ((Same.up nx2) _ _ hD), .inl (by rw [← vi_wz]; exact (Same.up nx2) _ _ hW), fun H6 k6 st => ⟨rfl, q H6 x ?_ ?_ st⟩⟩
      · exact (extN_of s12).trans (two.e.trans (extN_of (new_same nx ndx k6)))
      · exact two.t.ext (new_same nx ndx k6)
theorem kb_down (T : Tx K mg A) : ∃ mv : List Value, KBn K A.d_sift_down ["row", "place", "arms"] 2 ["arms"] (fun us ws => us ++ (mv ++ ws)) (fun vs zs => vs ++ zs) := by
  obtain ⟨mv, h⟩ := T.F_sift_down.kbinds0 (ps := ["row", "place", "arms"]) 2 ["arms"] [] (fun us mv ws => us ++ (mv ++ ws)) (by simp) (by simp) (fun r1 r2 r3 => r1.append (r2.append r3))
    (fun D doc pm an cdv ct us mv ws h1 h2 h3 => by
      match us, mv, ws, h1, h2, h3 with
      | [a, b], [], [c], _, _, _ => rfl)
  exact ⟨mv, h⟩
def spCf : Sp := fun vs H Q _ => ∃ (t : Nat) (xs : List V), vs = [.ref t] ∧ H t = some (.tup xs) ∧ xs ≠ [] ∧ Q .non H
theorem ok_cf (T : Tx K mg A) : FnOk P w K mg base CX0 2 A.f_check_filled A.d_check_filled ["heap"] spCf := by
  refine T.F_check_filled.ok sc_check_filled (fun vs H Q E h => ?_) (fun cdv B outer s H vs Q E hr h => ?_)
  · obtain ⟨t, xs, rfl, _⟩ := h
    rfl
  · obtain ⟨t, xs, rfl, ht, hn, q⟩ := h
    refine ⟨_, (pss_one (ps_if (pt_not (pt_truth (pv 0) (fun _ => rfl))) (pss_one ps_never) pss_nil)), ?_⟩
    refine ⟨_, rfl, !xs.isEmpty, .inr (.inl ⟨_, SqT.of ht, rfl⟩), ?_⟩
    cases xs with
    | nil => exact absurd rfl hn
    | cons a b => exact iteF q
theorem b_cf (T : Tx K mg A) : L2.Binds K A.d_check_filled ["heap"] [] := T.F_check_filled.binds fun _ _ _ _ _ _ us hl => match us, hl with | [_], _ => rfl
theorem cut_rest (ks : List Int) (h : 1 ≤ ks.length) : cutV (ks.map V.int) (some 1) none = (ks.drop 1).map V.int ∧ ¬ (HT.sIx (ks.map V.int).length 0 (some 1) = 0 ∧ HT.sIx (ks.map V.int).length (ks.map V.int).length none = (ks.map V.int).length) := by
  have e : HT.sIx (ks.map V.int).length 0 (some 1) = 1 := by
    have := HT.sIx_nat (ks.map V.int).length 0 1
    rw [List.length_map] at this ⊢
    rw [show (some 1 : Option Int) = some ((1 : Nat) : Int) from rfl, this]
    omega
  have e2 : HT.sIx (ks.map V.int).length (ks.map V.int).length none = ks.length := by
    unfold HT.sIx
    simp
  refine ⟨?_, fun z => ?_⟩
  · unfold cutV
    rw [e, e2, ← List.map_drop, ← List.map_take, List.take_of_length_le (by rw [List.length_drop]; exact Nat.le_refl _)]
  · rw [e] at z
    omega
def spPut (A : Ad) : Sp := fun vs H Q _ => ∃ (r w : Nat) (k : Int) (ks : List Int), vs = [.ref r, .int k, .int w] ∧ (1 ≤ w ∧ w ≤ 4) ∧ RowIn H r ks ∧ faultL ks w = [] ∧ (-1000000000 ≤ k ∧ k ≤ 1000000000) ∧ ks ≠ [] ∧ Tabs (TT A) H ∧
  ∀ (H' : Hp) (t : Addr), ExtN H H' → Tabs (TT A) H' → TookAt A.CS H' t (ks.getD 0 0) (goDown ks.length w 20 (putRow k ks) 0 [0] 0) → Q (.ref t) H'
theorem ok_put (T : Tx K mg A) (TB : LamX.TabB base mg A.c_least_child A.P_least_child) : FnOk P w K mg base CX0 9 A.f_put_for A.d_put_for ["row", "key", "arms"] (spPut A) := by
  obtain ⟨md, kd⟩ := kb_down T
  refine T.F_put_for.ok sc_put_for (fun vs H Q E h => ?_) (fun cdv B outer s H vs Q E hr h => ?_)
  · obtain ⟨r, w, k, ks, rfl, _⟩ := h
    rfl
  · obtain ⟨r, w, k, ks, rfl, hw, hrow, hf, hk, hn, hT, q⟩ := h
    have nd := sc_put_for.nd
    have hl12 := hrow.2.1
    have hpos := List.length_pos_iff.mpr hn
    refine ⟨_, PSs.nox (pss_cons (ps_set (i := 3) nd rfl (Or.inl rfl) (pe_call (ok_hp T) (hr.mono (by decide)) (by rfl) T.m_heap_of T.F_heap_of.kp (b_hp T) .nil pass0 (pa_cons (pv 0) (pa_cons (pv 2) pa_nil))))
      (pss_cons (ps_expr (pe_call (ok_ck T) (hr.mono (by decide)) (by rfl) T.m_check_key T.F_check_key.kp (b_ck T) .nil pass0 (pa_cons (pv 1) pa_nil)))
      (pss_cons (ps_expr (pe_call (ok_cf T) (hr.mono (by decide)) (by rfl) T.m_check_filled T.F_check_filled.kp (b_cf T) .nil pass0 (pa_cons (pv 3) pa_nil)))
      (pss_one (ps_ret (pe_tup (pa_cons (pe_ix (r := rIx K) ix_seq (pv 3) pe_int (fun _ _ => rfl)) (pa_cons (pe_callN (ok_down T TB) (hr.mono (by decide)) (by rfl) T.m_sift_down T.F_sift_down.kp kd pass0 (pa_cons (pe_op op_catA (pe_tup (pa_cons (pv 1) pa_nil)) (pe_slice sl_tup (pv 3) (po_some pe_int) po_none)) (pa_cons pe_int pa_nil)) (pk_cons (pv 2) pk_nil)) pa_nil)))))))), ?_⟩
    refine ⟨_, rfl, _, rfl, r, w, ks, rfl, hw, hrow, hf, fun H1 t s1 e1 => ?_⟩
    have at0 : atI (ks.map V.int) 0 = some (V.int (ks.getD 0 0)) := key_at hpos
    refine ⟨_, rfl, k, rfl, hk, _, rfl, t, _, rfl, e1, fun z => hn (List.map_eq_nil_iff.mp z), ?_⟩
    refine ⟨_, rfl, .inr (.inl ⟨t, _, _, _, rfl, rfl, SqT.of e1, at0, ?_⟩)⟩
    obtain ⟨c1, c1n⟩ := cut_rest ks hpos
    refine ⟨_, rfl, by show 1 ≤ sizeLine; decide, fun a1 na1 => ?_⟩
    have sa := Same.up (o := .tup [V.int k]) na1
    refine ⟨_, rfl, _, rfl, t, _, rfl, SqT.of (sa _ _ e1), c1n, fun a2 na2 => ?_⟩
    rw [c1]
    have sb := Same.up (o := .tup ((ks.drop 1).map V.int)) na2
    have ea1 := sb _ _ (upd_same (H := H1) (a := a1) (o := .tup [V.int k]))
    have ea2 : upd (upd H1 a1 (.tup [V.int k])) a2 (.tup ((ks.drop 1).map V.int)) a2 = some (.tup ((ks.drop 1).map V.int)) := upd_same
    have s2 := sa.trans sb
    clear sa sb
    generalize upd (upd H1 a1 (.tup [V.int k])) a2 (.tup ((ks.drop 1).map V.int)) = H2 at s2 ea1 ea2
    have bp : ∀ z ∈ putRow k ks, -1000000000 ≤ z ∧ z ≤ 1000000000 := by
      intro z hz
      unfold putRow at hz
      rcases List.mem_cons.mp hz with y | y
      · rw [y]; exact hk
      · exact hrow.2.2 z (List.mem_of_mem_drop y)
    refine ⟨a1, a2, _, _, rfl, rfl, SqT.of ea1, SqT.of ea2, Nat.le_of_lt (small1000 (by rw [List.length_map, List.length_drop, List.length_singleton]; omega)), fun z => (nomatch z), fun _ hn2 => ?_, fun _ hn2 c nc => ?_⟩
    · have e0 : ks.drop 1 = [] := List.map_eq_nil_iff.mp hn2
      obtain ⟨c, rfl⟩ : ∃ c, c = a1 := ⟨a1, rfl⟩
      have s3 := s2
      have ec : H2 c = some (.tup ((putRow k ks).map V.int)) := by unfold putRow; rw [e0]; exact ea1
      refine ⟨_, rfl, rfl, rfl, c, 0, w, putRow k ks, rfl, hw, ⟨.inr ec, by rw [putRow_len hpos]; omega, bp⟩, by rw [putRow_len hpos]; omega, (hT.ext s1).ext s3, fun H4 p e4 t4 rp => ⟨by show 2 ≤ sizeLine; decide, fun z nz => ?_⟩⟩
      have sz := Same.up (o := .tup [V.int (ks.getD 0 0), V.ref p]) nz
      refine q _ z ((extN_of (s1.trans s3)).trans (e4.trans (extN_of sz))) (t4.ext sz) ⟨p, upd_same, ?_⟩
      rw [putRow_len hpos] at rp
      exact rp.same sz
    · have s3 := s2.trans (Same.up (o := .tup ((putRow k ks).map V.int)) nc)
      have ec : upd H2 c (.tup ((putRow k ks).map V.int)) c = some (.tup ((putRow k ks).map V.int)) := upd_same
      rw [show [V.int k] ++ (ks.drop 1).map V.int = (putRow k ks).map V.int from rfl]
      generalize upd H2 c (.tup ((putRow k ks).map V.int)) = H3 at s3 ec
      refine ⟨_, rfl, rfl, rfl, c, 0, w, putRow k ks, rfl, hw, ⟨.inr ec, by rw [putRow_len hpos]; omega, bp⟩, by rw [putRow_len hpos]; omega, (hT.ext s1).ext s3, fun H4 p e4 t4 rp => ⟨by show 2 ≤ sizeLine; decide, fun z nz => ?_⟩⟩
      have sz := Same.up (o := .tup [V.int (ks.getD 0 0), V.ref p]) nz
      refine q _ z ((extN_of (s1.trans s3)).trans (e4.trans (extN_of sz))) (t4.ext sz) ⟨p, upd_same, ?_⟩
      rw [putRow_len hpos] at rp
      exact rp.same sz
theorem zf_row (t1 t2 lk : Nat) : (zf t1 t2 lk).lookup ("row" : Str) = some (.ref t1) := by
  unfold zf
  rw [lookup_putF, if_neg m2, lookup_putF, if_neg m1, lookup_putF, if_pos rfl]
def goneK (r : Nat) (k : Int) (ks : List Int) : V := if ks.length < r then .non else if ks.getD 0 0 < k then .int (ks.getD 0 0) else .non
def spSee (A : Ad) : Sp := fun vs H Q _ => ∃ (p r w n t : Nat) (k : Int) (ks : List Int), vs = [.ref p, .int k] ∧ KAt A.CK H p r w n t ks ∧ (1 ≤ r ∧ r ≤ 12) ∧ (1 ≤ w ∧ w ≤ 4) ∧ KG r w ks ∧ (-1000000000 ≤ k ∧ k ≤ 1000000000) ∧ Tabs (TT A) H ∧
  ∀ (H' : Hp) (t' q : Addr), ButP p H H' → Tabs (TT A) H' → KAt A.CK H' p r w (n + if comesK r k ks = true then 1 else 0) t' (seeK r w k ks) → H' q = some (.tup [.bl (comesK r k ks), goneK r k ks]) → Q (.ref q) H'
theorem ok_see (T : Tx K mg A) (TB : LamX.TabB base mg A.c_least_child A.P_least_child) : FnOk P w K mg base CX0 10 A.f_e_see A.d_e_see ["self", "key"] (spSee A) := by
  obtain ⟨mp, kp⟩ := kb_push T
  obtain ⟨mpf, kpf⟩ := kb_put T
  refine T.F_e_see.ok sc_e_see (fun vs H Q E h => ?_) (fun cdv B outer s H vs Q E hr h => ?_)
  · obtain ⟨p, r, w, n, t, k, ks, rfl, _⟩ := h
    rfl
  · obtain ⟨p, r, w, n, t, k, ks, rfl, hK, hr1, hw, hg, hk, hT, q⟩ := h
    have nd := sc_e_see.nd
    obtain ⟨⟨dx, m, h1⟩, h2⟩ := id hK
    have hflt : faultL ks w = [] := heap_fault rfl hg.hp
    have hrow : RowIn H t ks := ⟨.inr h2, by have := hg.le; omega, hg.bd⟩
    refine ⟨_, (pss_cons (ps_expr (pe_call (ok_ck T) (hr.mono (by decide)) (by rfl) T.m_check_key T.F_check_key.kp (b_ck T) .nil pass0 (pa_cons (pv 1) pa_nil)))
      (C8.pss_cut (ps_if (pt_cmpR op_lt (pe_callB call_len_seq (by rfl) T.g_len PySem.boot_len (pa_cons (pe_fld (pv 0) rfl) pa_nil)) (pe_fld (pv 0) rfl) (nomark _)) (pss_cons (ps_set (i := 2) nd rfl (Or.inl rfl) pe_non)
      (pss_one (ps_fld (pv 0) (pe_fld (pe_callN (ok_push T) (hr.mono (by decide)) (by rfl) T.m_push T.F_push.kp kp pass0 (pa_cons (pe_fld (pv 0) rfl) (pa_cons (pv 1) pa_nil)) (pk_cons (pe_fld (pv 0) rfl) pk_nil)) rfl) rfl))) (pss_one (ps_if (pt_cmpR op_gt (pv 1) (pe_ix (r := rIxT K) ix_tup (pe_fld (pv 0) rfl) pe_int (fun _ _ => rfl)) (nomark _)) (C8.pss_cut (ps_asg (pe_callN (ok_put T TB) (hr.mono (by decide)) (by rfl) T.m_put_for T.F_put_for.kp kpf pass0 (pa_cons (pe_fld (pv 0) rfl) (pa_cons (pv 1) pa_nil)) (pk_cons (pe_fld (pv 0) rfl) pk_nil)) (pg_tup rfl (pgs_cons (pg_name (i := 2) nd rfl (Or.inl rfl)) (pgs_cons (pg_name (i := 3) nd rfl (Or.inl rfl)) pgs_nil))))
      (pss_one (ps_fld (pv 0) (pe_fld (pv 3) rfl) rfl))) (pss_one (ps_ret (pe_tup (pa_cons pe_bl (pa_cons pe_non pa_nil))))))))
      (pss_cons (ps_fldaug (pv 0) pe_int in_add)
      (pss_one (ps_ret (pe_tup (pa_cons pe_bl (pa_cons (pv 2) pa_nil)))))))), ?_⟩
    refine ⟨_, rfl, k, rfl, hk, ?_⟩
    refine ⟨fun σ' H' => ∃ (t' : Addr) (x3 : Option V), σ' = [some (.ref p), some (.int k), some (goneK r k ks), x3] ∧ comesK r k ks = true ∧ ButP p H H' ∧ Tabs (TT A) H' ∧ KAt A.CK H' p r w n t' (seeK r w k ks), ?_, ?_⟩
    · refine ⟨_, rfl, p, A.CK, dx, _, _, rfl, h1, T.cTK, T.kHeap, fdK_hp _ _ _ _ _, t, _, rfl, .inr (SqT.of h2), _, rfl, p, A.CK, dx, _, _, rfl, h1, T.cTK, T.kRoom, fdK_room _ _ _ _ _, _, _, rfl, rfl, _, rfl, ?_⟩
      rw [List.length_map]
      by_cases hl : ks.length < r
      · rw [decide_eq_true (show ((ks.length : Nat) : Int) < (r : Int) by omega)]
        refine iteT ?_
        refine ⟨_, rfl, p, A.CK, dx, _, _, rfl, h1, T.cTK, T.kHeap, fdK_hp _ _ _ _ _, _, rfl, _, rfl, p, A.CK, dx, _, _, rfl, h1, T.cTK, T.kArms, fdK_arms _ _ _ _ _, rfl, rfl, t, w, k, ks, rfl, hw, hrow, hflt, hk, by omega, fun H2 q7 s2 r2 => ?_⟩
        obtain ⟨dz, u1, u2, f0, f1, f2⟩ := r2
        refine ⟨q7, A.CS, dz, _, _, rfl, f0, T.cTS, T.nRow, zf_row _ _ _, _, rfl, p, A.CK, dx, _, rfl, s2 _ _ h1, T.cTK, T.kHeap, by show 5 < 1000; decide, ?_⟩
        refine ⟨u1, none, ?_, ?_, (ButP.of (extN_of s2)).trans (ButP.put _), tabs_ins (hT.ext s2) (s2 _ _ h1), ⟨⟨dx, m, by rw [upd_same, fdK_heap]⟩, ?_⟩⟩
        · unfold goneK
          rw [if_pos hl]
          rfl
        · unfold comesK
          exact decide_eq_true (.inl hl)
        · rw [upd_ne (ne_of f1 (s2 _ _ h1) (by intro z; cases z))]
          unfold seeK
          rw [if_pos hl]
          exact f1
      · rw [decide_eq_false (show ¬ ((ks.length : Nat) : Int) < (r : Int) by omega)]
        have hpos : 0 < ks.length := by omega
        have hne : ks ≠ [] := List.ne_nil_of_length_pos hpos
        refine iteF ⟨_, rfl, _, rfl, p, A.CK, dx, _, _, rfl, h1, T.cTK, T.kHeap, fdK_hp _ _ _ _ _, t, _, _, _, rfl, rfl, SqT.of h2, key_at hpos, _, _, rfl, rfl, _, rfl, ?_⟩
        by_cases hc : ks.getD 0 0 < k
        · rw [decide_eq_true (show k > keyAt ks 0 from hc)]
          refine iteT ?_
          refine ⟨fun σ' H' => ∃ q7 : Addr, σ' = [some (.ref p), some (.int k), some (goneK r k ks), some (.ref q7)] ∧ ExtN H H' ∧ Tabs (TT A) H' ∧ resSift A.CS H' q7 (goDown ks.length w 20 (putRow k ks) 0 [0] 0), ?_, ?_⟩
          · refine ⟨_, rfl, p, A.CK, dx, _, _, rfl, h1, T.cTK, T.kHeap, fdK_hp _ _ _ _ _, _, rfl, _, rfl, p, A.CK, dx, _, _, rfl, h1, T.cTK, T.kArms, fdK_arms _ _ _ _ _, rfl, rfl, t, w, k, ks, rfl, hw, hrow, hflt, hk, hne, hT, fun H3 t3 e3 tt3 took => ?_⟩
            obtain ⟨q5, et, sf⟩ := took
            refine ⟨_, _, rfl, SqT.of et, rfl, _, _, rfl, _, _, rfl, rfl, ?_⟩
            refine ⟨q5, ?_, e3, tt3, sf⟩
            unfold goneK
            rw [if_neg hl, if_pos hc]
            rfl
          rintro σ' H3 ⟨q7, rfl, e3, tt3, dz, u1, u2, f0, f1, f2⟩
          have h13 := e3 _ _ h1 (fun _ z => nomatch z)
          refine ⟨_, rfl, q7, A.CS, dz, _, _, rfl, f0, T.cTS, T.nRow, zf_row _ _ _, _, rfl, p, A.CK, dx, _, rfl, h13, T.cTK, T.kHeap, by show 5 < 1000; decide, ?_⟩
          refine ⟨u1, _, rfl, ?_, (ButP.of e3).trans (ButP.put _), tabs_ins tt3 h13, ⟨⟨dx, m, by rw [upd_same, fdK_heap]⟩, ?_⟩⟩
          · unfold comesK
            exact decide_eq_true (.inr hc)
          · rw [upd_ne (ne_of f1 h13 (by intro z; cases z))]
            unfold seeK
            rw [if_neg hl, if_pos hc]
            exact f1
        · rw [decide_eq_false (show ¬ k > keyAt ks 0 from hc)]
          refine iteF ⟨by show 2 ≤ sizeLine; decide, fun z nz => ?_⟩
          have sz := Same.up (o := .tup [.bl false, .non]) nz
          have ec : comesK r k ks = false := decide_eq_false (by rintro (x | x); exact hl x; exact hc x)
          refine q _ t z (ButP.of (extN_of sz)) (hT.ext sz) ?_ ?_
          · rw [ec]
            unfold seeK
            rw [if_neg hl, if_neg hc]
            exact hK.same sz
          · rw [ec]
            unfold goneK
            rw [if_neg hl, if_neg hc]
            exact upd_same
    rintro σ' H2 ⟨t', x3, rfl, ec, b2, tt2, k2⟩
    obtain ⟨⟨dx, m, g1⟩, g2⟩ := id k2
    refine ⟨_, rfl, p, A.CK, dx, _, _, rfl, g1, T.cTK, T.kEnt, fdK_en _ _ _ _ _, _, _, rfl, rfl, dx, _, g1, by show 5 < 1000; decide, ?_⟩
    have b3 := b2.trans (ButP.put (p := p) (H := H2) (.ins A.CK dx (putF "_entered" (.int ((n : Int) + 1)) (fdK r w t' n m))))
    have tt3 := tabs_ins (fs' := putF "_entered" (.int ((n : Int) + 1)) (fdK r w t' n m)) tt2 g1
    have k3 : KAt A.CK (upd H2 p (.ins A.CK dx (putF "_entered" (.int ((n : Int) + 1)) (fdK r w t' n m)))) p r w (n + 1) t' (seeK r w k ks) := ⟨⟨dx, m, by rw [upd_same, fdK_ent]; push_cast; rfl⟩, by rw [upd_ne (ne_of g2 g1 (by intro z; cases z))]; exact g2⟩
    generalize upd H2 p (.ins A.CK dx (putF "_entered" (.int ((n : Int) + 1)) (fdK r w t' n m))) = H3 at b3 tt3 k3
    refine ⟨_, rfl, by show 2 ≤ sizeLine; decide, fun z nz => ?_⟩
    have sz := Same.up (o := .tup [.bl true, goneK r k ks]) nz
    refine q _ t' z (b3.trans (ButP.of (extN_of sz))) (tt3.ext sz) ?_ ?_
    · rw [if_pos ec]
      exact k3.same sz
    · rw [ec]
      exact upd_same
end
end Tw

set_option Elab.async false
set_option linter.all false
set_option maxRecDepth 100000
set_option maxHeartbeats 2000000
namespace Tw
open PySem PySem.Spec PyProof.Rows L2
section
variable {P : Program} {w : World} {K : PySem.W.Frag} {mg : Str → Option Value} {base : Heap} {A : Ad}
open LamX (ExtN Tabs TabS)
theorem b_see (T : Tx K mg A) : L2.Binds K A.d_e_see ["self", "key"] [] := T.F_e_see.binds fun _ _ _ _ _ _ us hl => match us, hl with | [_, _], _ => rfl
def spChg (A : Ad) : Sp := fun vs H Q _ => ∃ (r g : Nat) (keys : List Int), vs = [.int r, .ref g] ∧ (1 ≤ r ∧ r ≤ 12) ∧ RowIn H g keys ∧ Tabs (TT A) H ∧ ∀ H', ExtN H H' → Tabs (TT A) H' → Q (.int (kpL r 2 keys keys.length).2) H'
theorem ok_chg (T : Tx K mg A) (TB : LamX.TabB base mg A.c_least_child A.P_least_child) : FnOk P w K mg base CX0 11 A.f_changes A.d_changes ["room", "row"] (spChg A) := by
  obtain ⟨diK, riK, biK⟩ := bd_iK T
  refine T.F_changes.ok sc_changes (fun vs H Q E h => ?_) (fun cdv B outer s H vs Q E hr h => ?_)
  · obtain ⟨r, g, keys, rfl, _⟩ := h
    rfl
  · obtain ⟨r, g, keys, rfl, hr1, hg, hT, q⟩ := h
    have nd := sc_changes.nd
    refine ⟨_, (pss_cons (ps_set (i := 2) nd rfl (Or.inl rfl) (pe_make T.mkCK (ok_iK T) (hr.mono (by decide)) (by rfl) T.mCK biK riK pass0 (pa_cons (pv 0) pa_nil)))
      (C8.pss_cut (ps_for PassesOwn.never rfl (pi_tup (pe_call (ok_row T) (hr.mono (by decide)) (by rfl) T.m_row_of T.F_row_of.kp (b_row T) .nil pass0 (pa_cons (pv 1) pa_nil))) (pg_name (i := 3) nd rfl (Or.inl rfl)) (pss_one (ps_expr (pe_meth (pv 2) T.cTK T.M_e_see (ok_see T TB) (hr.mono (by decide)) (b_see T) .nil pass0 (pa_cons (pv 3) pa_nil)))))
      (pss_one (ps_ret (pe_prop (pv 2) T.cTK T.P_e_entered (ok_eent T) (hr.mono (by decide)) (b_eent T) .nil pass0 rfl))))), ?_⟩
    have hw2 : (1 : Nat) ≤ 2 ∧ (2 : Nat) ≤ 4 := by decide
    refine ⟨_, rfl, fun x dx nx ndx nex => ⟨x, dx, r, 2, rfl, hr1, hw2, upd_same, fun H1 t1 k1 hK1 => ⟨rfl, ?_⟩⟩⟩
    have s1 := new_same nx ndx k1
    refine ⟨fun σ' H' => ∃ (x3 : Option V) (t : Addr), σ' = [some (.int r), some (.ref g), some (.ref x), x3] ∧ Tabs (TT A) H' ∧ ExtN H H' ∧ KAt A.CK H' x r 2 (kpL r 2 keys keys.length).2 t (kpL r 2 keys keys.length).1, ?_, ?_⟩
    · refine ⟨_, rfl, g, keys, rfl, hg.1.same s1, hg.2.1, hg.2.2, fun H2 rw s2 e2 => ?_⟩
      have s12 := s1.trans s2
      have hK2 := hK1.same s2
      refine ⟨rw, rfl, ⟨_, SqT.of e2⟩, ?_⟩
      refine for_it (walk_tup (xs := keys.map V.int)) (fun i σ' H' => ∃ (x3 : Option V) (t : Addr), σ' = [some (.int r), some (.ref g), some (.ref x), x3] ∧ Tabs (TT A) H' ∧ ButP x H2 H' ∧ KAt A.CK H' x r 2 (kpL r 2 keys i).2 t (kpL r 2 keys i).1)
        ⟨none, t1, rfl, hT.ext s12, ButP.of (ExtN.refl _), hK2⟩ (fun i σ' H' _ ⟨_, _, _, _, b, _⟩ => ?_) ?_ ?_
      · obtain ⟨dz, fz, gz⟩ := hK2.ins
        exact SqT.of (b _ _ e2 (fun _ z => nomatch z) (ne_of e2 gz (by intro z; cases z)))
      · rintro i y σ' H3 H4 hi ⟨x3, t, rfl, tt3, b3, hK3⟩ ⟨rfl, hy⟩
        obtain ⟨hi2, rfl⟩ := ints_at hy
        rw [el_key hi2]
        obtain ⟨⟨d3, m3, g3⟩, g4⟩ := id hK3
        refine ⟨_, rfl, x, d3, _, rfl, g3, fdK_no _ _ _ _ _ (by decide +kernel) (by decide +kernel) (by decide +kernel) (by decide +kernel) (by decide +kernel), _, rfl, ?_⟩
        refine ⟨x, r, 2, _, t, keyAt keys i, _, rfl, hK3, hr1, hw2, kp_good hw2 hr1 hg.2.2 i (by omega), hg.2.2 _ (keyAt_mem hi2), tt3, fun H5 t5 q5 b5 tt5 hK5 e5 => ?_⟩
        exact ⟨_, t5, rfl, tt5, b3.trans b5, hK5⟩
      · rintro σ' H3 ⟨x3, t, rfl, tt3, b3, hK3⟩
        rw [List.length_map] at hK3
        refine ⟨x3, t, rfl, tt3, fun b o e n => ?_, hK3⟩
        exact b3 _ _ (s12 _ _ e) n (ne_of_none e nx)
    rintro σ' H2 ⟨x3, t, rfl, tt2, e2, hK2⟩
    obtain ⟨⟨d2, m, g1⟩, g2⟩ := id hK2
    refine ⟨_, rfl, x, d2, _, rfl, g1, x, r, 2, _, t, _, rfl, hK2, q _ e2 tt2⟩
theorem RowsAt.same {H H' : Hp} {xs : List V} {ls : List (List Int)} (h : RowsAt H xs ls) (s : Same H H') : RowsAt H' xs ls := L2.Paired.mapP h fun _ _ ⟨t, e, z⟩ => ⟨t, e, s _ _ z⟩
theorem RowsAt.push {H : Hp} {x : V} {l : List Int} (hp : RowAt H x l) : ∀ {xs : List V} {ls : List (List Int)}, RowsAt H xs ls → RowsAt H (xs ++ [x]) (ls ++ [l])
  | _, _, .nil => .cons hp .nil
  | _, _, .cons a b => .cons a (RowsAt.push hp b)
theorem RowsAt.get {H : Hp} : ∀ {xs : List V} {ls : List (List Int)} {i : Nat} {x : V}, RowsAt H xs ls → xs[i]? = some x → ∃ hi : i < ls.length, RowAt H x ls[i]
  | _, _, 0, _, .cons a _, e => ⟨Nat.succ_pos _, by rw [← Option.some.inj e]; exact a⟩
  | _, _, i + 1, _, .cons _ b, e => by
    obtain ⟨hi, r⟩ := RowsAt.get b (by simpa using e)
    exact ⟨Nat.succ_lt_succ hi, r⟩
theorem AccR.same {H1 H H' : Hp} {D : Addr} {ls : List (List Int)} (h : AccR H1 D ls H) (s : Same H H') : AccR H1 D ls H' := ⟨h.s.trans s, h.n, let ⟨xs, e, z⟩ := h.a; ⟨xs, s _ _ e, z.same s⟩⟩
theorem RowsAt.put {H : Hp} {D : Addr} {xs zs ys : List V} {ls : List (List Int)} (hD : H D = some (.lst zs)) (h : RowsAt H xs ls) : RowsAt (upd H D (.lst ys)) xs ls :=
  L2.Paired.mapP h fun _ _ ⟨t, e, z⟩ => ⟨t, e, by rw [upd_ne (ne_of z hD (by intro q; cases q))]; exact z⟩
theorem AccR.push {H1 H : Hp} {D : Addr} {ls : List (List Int)} {x : V} {l : List Int} (h : AccR H1 D ls H) (hp : RowAt H x l) (hl : ls.length < sizeLine) :
    ∃ acc, H D = some (.lst acc) ∧ acc.length < sizeLine ∧ AccR H1 D (ls ++ [l]) (upd H D (.lst (acc ++ [x]))) := by
  obtain ⟨xs, e, z⟩ := h.a
  refine ⟨xs, e, by rw [z.length]; exact hl, fun b o k => ?_, h.n, xs ++ [x], upd_same, (RowsAt.push hp z).put e⟩
  rw [upd_ne (ne_of_none k h.n)]
  exact h.s b o k
theorem RowsAt.app {H : Hp} : ∀ {xs ys : List V} {ls ms : List (List Int)}, RowsAt H xs ls → RowsAt H ys ms → RowsAt H (xs ++ ys) (ls ++ ms)
  | _, _, _, _, .nil, h => h
  | _, _, _, _, .cons a b, h => .cons a (RowsAt.app b h)
/-- a tuple and one item more -/
theorem cat_el {K : PySem.W.Frag} {σ : L2.St} {G : Hp} {tt : Addr} {p : List Nat} {x : Nat} {Q : VK} (h4 : σ[4]? = some (some (.ref tt))) (h5 : σ[5]? = some (some (V.int (x : Nat)))) (et : G tt = some (.tup (nv p))) (hl : p.length ≤ 12)
    (fin : ∀ (c : Addr) (G2 : Hp), Same G G2 → G2 c = some (.tup (nv (p ++ [x]))) → Q (.ref c) G2) : tOp (rCatA K) (tVar 4) (tTup (tCons (tVar 5) tNil)) σ G Q := by
  refine ⟨_, h4, _, h5, by show 1 ≤ sizeLine; decide, fun u nu => ?_⟩
  have su := Same.up (o := .tup [V.int (x : Nat)]) nu
  refine ⟨tt, u, _, _, rfl, rfl, SqT.of (su _ _ et), SqT.of upd_same, Nat.le_of_lt (small1000 (by rw [nv_len, List.length_singleton]; omega)), fun hn => ?_, fun _ y => (nomatch y), fun hn _ c nc => ?_⟩
  · have e0 : p = [] := by
      have := nv_len p
      rw [hn] at this
      exact List.length_eq_zero_iff.mp this.symm
    refine fin u _ su ?_
    subst e0
    exact upd_same
  · rw [appN]
    exact fin c _ (su.trans (Same.up nc)) upd_same
structure Gro (H1 : Hp) (D tt : Addr) (p : List Nat) (ls : List (List Nat)) (H : Hp) : Prop where
  ac : AccR H1 D (ls.map natB) H
  et : H tt = some (.tup (nv p))
theorem Gro.push {H1 H G : Hp} {D tt c : Addr} {p l : List Nat} {ls : List (List Nat)} (g : Gro H1 D tt p ls H) (s : Same H G) (ec : G c = some (.tup (nv l))) (hz : ls.length < sizeLine) :
    ∃ acc, G D = some (.lst acc) ∧ acc.length < sizeLine ∧ Gro H1 D tt p (ls ++ [l]) (upd G D (.lst (acc ++ [V.ref c]))) := by
  obtain ⟨acc, a1, a2, a3⟩ := (g.ac.same s).push (x := .ref c) (l := natB l) ⟨c, rfl, ec⟩ (by rw [List.length_map]; exact hz)
  refine ⟨acc, a1, a2, ?_, ?_⟩
  · rw [List.map_append]
    exact a3
  · rw [upd_ne (ne_of (s _ _ g.et) a1 (by intro y; cases y))]
    exact s _ _ g.et
theorem NRows.get {H : Hp} {xs : List V} {ls : List (List Nat)} {i : Nat} {x : V} (r : NRows H xs ls) (e : xs[i]? = some x) : ∃ (hi : i < ls.length) (t : Addr), x = .ref t ∧ H t = some (.tup (nv ls[i])) := by
  obtain ⟨hi, t, e1, e2⟩ := RowsAt.get r e
  rw [List.length_map] at hi
  rw [List.getElem_map] at e2
  exact ⟨hi, t, e1, e2⟩
theorem NRows.app {H : Hp} {xs ys : List V} {ls ms : List (List Nat)} (a : NRows H xs ls) (b : NRows H ys ms) : NRows H (xs ++ ys) (ls ++ ms) := by
  unfold NRows
  rw [List.map_append]
  exact RowsAt.app a b
theorem flat_le {f : List Nat → List (List Nat)} {c : Nat} : ∀ l : List (List Nat), (∀ a ∈ l, (f a).length ≤ c) → (l.flatMap f).length ≤ l.length * c
  | [], _ => by simp
  | a :: l, h => by
    have h1 := h a List.mem_cons_self
    have h2 := flat_le l fun b hb => h b (List.mem_cons_of_mem _ hb)
    rw [List.flatMap_cons, List.length_append, List.length_cons, Nat.succ_mul]
    omega
def spLk : Sp := fun vs H Q _ => ∃ n : Nat, vs = [.int n] ∧ n ≤ 5 ∧ ∀ (H' : Hp) (q : Addr) (xs : List V), Same H H' → H q = none → H' q = some (.lst xs) → NRows H' xs (codsL n) → Q (.ref q) H'
theorem ok_lk (T : Tx K mg A) : FnOk P w K mg base CX0 2 A.f__law_codes A.d__law_codes ["many"] spLk := by
  refine T.F__law_codes.ok sc__law_codes (fun vs H Q E h => ?_) (fun cdv B outer s H vs Q E hr h => ?_)
  · obtain ⟨n, rfl, _⟩ := h
    rfl
  · obtain ⟨n, rfl, hn, q⟩ := h
    have nd := sc__law_codes.nd
    refine ⟨_, (pss_cons (ps_set (i := 1) nd rfl (Or.inl rfl) (pe_lst (pa_cons (pe_tup pa_nil) pa_nil)))
      (C8.pss_cut (ps_for PassesOwn.never rfl (pi_range1 rfl T.g_range (pa_cons (pv 0) pa_nil)) (pg_name (i := 2) nd rfl (Or.inl rfl)) (pss_cons (ps_set (i := 3) nd rfl (Or.inl rfl) (pe_lst pa_nil))
      (C8.pss_cut (ps_for PassesOwn.never rfl (pi_list (pv 1)) (pg_name (i := 4) nd rfl (Or.inr rfl)) (pss_one (ps_set (i := 3) nd rfl (Or.inl rfl) (pe_op op_cat (pv 3) (pe_lc (own := [("item", 5)]) (g := gName 5) (tt := tYes) rfl nd (pi_range1 rfl T.g_range (pa_cons (pe_op op_add (pv 2) pe_int) pa_nil)) (blkOk_by (own := [("item", 5)]) (N := ["many", "found", "at", "late", "one", "item"]) (sc := (defScope s__law_codes)) (by decide +kernel)) (fun _ _ _ _ _ => pg_name (i := 5) nd rfl (Or.inl rfl)) (fun _ _ _ _ _ => pts_nil) (fun _ _ _ _ _ => (pe_op (r := rCatA K) op_catA (pv 4) (pe_tup (pa_cons (pv 5) pa_nil)))))))))
      (pss_one (ps_set (i := 1) nd rfl (Or.inl rfl) (pv 3))))))
      (pss_one (ps_ret (pv 1))))), ?_⟩
    refine ⟨Nat.zero_le _, fun e ne => ⟨by show 1 ≤ sizeLine; decide, fun D nD => ?_⟩⟩
    have se := Same.up (o := .tup []) ne
    have s0 : Same H (upd (upd H e (.tup [])) D (.lst [V.ref e])) := se.trans (Same.up nD)
    have eD : upd (upd H e (.tup [])) D (.lst [V.ref e]) D = some (.lst [V.ref e]) := upd_same
    have rD : NRows (upd (upd H e (.tup [])) D (.lst [V.ref e])) [V.ref e] (codsL 0) := .cons ⟨e, rfl, (Same.up nD) _ _ upd_same⟩ .nil
    have nD0 := se.free nD
    generalize upd (upd H e (.tup [])) D (.lst [V.ref e]) = G at s0 eD rD
    refine ⟨fun σ' H' => ∃ (x2 x3 x4 : Option V) (q1 : Addr) (xs : List V), σ' = [some (.int n), some (.ref q1), x2, x3, x4, none] ∧ Same H H' ∧ H q1 = none ∧ H' q1 = some (.lst xs) ∧ NRows H' xs (codsL n), ?_, ?_⟩
    · refine ⟨_, rfl, _, rfl, by omega, by omega, ?_⟩
      rw [Int.toNat_natCast]
      refine for_it (walk_range (lo := 0) (n := n)) (fun i σ' H' => ∃ (x2 x3 x4 : Option V) (q1 : Addr) (xs : List V), σ' = [some (.int n), some (.ref q1), x2, x3, x4, none] ∧ Same H H' ∧ H q1 = none ∧ H' q1 = some (.lst xs) ∧ NRows H' xs (codsL i))
        ⟨none, none, none, D, _, rfl, s0, nD0, eD, rD⟩ (fun _ _ _ _ _ => trivial) ?_ ?_
      · rintro i x σ' H2 H3 hi ⟨x2, x3, x4, q1, xs, rfl, s2, n1, e1, r1⟩ ⟨rfl, ex⟩
        obtain rfl : x = V.int (i : Nat) := by
          rw [ex]
          show V.int (0 + (i : Int)) = _
          rw [Int.zero_add]
        have hol := cods_len i (by omega)
        refine ⟨Nat.zero_le _, fun D3 n3 => ?_⟩
        have s3 := Same.up (o := .lst []) n3
        have ms : ∀ j, ((((codsL i).take j).flatMap fun p => (List.range (i + 1)).map fun x => p ++ [x])).length ≤ 600 := fun j => by
          have := flat_le (f := fun p => (List.range (i + 1)).map fun x => p ++ [x]) (c := 5) ((codsL i).take j) (fun p _ => by rw [List.length_map, List.length_range]; omega)
          have h2 : ((codsL i).take j).length ≤ 120 := by rw [List.length_take]; omega
          omega
        refine ⟨fun σ' H' => ∃ (x4 : Option V) (q3 : Addr) (ys : List V), σ' = [some (.int n), some (.ref q1), some (.int i), some (.ref q3), x4, none] ∧ Same H H' ∧ H q3 = none ∧ H' q3 = some (.lst ys) ∧ NRows H' ys (codsL (i + 1)), ?_, ?_⟩
        · refine ⟨_, rfl, q1, rfl, ⟨_, SqL.of (s3 _ _ e1)⟩, ?_⟩
          refine for_it (walk_list (xs := xs)) (fun j σ' H' => ∃ (x4 : Option V) (q3 : Addr) (ys : List V), σ' = [some (.int n), some (.ref q1), some (.int i), some (.ref q3), x4, none] ∧ Same H3 H' ∧ H3 q3 = none ∧ H' q3 = some (.lst ys) ∧ NRows H' ys (((codsL i).take j).flatMap fun p => (List.range (i + 1)).map fun x => p ++ [x]))
            ⟨x4, D3, [], rfl, s3, n3, upd_same, .nil⟩ (fun j σ' H' _ ⟨_, _, _, _, s, _⟩ => SqL.of (s _ _ e1)) ?_ ?_
          · rintro j y σ' H4 H5 hj ⟨y4, q3, ys, rfl, s4, n4, e4, r4⟩ ⟨rfl, hy⟩
            obtain ⟨hj2, t, rfl, et⟩ := r1.get hy
            have hpl := (cods_ok i _ (List.getElem_mem hj2)).1
            have et4 := s4 _ _ et
            refine ⟨_, rfl, _, rfl, _, _, rfl, rfl, _, rfl, by omega, by omega, fun D4 nD4 => ?_⟩
            rw [show ((i : Int) + 1).toNat = i + 1 by omega]
            refine lc_it (walk_range (lo := 0) (n := i + 1)) (fun m H' => Gro H5 D4 t (codsL i)[j] ((List.range m).map fun x => (codsL i)[j] ++ [x]) H') ⟨AccR.start nD4, (Same.up nD4) _ _ et4⟩ (fun _ _ _ _ => trivial) ?_ ?_
            · rintro m z H6 H7 hm gr ⟨rfl, ez⟩
              obtain rfl : z = V.int (m : Nat) := by
                rw [ez]
                show V.int (0 + (m : Int)) = _
                rw [Int.zero_add]
              refine ⟨rfl, iteT (B := Gro H5 D4 t (codsL i)[j] ((List.range (m + 1)).map fun x => (codsL i)[j] ++ [x]) H7) ?_⟩
              refine cat_el rfl rfl gr.et (by omega) fun c G2 sG ec => ?_
              rw [List.range_succ, List.map_append]
              exact gr.push sG ec (small1000 (by rw [List.length_map, List.length_range]; omega))
            · intro H6 gr
              obtain ⟨zs, ez, rz⟩ := gr.ac.a
              have s6 := gr.ac.s
              have e46 := s6 _ _ e4
              have hzl := Paired.length rz
              have hyl := Paired.length r4
              have e56 := s6 _ _ e4
              have hzl : zs.length ≤ i + 1 := by
                have := Paired.length rz
                rw [List.length_map] at this
                rw [this]
                rw [List.length_map, List.length_range]
                exact Nat.le_refl _
              have hyl : ys.length ≤ 600 := by
                have := Paired.length r4
                rw [List.length_map] at this
                rw [this]
                exact ms j
              refine ⟨q3, D4, _, _, rfl, rfl, e56, ez, by rw [sizeLine_eq]; omega, fun L nL => ?_⟩
              have sL := s6.trans (Same.up (o := .lst (ys ++ zs)) nL)
              refine ⟨_, L, _, rfl, s4.trans sL, s4.free (s6.free nL), upd_same, ?_⟩
              rw [← List.take_append_getElem hj2, List.flatMap_append, List.flatMap_cons, List.flatMap_nil, List.append_nil]
              exact RowsAt.same (NRows.app (RowsAt.same r4 s6) rz) (Same.up nL)
          · rintro σ' H4 ⟨y4, q3, ys, rfl, s4, n4, e4, r4⟩
            refine ⟨y4, q3, ys, rfl, s2.trans s4, s2.free n4, e4, ?_⟩
            have hxl := Paired.length r1
            rw [List.length_map] at hxl
            rw [hxl, List.take_length] at r4
            exact r4
        · rintro σ' H4 ⟨y4, q3, ys, rfl, s4, n4, e4, r4⟩
          exact ⟨_, rfl, _, _, _, _, _, rfl, s4, n4, e4, r4⟩
      · rintro σ' H2 ⟨x2, x3, x4, q1, xs, rfl, s2, n1, e1, r1⟩
        exact ⟨x2, x3, x4, q1, xs, rfl, s2, n1, e1, r1⟩
    · rintro σ' H2 ⟨x2, x3, x4, q1, xs, rfl, s2, n1, e1, r1⟩
      exact ⟨_, rfl, q _ _ _ s2 n1 e1 r1⟩
theorem emp_eqv : ∀ ns : List Int, PyData.eqv (.list (ns.map PyData.int)) (.list []) = decide (ns = [])
  | [] => by rfl
  | n :: ns => by rfl
theorem cut63 (xs : List V) (h : xs.length ≤ 63) : cutV xs none (some 63) = xs := by
  unfold cutV
  rw [HT.sIx_none, show (63 : Int) = ((63 : Nat) : Int) from rfl, HT.sIx_nat, List.drop_zero, Nat.min_eq_right h, Nat.sub_zero, List.take_length]
def spNum (K : PySem.W.Frag) : Sp := fun vs H Q _ => ∃ (a : Addr) (ns : List Int) (i : Nat), vs = [.ref a, .int i] ∧ SqL K H a (ns.map V.int) ∧ ns.length ≤ 63 ∧ i < 1000000 ∧ ∀ H' r, Same H H' → Q (.int r) H'
theorem ok_num (T : Tx K mg A) : FnOk P w K mg base CX0 2 A.f__law_number A.d__law_number ["script", "index"] (spNum K) := by
  refine T.F__law_number.ok sc__law_number (fun vs H Q E h => ?_) (fun cdv B outer s H vs Q E hr h => ?_)
  · obtain ⟨a, ns, i, rfl, _⟩ := h
    rfl
  · obtain ⟨a, ns, i, rfl, ha, hl, hi, q⟩ := h
    have nd := sc__law_number.nd
    have hu := hr.units
    refine ⟨_, C8.pss_cut (ps_set (i := 2) nd rfl (Or.inl rfl) (pe_ifExp (pt_cmpR (op_neD hu) (pv 0) (pe_lst pa_nil) (nomark _)) (pe_slice sl_list (pv 0) po_none (po_some pe_int)) (pe_lst (pa_cons pe_int pa_nil))))
      (pss_cons (ps_set (i := 3) nd rfl (Or.inl rfl) (pe_op op_add
        (pe_ix ix_list (pv 2) (pe_op op_mod (pe_callTy call_int1 (by rfl) T.g_int (by decide +kernel) (pa_cons (pv 1) pa_nil)) (pe_callB call_len_seq (by rfl) T.g_len PySem.boot_len (pa_cons (pv 2) pa_nil))) (fun _ _ => rfl))
        (pe_op op_mul pe_int (pe_op op_fdivN (pv 1) (pe_callB call_len_seq (by rfl) T.g_len PySem.boot_len (pa_cons (pv 2) pa_nil))))))
      (pss_cons (ps_par (i := 4) (j := 5) rfl nd rfl rfl (by decide) rfl rfl (pa_cons (pe_op op_mod (pe_callTy call_int1 (by rfl) T.g_int (by decide +kernel) (pa_cons (pv 3) pa_nil)) pe_int)
          (pa_cons (pe_op op_mod (pe_callTy call_int1 (by rfl) T.g_int (by decide +kernel) (pa_cons (pe_op op_fdivN (pv 3) pe_int) pa_nil)) pe_int) pa_nil)) rfl)
      (pss_cons (ps_set (i := 6) nd rfl (Or.inl rfl) (pe_op op_mod (pe_callTy call_int1 (by rfl) T.g_int (by decide +kernel) (pa_cons (pe_callB (cr_sum rfl) (by rfl) T.g_sum (by decide +kernel) (pa_cons (pv 2) pa_nil)) pa_nil)) pe_int))
      (pss_cons (ps_set (i := 7) nd rfl (Or.inl rfl) (pe_op op_mod (pe_callTy call_int1 (by rfl) T.g_int (by decide +kernel) (pa_cons
          (pe_op op_add (pe_op op_add (pe_op op_mul (pe_op op_add (pv 4) (pe_op op_mul pe_int (pv 1))) pe_int) (pe_op op_mul pe_int (pv 5))) (pv 6)) pa_nil)) pe_int))
      (pss_one (ps_ret (pe_op op_add (pe_op op_mul (pe_op op_mod (pe_callTy call_int1 (by rfl) T.g_int (by decide +kernel) (pa_cons
          (pe_op op_mul (pv 7) (pe_op op_add (pe_op op_add (pv 7) (pe_op op_mul pe_int (pv 1))) pe_int)) pa_nil)) pe_int) pe_int) (pv 5)))))))), ?_⟩
    refine ⟨fun σ H1 => ∃ (c : Addr) (cs : List Int), σ = [some (.ref a), some (.int i), some (.ref c), none, none, none, none, none] ∧ Same H H1 ∧ H1 c = some (.lst (cs.map V.int)) ∧ 0 < cs.length ∧ cs.length ≤ 63, ?_, ?_⟩
    · refine ⟨_, rfl, Nat.zero_le _, fun l0 hl0 => ?_⟩
      have hs0 : Same H (upd H l0 (.lst [])) := Same.up hl0
      refine ⟨.list (ns.map PyData.int), .list [], .lst (hs0.seq ha) (ints_dp _ _ _), .lst (SqL.of upd_same) .nil, ?_, rfl, _, rfl, ?_⟩
      · exact shaped_ints _
      · rw [emp_eqv]
        by_cases e : ns = []
        · rw [decide_eq_true e]
          refine iteF ⟨by show 1 ≤ sizeLine; decide, fun l1 hl1 => ⟨l1, [5], rfl, hs0.trans (Same.up hl1), upd_same, by decide, by decide⟩⟩
        · rw [decide_eq_false e]
          refine iteT ⟨_, rfl, _, rfl, a, _, rfl, hs0.seq ha, fun l1 hl1 => ⟨l1, ns, rfl, hs0.trans (Same.up hl1), ?_, ?_, hl⟩⟩
          · rw [upd_same]
            exact congrArg (fun z => some (HO.lst z)) (cut63 _ (by rw [List.length_map]; exact hl))
          · exact List.length_pos_iff.mpr e
    · rintro σ H1 ⟨c, cs, rfl, s1, hc, h0, h63⟩
      have hq := SqL.of (K := K) hc
      have hL : ((cs.map V.int).length : Int) = (cs.length : Int) := by rw [List.length_map]
      have hm0 : 0 ≤ (i : Int) % (cs.length : Int) := Int.emod_nonneg _ (by omega)
      have hm1 : (i : Int) % (cs.length : Int) < (cs.length : Int) := Int.emod_lt_of_pos _ (by omega)
      obtain ⟨j, hj⟩ : ∃ j : Nat, (i : Int) % (cs.length : Int) = (j : Int) := ⟨_, (Int.toNat_of_nonneg hm0).symm⟩
      have hjl : j < cs.length := by omega
      have hat : atI (cs.map V.int) ((i : Int) % ((cs.map V.int).length : Int)) = some (V.int cs[j]) := by
        rw [hL, hj]
        exact atI_nat (by rw [List.getElem?_map, List.getElem?_eq_getElem hjl]; rfl)
      refine ⟨_, rfl, _, rfl, .inl ⟨_, rfl, _, rfl, c, _, rfl, .inl hq, _, _, rfl, rfl, ?_, c, _, _, _, rfl, rfl, hq, hat, _, rfl, _, rfl, c, _, rfl, .inl hq, _, _, rfl, rfl, ⟨?_, ?_⟩, _, _, rfl, rfl, .inl ⟨by decide, by decide⟩, _, _, rfl, rfl, ?_⟩⟩
      · show (0 : Int) < ((cs.map V.int).length : Int)
        omega
      · omega
      · omega
      · refine ⟨_, rfl, .inl ⟨_, rfl, _, _, rfl, rfl, by show (0 : Int) < 1000003; decide, ?_⟩⟩
        refine ⟨_, rfl, _, _, rfl, rfl, ⟨by decide, by decide⟩, .inl ⟨_, rfl, _, _, rfl, rfl, by show (0 : Int) < 999983; decide, _, _, rfl, ?_⟩⟩
        refine ⟨_, rfl, c, cs, rfl, hq, .inl ⟨_, rfl, _, _, rfl, rfl, by show (0 : Int) < 65521; decide, ?_⟩⟩
        refine ⟨_, rfl, _, rfl, _, _, rfl, rfl, .inl ⟨by decide, by decide⟩, _, _, rfl, rfl, _, _, rfl, rfl, .inr ⟨by decide, by decide⟩, ?_⟩
        refine ⟨_, rfl, _, _, rfl, rfl, .inl ⟨by decide, by decide⟩, _, _, rfl, rfl, _, rfl, _, _, rfl, rfl, .inl ⟨_, rfl, _, _, rfl, rfl, by show (0 : Int) < 2147483647; decide, ?_⟩⟩
        refine ⟨_, rfl, _, rfl, _, rfl, _, _, rfl, rfl, .inl ⟨by decide, by decide⟩, _, _, rfl, rfl, _, _, rfl, rfl, _, _, rfl, rfl, .inl ⟨?_, ?_⟩, .inl ⟨_, rfl, _, _, rfl, rfl, by show (0 : Int) < 2147483629; decide, ?_⟩⟩
        · have := Int.emod_nonneg ((((cs[j] + 13 * Int.fdiv (i : Int) ((cs.map V.int).length : Int)) % 1000003 + 977 * (i : Int)) * 48271 + 31 * (Int.fdiv (cs[j] + 13 * Int.fdiv (i : Int) ((cs.map V.int).length : Int)) 1000003 % 999983)) + cs.sum % 65521) (show (2147483647 : Int) ≠ 0 by decide)
          omega
        · have := Int.emod_lt_of_pos ((((cs[j] + 13 * Int.fdiv (i : Int) ((cs.map V.int).length : Int)) % 1000003 + 977 * (i : Int)) * 48271 + 31 * (Int.fdiv (cs[j] + 13 * Int.fdiv (i : Int) ((cs.map V.int).length : Int)) 1000003 % 999983)) + cs.sum % 65521) (show (0 : Int) < 2147483647 by decide)
          omega
        · exact ⟨_, _, rfl, rfl, .inr ⟨by decide, by decide⟩, _, rfl, _, _, rfl, rfl, q _ _ s1⟩
theorem q2 : ¬ (("row" : Str) = "changes") := by decide +kernel
theorem ints_all : ∀ ks ms : List Int, PyData.eqvAll (ks.map PyData.int) (ms.map PyData.int) = decide (ks = ms)
  | [], [] => by simp [PyData.eqvAll]
  | [], m :: ms => by simp [PyData.eqvAll]
  | k :: ks, [] => by simp [PyData.eqvAll]
  | k :: ks, m :: ms => by
    simp only [List.map_cons, PyData.eqvAll, ints_all ks ms, PyData.eqv]
    by_cases h1 : k = m
    · by_cases h2 : ks = ms <;> simp [h1, h2]
    · simp [h1]
theorem rowD_eqv (r q : List Int) : PyData.eqv (rowD r) (rowD q) = decide (r = q) := by
  rw [← ints_all]
  simp [PyData.eqv]
theorem rowD_same (p : List Nat) : PyData.eqv (rowD (natB p)) (rowD (natB p)) = true := by rw [rowD_eqv, decide_eq_true rfl]
end
end Tw

set_option Elab.async false
set_option linter.all false
set_option maxRecDepth 100000
set_option maxHeartbeats 2000000
namespace Tw
open PySem PySem.Spec PyProof.Rows L2
section
variable {P : Program} {w : World} {K : PySem.W.Frag} {mg : Str → Option Value} {base : Heap} {A : Ad}
open LamX (ExtN Tabs TabS)
/-! few items: all orders; op_neD -/
def spLfr (A : Ad) : Sp := fun vs H Q _ => ∃ (n r : Nat), vs = [.int n, .int r] ∧ n ≤ 5 ∧ (1 ≤ r ∧ r ≤ 12) ∧ Tabs (TT A) H ∧ ∀ H', ExtN H H' → Tabs (TT A) H' → Q (.bl true) H'
theorem row_of_tup {H : Hp} {t : Addr} {p : List Nat} (e : H t = some (.tup (nv p))) : H t = some (.tup ((natB p).map V.int)) := by
  exact e
theorem ok_lfr (T : Tx K mg A) (TB : LamX.TabB base mg A.c_least_child A.P_least_child) : FnOk P w K mg base CX0 14 A.f__law_few_right A.d__law_few_right ["many", "room"] (spLfr A) := by
  refine T.F__law_few_right.ok sc__law_few_right (fun vs H Q E h => ?_) (fun cdv B outer s H vs Q E hr h => ?_)
  · obtain ⟨n, r, rfl, _⟩ := h
    rfl
  · obtain ⟨n, r, rfl, hn, hrr, hT, q⟩ := h
    have nd := sc__law_few_right.nd
    have hu : (B.deeper (envOfC "_law_few_right" (defScope s__law_few_right) s.heap.objs.size A.f__law_few_right cdv)).units + 64 < cLine := by have := hr.units; omega
    refine ⟨_, PSs.nox (C8.pss_cut (ps_setLc (i := 2) (own := [("numbers", 7)]) (g := gName 7) (tt := tYes) rfl nd rfl rfl (sw_true rfl rfl rfl (by decide +kernel)) (pi_list (pe_call (ok_lk T) (hr.mono (by decide)) (by rfl) T.m__law_codes T.F__law_codes.kp (b_lk T) .nil pass0 (pa_cons (pv 0) pa_nil))) (blkOk_by (own := [("numbers", 7)]) (N := ["many", "room", "rows", "number", "row", "some", "index", "numbers"]) (sc := defScope s__law_few_right) (by decide +kernel)) (fun _ _ _ _ _ => pg_name (i := 7) nd rfl (Or.inl rfl)) (fun _ _ _ _ _ => pts_nil) (fun _ _ _ _ _ => (pe_call (ok_ob T) (hr.mono (by decide)) (by rfl) T.m_order_by T.F_order_by.kp (b_ob T) .nil pass0 (pa_cons (pv 7) pa_nil))))
      (C8.pss_cut (ps_for PassesOwn.never rfl (pi_range1 rfl T.g_range (pa_cons (pe_op op_add (pv 0) pe_int) pa_nil)) (pg_name (i := 3) nd rfl (Or.inr rfl)) (pss_cons (ps_setLc (i := 5) (own := [("row", 4)]) (g := gName 4) rfl nd rfl rfl (sw_true rfl rfl rfl (by decide +kernel)) (pi_list (pv 2)) (blkOk_by (own := [("row", 4)]) (N := ["many", "room", "rows", "number", "row", "some", "index", "numbers"]) (sc := defScope s__law_few_right) (by decide +kernel)) (fun _ _ _ _ _ => pg_name (i := 4) nd rfl (Or.inl rfl)) (fun _ _ _ _ _ => pts_one (pt_cmpR op_eq (pe_call (ok_len T) (hr.mono (by decide)) (by rfl) T.m__law_entered T.F__law_entered.kp (b_len T) .nil pass0 (pa_cons (pv 1) (pa_cons (pv 4) pa_nil))) (pv 3) (nomark _))) (fun _ _ _ _ _ => (pv 4)))
      (C8.pss_cut (ps_if (pt_cmpR op_ne (pe_call (ok_mo T) (hr.mono (by decide)) (by rfl) T.m_many_orders T.F_many_orders.kp (b_mo T) .nil pass0 (pa_cons (pv 0) (pa_cons (pv 1) (pa_cons (pv 3) pa_nil)))) (pe_callB (r := rLn K) call_len_seq (by rfl) T.g_len PySem.boot_len (pa_cons (pv 5) pa_nil)) (nomark _)) (pss_one (ps_ret pe_bl)) pss_nil)
      (pss_one (ps_for PassesOwn.never rfl (pi_enS (by rfl) T.g_enumerate (pa_cons (pv 5) pa_nil)) (pg_tup rfl (pgs_cons (pg_name (i := 6) nd rfl (Or.inl rfl)) (pgs_cons (pg_name (i := 4) nd rfl (Or.inl rfl)) pgs_nil))) (C8.pss_cut (ps_if (PW.pt (pw_or (pt_cmpR (op_neD hu) (pe_call (ok_oa T) (hr.mono (by decide)) (by rfl) T.m_order_at T.F_order_at.kp (b_oa T) .nil pass0 (pa_cons (pv 0) (pa_cons (pv 1) (pa_cons (pv 3) (pa_cons (pv 6) pa_nil))))) (pv 4) (nomark _)) (pw_or1 (pt_cmpR op_ne (pe_call (ok_oi T) (hr.mono (by decide)) (by rfl) T.m_order_index T.F_order_index.kp (b_oi T) .nil pass0 (pa_cons (pv 1) (pa_cons (pv 4) pa_nil))) (pv 6) (nomark _))))) (pss_one (ps_ret pe_bl)) pss_nil)
      (pss_one (ps_if (PW.pt (pw_or (pt_cmpR op_ne (pe_call (ok_oi T) (hr.mono (by decide)) (by rfl) T.m_order_index T.F_order_index.kp (b_oi T) .nil pass0 (pa_cons (pv 1) (pa_cons (pe_callTy (r := rListK K) call_listK (by rfl) T.g_list (by decide +kernel) (pa_cons (pv 4) pa_nil)) pa_nil))) (pv 6) (nomark _)) (pw_or1 (pt_cmpR op_ne (pe_call (ok_chg T TB) (hr.mono (by decide)) (by rfl) T.m_changes T.F_changes.kp (b_chg T) .nil pass0 (pa_cons (pv 1) (pa_cons (pv 4) pa_nil))) (pv 3) (nomark _))))) (pss_one (ps_ret pe_bl)) pss_nil))))))))
      (pss_one (ps_ret pe_bl)))), ?_⟩
    refine ⟨fun σ' H' => ∃ (q2 : Addr) (xs : List V) (x7 : Option V), σ' = [some (.int n), some (.int r), some (.ref q2), none, none, none, none, x7] ∧ ExtN H H' ∧ Tabs (TT A) H' ∧ H' q2 = some (.lst xs) ∧ NRows H' xs ((codsL n).map orderL), ?_, ?_⟩
    · refine ⟨_, rfl, n, rfl, hn, fun H4 q1 xs s4 n4 e4 r4 => ?_⟩
      refine ⟨q1, rfl, ⟨_, SqL.of e4⟩, fun D nD => ?_⟩
      have hxl : xs.length = (codsL n).length := by
        have := Paired.length r4
        rw [List.length_map] at this
        exact this
      have hcl := cods_len n hn
      refine lc_it (walk_list (xs := xs)) (fun j H' => AccR H4 D ((((codsL n).take j).map orderL).map natB) H') (AccR.start nD) (fun j H' _ ac => SqL.of (ac.s _ _ e4)) ?_ ?_
      · rintro j y H5 H6 hj ac ⟨rfl, hy⟩
        obtain ⟨hj2, t, rfl, et⟩ := r4.get hy
        obtain ⟨hl, hb⟩ := cods_ok n _ (List.getElem_mem hj2)
        refine ⟨rfl, iteT (B := AccR H4 D ((((codsL n).take (j + 1)).map orderL).map natB) H6) ?_⟩
        refine ⟨_, rfl, t, (codsL n)[j], rfl, .inr (ac.s _ _ et), by omega, hb, fun H7 u s7 eu => ?_⟩
        obtain ⟨acc, a1, a2, a3⟩ := (ac.same s7).push (x := .ref u) (l := natB (orderL (codsL n)[j])) ⟨u, rfl, eu⟩ (small1000 (by rw [List.length_map, List.length_map, List.length_take]; omega))
        refine ⟨acc, a1, a2, ?_⟩
        rw [← List.take_append_getElem hj2, List.map_append, List.map_append]
        exact a3
      · intro H5 ac
        rw [hxl, List.take_length] at ac
        obtain ⟨ys, ey, ry⟩ := ac.a
        exact ⟨D, ys, none, rfl, extN_of (s4.trans ac.s), hT.ext (s4.trans ac.s), ey, ry⟩
    rintro σ' H1 ⟨q2, xs, x7, rfl, x1, tt1, e2, rr⟩
    have hcl := cods_len n hn
    have hxl : xs.length = (codsL n).length := by
      have := Paired.length rr
      rw [List.length_map, List.length_map] at this
      exact this
    refine ⟨fun σ' H' => ExtN H H' ∧ Tabs (TT A) H', ?_, fun σ' H2 ⟨x2, tt2⟩ => q H2 x2 tt2⟩
    refine ⟨_, rfl, _, _, rfl, rfl, ((n + 1 : Nat) : Int), congrArg (fun z => [V.int z]) (by show (n : Int) + 1 = _; omega), by omega, by omega, ?_⟩
    rw [show (((n + 1 : Nat) : Int)).toNat = n + 1 from rfl]
    refine for_it (walk_range (lo := 0) (n := n + 1)) (fun i σ' H' => ∃ (x3 x4 x5 x6 x7 : Option V), σ' = [some (.int n), some (.int r), some (.ref q2), x3, x4, x5, x6, x7] ∧ ExtN H1 H' ∧ Tabs (TT A) H')
      ⟨none, none, none, none, x7, rfl, ExtN.refl _, tt1⟩ (fun _ _ _ _ _ => trivial) ?_ (fun σ' H' ⟨_, _, _, _, _, _, y1, y2⟩ => ⟨x1.trans y1, y2⟩)
    rintro j y σ' Ho H2 hj ⟨x3, x4, x5, x6, x7, rfl, x2, tt2⟩ ⟨rfl, ey⟩
    obtain rfl : y = V.int (j : Nat) := by
      rw [ey]
      show V.int (0 + (j : Int)) = _
      rw [Int.zero_add]
    have e22 := x2 _ _ e2 (fun _ z => nomatch z)
    have hsl : (sufS r 0 n j).length ≤ 120 := by
      rw [← cods_cnt]
      exact Nat.le_trans (List.length_filter_le _ _) hcl
    refine ⟨_, rfl, q2, rfl, ⟨_, SqL.of e22⟩, fun D nD => ?_⟩
    refine lc_it (walk_list (xs := xs)) (fun g H' => AccR H2 D (((((codsL n).take g).filter fun s => decide (cntW r s = j)).map orderL).map natB) H') (AccR.start nD) (fun g H' _ ac => SqL.of (ac.s _ _ e22)) ?_ ?_
    · rintro g y H5 H6 hg ac ⟨rfl, hy⟩
      obtain ⟨hg2, t, rfl, et⟩ := rr.get hy
      rw [List.length_map] at hg2
      obtain ⟨hl, hb⟩ := cods_ok n _ (List.getElem_mem hg2)
      rw [List.getElem_map] at et
      generalize hcc : (codsL n)[g] = c at et hl hb
      obtain ⟨co1, co2⟩ := code_order hb
      have et5 := ac.s _ _ (x2 _ _ et (fun _ z => nomatch z))
      have hpl : (orderL c).length = n := by rw [orderL_len, hl]
      have htake : (codsL n).take (g + 1) = (codsL n).take g ++ [c] := by rw [List.take_succ_eq_append_getElem hg2, hcc]
      refine ⟨rfl, _, rfl, _, rfl, r, t, orderL c, rfl, hrr, et5, by omega, by rw [hpl]; rw [hl] at co2; exact co2, fun H7 s7 => ?_⟩
      rw [co1]
      refine ⟨_, rfl, rfl, _, rfl, ?_⟩
      by_cases hcj : cntW r c = j
      · refine ite_b (c := true) (decide_eq_true (by rw [hcj])) (iteT (B := AccR H2 D (((((codsL n).take (g + 1)).filter fun s => decide (cntW r s = j)).map orderL).map natB) H7) ?_)
        obtain ⟨acc, a1, a2, a3⟩ := (ac.same s7).push (x := .ref t) (l := natB (orderL c)) ⟨t, rfl, s7 _ _ et5⟩ (small1000 (by rw [List.length_map, List.length_map]; have := List.length_filter_le (fun s => decide (cntW r s = j)) ((codsL n).take g); rw [List.length_take] at this; omega))
        refine ⟨_, rfl, acc, a1, a2, ?_⟩
        rw [htake, List.filter_append, List.filter_cons, if_pos (decide_eq_true hcj), List.filter_nil, List.map_append, List.map_append]
        exact a3
      · refine ite_b (c := false) (decide_eq_false (fun z => hcj (by injection z with z; omega))) (iteF ?_)
        rw [htake, List.filter_append, List.filter_cons, if_neg (fun z => hcj (of_decide_eq_true z)), List.filter_nil, List.append_nil]
        exact ac.same s7
    intro H3 ac
    rw [hxl, List.take_length, cods_cnt] at ac
    obtain ⟨ys, e5, r5⟩ := ac.a
    have s3 := ac.s
    have r5 : NRows H3 ys ((sufS r 0 n j).map orderL) := r5
    have hyl : ys.length = (sufS r 0 n j).length := by
      have := Paired.length r5
      rw [List.length_map, List.length_map] at this
      exact this
    have x3e := x2.trans (extN_of s3)
    have tt3 := tt2.ext s3
    refine ⟨fun σ' H' => σ' = [some (.int n), some (.int r), some (.ref q2), some (.int (j : Nat)), x4, some (.ref D), x6, x7] ∧ Same H3 H', ?_, ?_⟩
    · refine ⟨_, rfl, _, rfl, _, rfl, n, r, j, rfl, by omega, hrr, by omega, fun H4 s4 => ?_⟩
      refine ⟨_, rfl, D, ys, rfl, .inl (SqL.of (s4 _ _ e5)), rfl, _, rfl, ?_⟩
      refine ite_b (c := false) ?_ (iteF ⟨rfl, s4⟩)
      rw [hyl, sufS_len, decide_eq_true rfl]
      rfl
    rintro σ' H4 ⟨rfl, s4⟩
    have x4e := x3e.trans (extN_of s4)
    have e54 := s4 _ _ e5
    refine ⟨_, rfl, D, ys, rfl, .inl ⟨SqL.of e54, ?_⟩⟩
    refine for_it (walk_enum (xs := ys)) (fun i σ' H' => ∃ (x4 x6 x7 : Option V), σ' = [some (.int n), some (.int r), some (.ref q2), some (.int (j : Nat)), x4, some (.ref D), x6, x7] ∧ ExtN H4 H' ∧ Tabs (TT A) H')
      ⟨x4, x6, x7, rfl, ExtN.refl _, tt3.ext s4⟩ (fun _ _ _ _ ⟨_, _, _, _, h, _⟩ => SqL.of (h _ _ e54 (fun _ z => nomatch z))) ?_ (fun σ' H' ⟨_, _, _, h1, h2, h3⟩ => ⟨_, _, _, _, _, h1, x4e.trans h2, h3⟩)
    rintro i v σ' H5 H6 hi ⟨x4, x6, x7, rfl, x5, tt5⟩ ⟨T', x, y, rfl, nT, rfl, ex, ey⟩
    have ey : ys[i]? = some y := ey
    cases ex
    obtain ⟨hi2, t, rfl, et⟩ := r5.get ey
    rw [List.length_map] at hi2
    rw [List.getElem_map] at et
    have hcd : (sufS r 0 n j)[i]? = some (sufS r 0 n j)[i] := List.getElem?_eq_getElem hi2
    generalize (sufS r 0 n j)[i] = cd at et hcd
    obtain ⟨m1, m2, m3⟩ := sufS_mem r n 0 j cd (List.mem_of_getElem? hcd)
    have m3 : ∀ (i x : Nat), cd[i]? = some x → x ≤ i := fun i x h => by have := m3 i x h; omega
    obtain ⟨co1, co2⟩ := code_order m3
    have hpl : (orderL cd).length = n := by rw [orderL_len, m1]
    have hpm : (orderL cd).Perm (List.range (orderL cd).length) := by rw [hpl]; rw [m1] at co2; exact co2
    refine ⟨_, _, rfl, SqT.of upd_same, rfl, ?_⟩
    have s6 : Same H5 (upd H5 T' (.tup [.int (i : Nat), .ref t])) := Same.up nT
    generalize upd H5 T' (.tup [.int (i : Nat), .ref t]) = H6 at s6
    have et6 := s6 _ _ (x5 _ _ (s4 _ _ et) (fun _ z => nomatch z))
    have tt6 := tt5.ext s6
    have x6e := x5.trans (extN_of s6)
    refine ⟨_, _, rfl, _, _, rfl, rfl, ?_⟩
    have ask : ∀ (H7 : Hp) (i' : Nat), (sufS r 0 (orderL cd).length (cntW r (codeL (orderL cd))))[i']? = some (codeL (orderL cd)) → i' = i := fun H7 i' h => by
      rw [co1, hpl, m2] at h
      exact lt_nd (sufS_asc r n 0 j) h hcd
    refine ⟨fun σ' H' => σ' = [some (.int n), some (.int r), some (.ref q2), some (.int (j : Nat)), some (.ref t), some (.ref D), some (.int (i : Nat)), x7] ∧ Same H6 H', ?_, ?_⟩
    · refine ⟨_, rfl, _, rfl, _, rfl, _, rfl, n, r, j, i, cd, rfl, by omega, hrr, by omega, hcd, fun H7 t2 s7 et2 => ?_⟩
      refine ⟨_, rfl, _, _, nv_tup K et2, nv_tup K (s7 _ _ et6), ints_shT _, ints_shT _, _, rfl, ?_⟩
      rw [rowD_same]
      refine iteF ?_
      refine ⟨_, rfl, _, rfl, r, t, orderL cd, rfl, hrr, .inr (s7 _ _ et6), by omega, hpm, fun H8 i' s8 hi' => ?_⟩
      refine ⟨_, rfl, rfl, _, rfl, ?_⟩
      rw [ask H8 i' hi', decide_eq_true rfl]
      exact iteF ⟨rfl, s7.trans s8⟩
    rintro σ' H7 ⟨rfl, s7⟩
    have et7 := s7 _ _ et6
    refine ⟨_, rfl, _, rfl, t, _, rfl, .inr (SqT.of et7), fun l nl => ?_⟩
    have s8 := Same.up (o := .lst (nv (orderL cd))) nl
    refine ⟨r, l, orderL cd, rfl, hrr, .inl upd_same, by omega, hpm, fun H9 i' s9 hi' => ?_⟩
    refine ⟨_, rfl, rfl, _, rfl, ?_⟩
    rw [ask H9 i' hi', decide_eq_true rfl]
    refine iteF ?_
    have et9 := s9 _ _ (s8 _ _ et7)
    have tt9 := ((tt6.ext s7).ext s8).ext s9
    have hb9 : ∀ z ∈ natB (orderL cd), -1000000000 ≤ z ∧ z ≤ 1000000000 := fun z hz => by
      obtain ⟨x, hx, rfl⟩ := List.mem_map.mp hz
      have := List.mem_range.mp (hpm.mem_iff.mp hx)
      have : (Int.ofNat x) = (x : Int) := rfl
      omega
    have hnl : (natB (orderL cd)).length = n := by unfold natB; rw [List.length_map, hpl]
    refine ⟨_, rfl, _, rfl, r, t, natB (orderL cd), rfl, hrr, ⟨.inr (row_of_tup et9), by omega, hb9⟩, tt9, fun H10 x10 tt10 => ?_⟩
    have hk := kp_ent (r := r) (w := 2) (by decide) hrr hpm (by omega) (orderL cd).length (Nat.le_refl _)
    have hk2 : (kpL r 2 (natB (orderL cd)) (natB (orderL cd)).length).2 = j := by
      rw [hnl, ← hpl, hk]
      unfold entN
      rw [← codeL_len, List.take_length, co1, m2]
    rw [hk2]
    refine ⟨_, rfl, rfl, _, rfl, ?_⟩
    rw [decide_eq_true rfl]
    exact iteF ⟨_, _, _, rfl, ((x6e.trans (extN_of s7)).trans (extN_of (s8.trans s9))).trans x10, tt10⟩
theorem b_lfr (T : Tx K mg A) : L2.Binds K A.d__law_few_right ["many", "room"] [] := T.F__law_few_right.binds fun _ _ _ _ _ _ us hl => match us, hl with | [_, _], _ => rfl
/-! the law: op_gtT -/
theorem lsD_same (l : List Int) : PyData.eqv (.list (l.map PyData.int)) (.list (l.map PyData.int)) = true := by
  have := rowD_eqv l l
  rw [decide_eq_true rfl] at this
  simpa [PyData.eqv, rowD] using this
theorem gt_code : ∀ {a b : List Nat}, a.length = b.length → a < b → gtB (natB b) (natB a) = true := by
  have key : ∀ (a b pa pb : List Nat), pa.length = pb.length → a.length = b.length → a < b →
      Ob.lexAt (fun j => decide ((natB (pb ++ b)).getD j 0 = (natB (pa ++ a)).getD j 0)) (fun j => decide ((natB (pa ++ a)).getD j 0 < (natB (pb ++ b)).getD j 0)) false pa.length b.length = true := by
    intro a
    induction a with
    | nil =>
      intro b pa pb _ hl h
      match b, hl with
      | [], _ => exact absurd h (List.lt_irrefl _)
    | cons x a ih =>
      intro b pa pb hp hl h
      match b, hl with
      | y :: b, hl =>
        have ga : (natB (pa ++ x :: a)).getD pa.length 0 = (x : Int) := by
          unfold natB
          rw [List.getD_eq_getElem?_getD, List.getElem?_map, List.getElem?_append_right (Nat.le_refl _), Nat.sub_self]
          rfl
        have gb : (natB (pb ++ y :: b)).getD pa.length 0 = (y : Int) := by
          unfold natB
          rw [hp, List.getD_eq_getElem?_getD, List.getElem?_map, List.getElem?_append_right (Nat.le_refl _), Nat.sub_self]
          rfl
        rw [List.length_cons, Ob.lexAt_succ]
        rcases List.cons_lt_cons_iff.mp h with hlt | ⟨rfl, hlt⟩
        · rw [if_neg (by rw [decide_eq_true_eq, ga, gb]; omega)]
          rw [decide_eq_true_eq, ga, gb]
          omega
        · rw [if_pos (by rw [decide_eq_true_eq, ga, gb])]
          have := ih b (pa ++ [x]) (pb ++ [x]) (by rw [List.length_append, List.length_append, hp]) (by simpa using hl) hlt
          rw [List.append_assoc, List.append_assoc, List.length_append] at this
          exact this
  intro a b hl h
  have := key a b [] [] rfl hl h
  unfold gtB
  have l1 : (natB a).length = a.length := by unfold natB; rw [List.length_map]
  have l2 : (natB b).length = b.length := by unfold natB; rw [List.length_map]
  rw [l1, l2, hl, Nat.min_self]
  rw [decide_eq_false (Nat.lt_irrefl _)]
  exact this
def spLaw (K : PySem.W.Frag) (A : Ad) : Sp := fun vs H Q _ => ∃ (a : Addr) (ns : List Int), vs = [.ref a] ∧ SqL K H a (ns.map V.int) ∧ ns.length ≤ 63 ∧ Tabs (TT A) H ∧ ∀ H', Q (.bl true) H'
theorem ok_law (T : Tx K mg A) (TB : LamX.TabB base mg A.c_least_child A.P_least_child) : FnOk P w K mg base CX0 16 A.f_law A.d_law ["script"] (spLaw K A) := by
  refine T.F_law.ok sc_law (fun vs H Q E h => ?_) (fun cdv B outer s H vs Q E hr h => ?_)
  · obtain ⟨a, ns, rfl, _⟩ := h
    rfl
  · obtain ⟨a, ns, rfl, ha, h63, hT, q⟩ := h
    have nd := sc_law.nd
    have hu := hr.units
    have hu0 : (B.deeper (envOfC "law" (defScope s_law) s.heap.objs.size A.f_law cdv)).units < cLine := by omega
    refine ⟨_, PSs.nox (C8.pss_cut (ps_set (i := 1) nd rfl (Or.inl rfl) (pe_callTy call_int1 (by rfl) T.g_int (by decide +kernel) (pa_cons (pe_call (ok_num T) (hr.mono (by decide)) (by rfl) T.m__law_number T.F__law_number.kp (b_num T) .nil pass0 (pa_cons (pv 0) (pa_cons pe_int pa_nil))) pa_nil)))
      (C8.pss_cut (ps_asg (pe_tup (pa_cons (pe_op op_add pe_int (pe_op op_mod (pe_callTy call_int1 (by rfl) T.g_int (by decide +kernel) (pa_cons (pv 1) pa_nil)) pe_int)) (pa_cons (pe_op op_mod (pe_callTy call_int1 (by rfl) T.g_int (by decide +kernel) (pa_cons (pe_op op_fdiv (pv 1) pe_int) pa_nil)) pe_int) pa_nil))) (pg_tup rfl (pgs_cons (pg_name (i := 2) nd rfl (Or.inr rfl)) (pgs_cons (pg_name (i := 3) nd rfl (Or.inr rfl)) pgs_nil))))
      (C8.pss_cut (ps_if (pt_not (pt_val (pe_call (ok_lfr T TB) (hr.mono (by decide)) (by rfl) T.m__law_few_right T.F__law_few_right.kp (b_lfr T) .nil pass0 (pa_cons (pv 3) (pa_cons (pv 2) pa_nil))))) (pss_one (ps_ret pe_bl)) pss_nil)
      (C8.pss_cut (ps_asg (pe_tup (pa_cons (pe_op op_add pe_int (pe_op op_mod (pe_callTy call_int1 (by rfl) T.g_int (by decide +kernel) (pa_cons (pe_op op_fdiv (pv 1) pe_int) pa_nil)) pe_int)) (pa_cons (pe_op op_mod (pe_callTy call_int1 (by rfl) T.g_int (by decide +kernel) (pa_cons (pe_op op_fdiv (pv 1) pe_int) pa_nil)) pe_int) pa_nil))) (pg_tup rfl (pgs_cons (pg_name (i := 2) nd rfl (Or.inr rfl)) (pgs_cons (pg_name (i := 3) nd rfl (Or.inr rfl)) pgs_nil))))
      (C8.pss_cut (ps_set (i := 4) nd rfl (Or.inl rfl) (pe_call (ok_lpr T) (hr.mono (by decide)) (by rfl) T.m__law_product T.F__law_product.kp (b_lpr T) .nil pass0 (pa_cons (pv 3) (pa_cons (pv 2) pa_nil))))
      (C8.pss_cut (ps_if (pt_cmpR (op_neD hu) (pe_lc (own := [("number", 5)]) (g := gName 5) (tt := tYes) rfl nd (pi_range1 rfl T.g_range (pa_cons (pe_op op_add (pv 3) pe_int) pa_nil)) (blkOk_by (own := [("number", 5)]) (N := ["script", "seed", "room", "many", "due", "number", "index", "row"]) (sc := defScope s_law) (by decide +kernel)) (fun _ _ _ _ _ => pg_name (i := 5) nd rfl (Or.inl rfl)) (fun _ _ _ _ _ => pts_nil) (fun _ _ _ _ _ => (pe_call (ok_mo T) (hr.mono (by decide)) (by rfl) T.m_many_orders T.F_many_orders.kp (b_mo T) .nil pass0 (pa_cons (pv 3) (pa_cons (pv 2) (pa_cons (pv 5) pa_nil)))))) (pv 4) (nomark _)) (pss_one (ps_ret pe_bl)) pss_nil)
      (C8.pss_cut (ps_set (i := 5) nd rfl (Or.inl rfl) (pe_op op_mod (pe_callTy call_int1 (by rfl) T.g_int (by decide +kernel) (pa_cons (pe_call (ok_num T) (hr.mono (by decide)) (by rfl) T.m__law_number T.F__law_number.kp (b_num T) .nil pass0 (pa_cons (pv 0) (pa_cons pe_int pa_nil))) pa_nil)) (pe_op op_add (pv 3) pe_int)))
      (C8.pss_cut (ps_if (pt_cmpR op_eq (pe_ix (r := rIxL K) ix_list (pv 4) (pv 5) (fun _ _ => rfl)) pe_int (nomark _)) (pss_one (ps_ret pe_bl)) pss_nil)
      (C8.pss_cut (ps_set (i := 6) nd rfl (Or.inl rfl) (pe_op op_mod (pe_callTy call_int1 (by rfl) T.g_int (by decide +kernel) (pa_cons (pe_call (ok_num T) (hr.mono (by decide)) (by rfl) T.m__law_number T.F__law_number.kp (b_num T) .nil pass0 (pa_cons (pv 0) (pa_cons pe_int pa_nil))) pa_nil)) (pe_ix (r := rIxL K) ix_list (pv 4) (pv 5) (fun _ _ => rfl))))
      (pss_cons (ps_set (i := 7) nd rfl (Or.inl rfl) (pe_call (ok_oa T) (hr.mono (by decide)) (by rfl) T.m_order_at T.F_order_at.kp (b_oa T) .nil pass0 (pa_cons (pv 3) (pa_cons (pv 2) (pa_cons (pv 5) (pa_cons (pv 6) pa_nil))))))
      (C8.pss_cut (ps_if (PW.pt (pw_or (pt_cmpR op_ne (pe_call (ok_len T) (hr.mono (by decide)) (by rfl) T.m__law_entered T.F__law_entered.kp (b_len T) .nil pass0 (pa_cons (pv 2) (pa_cons (pv 7) pa_nil))) (pv 5) (nomark _)) (pw_or (pt_cmpR op_ne (pe_call (ok_oi T) (hr.mono (by decide)) (by rfl) T.m_order_index T.F_order_index.kp (b_oi T) .nil pass0 (pa_cons (pv 2) (pa_cons (pv 7) pa_nil))) (pv 6) (nomark _)) (pw_or1 (pt_cmpR op_ne (pe_call (ok_chg T TB) (hr.mono (by decide)) (by rfl) T.m_changes T.F_changes.kp (b_chg T) .nil pass0 (pa_cons (pv 2) (pa_cons (pv 7) pa_nil))) (pv 5) (nomark _)))))) (pss_one (ps_ret pe_bl)) pss_nil)
      (C8.pss_cut (ps_if (pt_cmpR op_lt (pe_op op_add (pv 6) pe_int) (pe_ix (r := rIxL K) ix_list (pv 4) (pv 5) (fun _ _ => rfl)) (nomark _)) (pss_one (ps_ret (pe_cmpR (op_gtT hu0) (pe_call (ok_oc T) (hr.mono (by decide)) (by rfl) T.m_order_code T.F_order_code.kp (b_oc T) .nil pass0 (pa_cons (pe_call (ok_oa T) (hr.mono (by decide)) (by rfl) T.m_order_at T.F_order_at.kp (b_oa T) .nil pass0 (pa_cons (pv 3) (pa_cons (pv 2) (pa_cons (pv 5) (pa_cons (pe_op op_add (pv 6) pe_int) pa_nil))))) pa_nil)) (pe_call (ok_oc T) (hr.mono (by decide)) (by rfl) T.m_order_code T.F_order_code.kp (b_oc T) .nil pass0 (pa_cons (pv 7) pa_nil)) (nomark _)))) pss_nil)
      (pss_one (ps_ret (pe_or (pe_cmpR (op_eqD hu) (pe_call (ok_oa T) (hr.mono (by decide)) (by rfl) T.m_order_at T.F_order_at.kp (b_oa T) .nil pass0 (pa_cons (pv 3) (pa_cons (pv 2) (pa_cons (pv 5) (pa_cons pe_int pa_nil))))) (pv 7) (nomark _)) (pe_one (pe_cmpR op_gt (pe_ix (r := rIxL K) ix_list (pv 4) (pv 5) (fun _ _ => rfl)) pe_int (nomark _)))))))))))))))))), ?_⟩
    have hm : ∀ (z : Int) (m : Nat), 0 < m → ∃ n : Nat, z % (m : Nat) = (n : Int) ∧ n < m := fun z m hm => by
      have a0 := Int.emod_nonneg z (show ((m : Nat) : Int) ≠ 0 by omega)
      have a1 := Int.emod_lt_of_pos z (show (0 : Int) < (m : Nat) by omega)
      exact ⟨(z % (m : Nat)).toNat, (Int.toNat_of_nonneg a0).symm, by omega⟩
    refine ⟨fun σ' H' => ∃ z : Int, σ' = [some (.ref a), some (.int z), none, none, none, none, none, none] ∧ Same H H', ?_, ?_⟩
    · exact ⟨_, rfl, a, ns, 0, rfl, ha, h63, by omega, fun H1 r1 s1 => .inl ⟨_, rfl, r1, rfl, s1⟩⟩
    rintro σ' H1 ⟨z, rfl, s1⟩
    refine ⟨fun σ' H' => ∃ (r n : Nat), σ' = [some (.ref a), some (.int z), some (.int r), some (.int n), none, none, none, none] ∧ Same H H' ∧ (1 ≤ r ∧ r ≤ 12) ∧ n ≤ 5, ?_, ?_⟩
    · obtain ⟨n1, e1, b1⟩ := hm z 4 (by decide)
      obtain ⟨n2, e2, b2⟩ := hm (z / 4) 6 (by decide)
      refine ⟨_, rfl, .inl ⟨_, rfl, _, _, rfl, rfl, by show (0 : Int) < 4; decide, _, _, rfl, rfl, _, rfl, _, _, rfl, rfl, ⟨by decide, by decide⟩, .inl ⟨_, rfl, _, _, rfl, rfl, by show (0 : Int) < 6; decide, by show 2 ≤ sizeLine; decide, fun u nu => ?_⟩⟩⟩
      refine ⟨_, _, rfl, SqT.of upd_same, rfl, _, _, rfl, _, _, rfl, rfl, ?_⟩
      refine ⟨1 + n1, n2, ?_, s1.trans (Same.up nu), by omega, by omega⟩
      show [some (V.ref a), some (V.int z), some (V.int (1 + z % 4)), some (V.int (z / 4 % 6)), none, none, none, none] = _
      rw [show (1 : Int) + z % 4 = ((1 + n1 : Nat) : Int) by have : z % 4 = (n1 : Int) := e1; omega, show z / 4 % 6 = (n2 : Int) from e2]
    rintro σ' H2 ⟨r, n, rfl, s2, hr1, hn1⟩
    refine ⟨fun σ' H' => σ' = [some (.ref a), some (.int z), some (.int r), some (.int n), none, none, none, none] ∧ ExtN H H' ∧ Tabs (TT A) H', ?_, ?_⟩
    · refine ⟨_, rfl, _, rfl, n, r, rfl, hn1, hr1, hT.ext s2, fun H3 x3 tt3 => ⟨_, rfl, iteF ⟨rfl, (extN_of s2).trans x3, tt3⟩⟩⟩
    rintro σ' H3 ⟨rfl, x3, tt3⟩
    refine ⟨fun σ' H' => ∃ (r n : Nat), σ' = [some (.ref a), some (.int z), some (.int r), some (.int n), none, none, none, none] ∧ ExtN H H' ∧ Tabs (TT A) H' ∧ (1 ≤ r ∧ r ≤ 12) ∧ n ≤ 12, ?_, ?_⟩
    · obtain ⟨n1, e1, b1⟩ := hm (z / 24) 12 (by decide)
      obtain ⟨n2, e2, b2⟩ := hm (z / 288) 13 (by decide)
      refine ⟨_, rfl, _, _, rfl, rfl, ⟨by decide, by decide⟩, .inl ⟨_, rfl, _, _, rfl, rfl, by show (0 : Int) < 12; decide, _, _, rfl, rfl, _, rfl, _, _, rfl, rfl, ⟨by decide, by decide⟩, .inl ⟨_, rfl, _, _, rfl, rfl, by show (0 : Int) < 13; decide, by show 2 ≤ sizeLine; decide, fun u nu => ?_⟩⟩⟩
      refine ⟨_, _, rfl, SqT.of upd_same, rfl, _, _, rfl, _, _, rfl, rfl, ?_⟩
      refine ⟨1 + n1, n2, ?_, x3.trans (extN_of (Same.up nu)), tt3.ext (Same.up nu), by omega, by omega⟩
      show [some (V.ref a), some (V.int z), some (V.int (1 + z / 24 % 12)), some (V.int (z / 288 % 13)), none, none, none, none] = _
      rw [show (1 : Int) + z / 24 % 12 = ((1 + n1 : Nat) : Int) by have : z / 24 % 12 = (n1 : Int) := e1; omega, show z / 288 % 13 = (n2 : Int) from e2]
    rintro σ' H4 ⟨r, n, rfl, x4, tt4, hrr, hn⟩
    have ha4 : SqL K H4 a (ns.map V.int) := by
      rcases ha with (h | ⟨o, h⟩) | h
      · exact .inl (.inl (x4 _ _ h (fun _ z => nomatch z)))
      · exact .inl (.inr ⟨o, x4 _ _ h (fun _ z => nomatch z)⟩)
      · exact .inr h
    refine ⟨fun σ' H' => ∃ d : Addr, σ' = [some (.ref a), some (.int z), some (.int r), some (.int n), some (.ref d), none, none, none] ∧ Same H4 H' ∧ H' d = some (.lst (lstN (endE r 0 n) (n + 1))), ?_, ?_⟩
    · exact ⟨_, rfl, _, rfl, n, r, rfl, hn, hrr, fun H5 d s5 _ e5 => ⟨d, rfl, s5, e5⟩⟩
    rintro σ' H5 ⟨d, rfl, s5, e5⟩
    refine ⟨fun σ' H' => σ' = [some (.ref a), some (.int z), some (.int r), some (.int n), some (.ref d), none, none, none] ∧ Same H5 H', ?_, ?_⟩
    · refine ⟨_, rfl, _, _, rfl, rfl, ((n + 1 : Nat) : Int), congrArg (fun z => [V.int z]) (by show (n : Int) + 1 = _; omega), by omega, by omega, fun D nD => ?_⟩
      rw [show (((n + 1 : Nat) : Int)).toNat = n + 1 from rfl]
      refine lc_it (walk_range (lo := 0) (n := n + 1)) (fun i H' => Acc H5 D (lstN (endE r 0 n) i) H') (Acc.start nD) (fun _ _ _ _ => trivial) ?_ ?_
      · rintro i y Ho H6 hi ac ⟨rfl, ey⟩
        obtain rfl : y = V.int (i : Nat) := by
          rw [ey]
          show V.int (0 + (i : Int)) = _
          rw [Int.zero_add]
        refine ⟨rfl, iteT (B := Acc H5 D (lstN (endE r 0 n) (i + 1)) H6) ?_⟩
        refine ⟨_, rfl, _, rfl, _, rfl, n, r, i, rfl, hn, hrr, by omega, fun H7 s7 => ⟨_, (ac.same s7).a, small1000 (by rw [lstN_len]; omega), ?_⟩⟩
        have e : lstN (endE r 0 n) (i + 1) = lstN (endE r 0 n) i ++ [V.int (endE r 0 n i : Nat)] := by
          unfold lstN
          rw [List.range_succ, List.map_append, List.map_singleton]
        rw [e]
        exact (ac.same s7).push
      · intro H6 ac
        have e : lstN (endE r 0 n) (n + 1) = ((List.range (n + 1)).map fun c => ((endE r 0 n c : Nat) : Int)).map V.int := by
          unfold lstN
          rw [List.map_map]
          rfl
        have e6 := ac.a
        have e56 := ac.s _ _ e5
        rw [e] at e6 e56
        refine ⟨_, rfl, _, _, .lst (SqL.of e6) (ints_dp K _ _), .lst (SqL.of e56) (ints_dp K _ _), shaped_ints _, shaped_ints _, _, rfl, ?_⟩
        rw [lsD_same]
        exact iteF ⟨rfl, ac.s⟩
    rintro σ' H6 ⟨rfl, s6⟩
    have s46 := s5.trans s6
    have e6 := s6 _ _ e5
    have hN : ∀ (c : Nat), c ≤ n → atI (lstN (endE r 0 n) (n + 1)) (c : Nat) = some (V.int (endE r 0 n c : Nat)) := fun c hc => atI_nat (lstN_at _ (by omega))
    refine ⟨fun σ' H' => ∃ c : Nat, σ' = [some (.ref a), some (.int z), some (.int r), some (.int n), some (.ref d), some (.int c), none, none] ∧ Same H6 H' ∧ c ≤ n, ?_, ?_⟩
    · refine ⟨_, rfl, a, ns, 1, rfl, s46.seq ha4, h63, by omega, fun H7 z1 s7 => .inl ⟨_, rfl, _, rfl, _, _, rfl, rfl, _, _, rfl, rfl, by omega, ?_⟩⟩
      obtain ⟨c, e1, b1⟩ := hm z1 (n + 1) (by omega)
      refine ⟨c, ?_, s7, by omega⟩
      show [some (V.ref a), some (V.int z), some (V.int r), some (V.int n), some (V.ref d), some (V.int (z1 % ((n : Int) + 1))), none, none] = _
      rw [show z1 % ((n : Int) + 1) = (c : Int) from e1]
    rintro σ' H7 ⟨c, rfl, s7, hcn⟩
    have e7 := s7 _ _ e6
    refine ⟨fun σ' H' => σ' = [some (.ref a), some (.int z), some (.int r), some (.int n), some (.ref d), some (.int c), none, none] ∧ H' = H7 ∧ 0 < endE r 0 n c, ?_, ?_⟩
    · refine ⟨_, rfl, _, rfl, d, _, _, _, rfl, rfl, SqL.of e7, hN c hcn, rfl, _, rfl, ?_⟩
      by_cases h0 : endE r 0 n c = 0
      · exact ite_b (c := true) (decide_eq_true (by rw [h0]; rfl)) (iteT (q H7))
      · exact ite_b (c := false) (decide_eq_false (fun z => h0 (by injection z with z; omega))) (iteF ⟨rfl, rfl, by omega⟩)
    rintro σ' H7 ⟨rfl, rfl, hpos⟩
    refine ⟨fun σ' H' => ∃ i : Nat, σ' = [some (.ref a), some (.int z), some (.int r), some (.int n), some (.ref d), some (.int c), some (.int i), none] ∧ Same H7 H' ∧ i < endE r 0 n c, ?_, ?_⟩
    · refine ⟨_, rfl, a, ns, 2, rfl, (s46.trans s7).seq ha4, h63, by omega, fun H8 z2 s8 => .inl ⟨_, rfl, _, rfl, _, rfl, d, _, _, _, rfl, rfl, SqL.of (s8 _ _ e7), hN c hcn, _, _, rfl, rfl, by omega, ?_⟩⟩
      obtain ⟨i, e1, b1⟩ := hm z2 (endE r 0 n c) hpos
      refine ⟨i, ?_, s8, b1⟩
      show [some (V.ref a), some (V.int z), some (V.int r), some (V.int n), some (V.ref d), some (V.int c), some (V.int (z2 % ((endE r 0 n c : Nat) : Int))), none] = _
      rw [e1]
    rintro σ' H8 ⟨i, rfl, s8, hi⟩
    have hlen : (sufS r 0 n c).length = endE r 0 n c := sufS_len r n 0 c
    obtain ⟨cd, hcd⟩ : ∃ cd, (sufS r 0 n c)[i]? = some cd := ⟨_, List.getElem?_eq_getElem (by omega)⟩
    have facts : ∀ (i : Nat) (cd : List Nat), (sufS r 0 n c)[i]? = some cd → cd.length = n ∧ cntW r cd = c ∧ (∀ (i x : Nat), cd[i]? = some x → x ≤ i) ∧ codeL (orderL cd) = cd ∧ (orderL cd).length = n ∧ (orderL cd).Perm (List.range (orderL cd).length) := fun i cd hcd => by
      obtain ⟨m1, m2, m3⟩ := sufS_mem r n 0 c cd (List.mem_of_getElem? hcd)
      have m3 : ∀ (i x : Nat), cd[i]? = some x → x ≤ i := fun i x h => by have := m3 i x h; omega
      obtain ⟨co1, co2⟩ := code_order m3
      have hpl : (orderL cd).length = n := by rw [orderL_len, m1]
      exact ⟨m1, m2, m3, co1, hpl, by rw [hpl]; rw [m1] at co2; exact co2⟩
    obtain ⟨m1, m2, m3, co1, hpl, hpm⟩ := facts i cd hcd
    refine ⟨_, rfl, _, rfl, _, rfl, _, rfl, n, r, c, i, cd, rfl, hn, hrr, hcn, hcd, fun H9 t s9 et => ?_⟩
    have s49 := (s46.trans s7).trans (s8.trans s9)
    have tt9 := tt4.ext s49
    have e9 := s9 _ _ (s8 _ _ e7)
    refine ⟨fun σ' H' => σ' = [some (.ref a), some (.int z), some (.int r), some (.int n), some (.ref d), some (.int c), some (.int i), some (.ref t)] ∧ ExtN H9 H', ?_, ?_⟩
    · refine ⟨_, rfl, _, rfl, r, t, orderL cd, rfl, hrr, et, by omega, hpm, fun H10 s10 => ⟨_, rfl, rfl, _, rfl, ?_⟩⟩
      rw [co1, m2, decide_eq_true rfl]
      refine iteF ?_
      refine ⟨_, rfl, _, rfl, r, t, orderL cd, rfl, hrr, .inr (s10 _ _ et), by omega, hpm, fun H11 i' s11 hi' => ⟨_, rfl, rfl, _, rfl, ?_⟩⟩
      rw [co1, hpl, m2] at hi'
      rw [lt_nd (sufS_asc r n 0 c) hi' hcd, decide_eq_true rfl]
      refine iteF ?_
      have et11 := s11 _ _ (s10 _ _ et)
      have hb9 : ∀ z ∈ natB (orderL cd), -1000000000 ≤ z ∧ z ≤ 1000000000 := fun z hz => by
        obtain ⟨x, hx, rfl⟩ := List.mem_map.mp hz
        have := List.mem_range.mp (hpm.mem_iff.mp hx)
        have : (Int.ofNat x) = (x : Int) := rfl
        omega
      have hnl : (natB (orderL cd)).length = n := by unfold natB; rw [List.length_map, hpl]
      refine ⟨_, rfl, _, rfl, r, t, natB (orderL cd), rfl, hrr, ⟨.inr (row_of_tup et11), by omega, hb9⟩, (tt9.ext s10).ext s11, fun H12 x12 tt12 => ?_⟩
      have hk := kp_ent (r := r) (w := 2) (by decide) hrr hpm (by omega) (orderL cd).length (Nat.le_refl _)
      have hk2 : (kpL r 2 (natB (orderL cd)) (natB (orderL cd)).length).2 = c := by
        rw [hnl, ← hpl, hk]
        unfold entN
        rw [← codeL_len, List.take_length, co1, m2]
      rw [hk2]
      refine ⟨_, rfl, rfl, _, rfl, ?_⟩
      rw [decide_eq_true rfl]
      exact iteF ⟨rfl, (extN_of (s10.trans s11)).trans x12⟩
    rintro σ' H10 ⟨rfl, x10⟩
    have e10 := x10 _ _ e9 (fun _ z => nomatch z)
    have et10 := x10 _ _ et (fun _ z => nomatch z)
    refine ⟨fun σ' H' => σ' = [some (.ref a), some (.int z), some (.int r), some (.int n), some (.ref d), some (.int c), some (.int i), some (.ref t)] ∧ H' = H10 ∧ endE r 0 n c = i + 1, ?_, ?_⟩
    · refine ⟨_, rfl, _, _, rfl, rfl, _, rfl, _, rfl, d, _, _, _, rfl, rfl, SqL.of e10, hN c hcn, _, _, rfl, rfl, _, rfl, ?_⟩
      by_cases hlt : i + 1 < endE r 0 n c
      · refine ite_b (c := true) (decide_eq_true (show (i : Int) + 1 < ((endE r 0 n c : Nat) : Int) by omega)) (iteT ?_)
        obtain ⟨cd2, hcd2⟩ : ∃ cd2, (sufS r 0 n c)[i + 1]? = some cd2 := ⟨_, List.getElem?_eq_getElem (by omega)⟩
        obtain ⟨k1, k2, k3, k4, k5, k6⟩ := facts (i + 1) cd2 hcd2
        refine ⟨_, rfl, _, rfl, _, rfl, _, rfl, _, _, rfl, rfl, n, r, c, i + 1, cd2, rfl, hn, hrr, hcn, hcd2, fun H11 t2 s11 et2 => ?_⟩
        refine ⟨t2, orderL cd2, rfl, .inr et2, by omega, k6, fun H12 t3 s12 et3 => ?_⟩
        refine ⟨_, rfl, t, orderL cd, rfl, .inr (s12 _ _ (s11 _ _ et10)), by omega, hpm, fun H13 t4 s13 et4 => ?_⟩
        rw [k4] at et3
        rw [co1] at et4
        refine ⟨t3, t4, natB cd2, natB cd, ⟨rfl, rfl⟩, ⟨SqT.of (row_of_tup (s13 _ _ et3)), SqT.of (row_of_tup et4)⟩, ?_⟩
        have hasc := List.pairwise_iff_getElem.mp (sufS_asc r n 0 c) i (i + 1) (by omega) (by omega) (Nat.lt_succ_self i)
        rw [(List.getElem?_eq_some_iff.mp hcd).2, (List.getElem?_eq_some_iff.mp hcd2).2] at hasc
        rw [gt_code (by rw [m1, k1]) hasc]
        exact q H13
      · exact ite_b (c := false) (decide_eq_false (show ¬ (i : Int) + 1 < ((endE r 0 n c : Nat) : Int) by omega)) (iteF ⟨rfl, rfl, by omega⟩)
    rintro σ' H10 ⟨rfl, rfl, hlast⟩
    obtain ⟨cd0, hcd0⟩ : ∃ cd0, (sufS r 0 n c)[0]? = some cd0 := ⟨_, List.getElem?_eq_getElem (by omega)⟩
    obtain ⟨k1, k2, k3, k4, k5, k6⟩ := facts 0 cd0 hcd0
    refine ⟨_, rfl, _, rfl, _, rfl, n, r, c, 0, cd0, rfl, hn, hrr, hcn, hcd0, fun H11 t2 s11 et2 => ?_⟩
    refine ⟨_, rfl, _, _, nv_tup K et2, nv_tup K (s11 _ _ et10), ints_shT _, ints_shT _, _, rfl, ?_⟩
    rw [rowD_eqv]
    by_cases he : natB (orderL cd0) = natB (orderL cd)
    · rw [decide_eq_true he]
      exact iteT (q H11)
    · rw [decide_eq_false he]
      refine iteF ⟨_, rfl, _, rfl, d, _, _, _, rfl, rfl, SqL.of (s11 _ _ e10), hN c hcn, _, _, rfl, rfl, ?_⟩
      have : 1 < endE r 0 n c := by
        rcases Nat.eq_zero_or_pos i with h | h
        · subst h
          rw [hcd] at hcd0
          cases hcd0
          exact absurd rfl he
        · omega
      have hd : decide ((1 : Int) < ((endE r 0 n c : Nat) : Int)) = true := decide_eq_true (by omega)
      show Q (.bl (decide ((1 : Int) < ((endE r 0 n c : Nat) : Int)))) H11
      rw [hd]
      exact q H11
theorem b_law (T : Tx K mg A) : L2.Binds K A.d_law ["script"] [] := T.F_law.binds fun _ _ _ _ _ _ us hl => match us, hl with | [_], _ => rfl

end
end Tw

set_option Elab.async false
set_option linter.all false
set_option maxRecDepth 100000
set_option maxHeartbeats 2000000
namespace Tw
open PySem PySem.Spec PyProof.Rows L2
theorem kit_no {K : PySem.W.Frag} {C : Addr} {t : String} (hc : PySem.W.isClsIn K C = true) (ht : PySem.W.typeIn K (.ref C) = some (.type "type")) (hs : PySem.W.subIn K (.type t) (.ref C) = some false) : PySem.W.kitOne K (.type t) (.ref C) = some false := by
  unfold PySem.W.kitOne PySem.W.kitCls
  have h1 : (PySem.W.clsIn K C).isSome = true := hc
  simp only [h1, ht, hs, beq_self_eq_true, Bool.and_self, if_true]
  rfl
theorem all_mk {l : PySem.W.OpenLaw} {w : World} {K : PySem.W.Frag} {h : Heap} {mg : Str → Option Value} (X : K.In h) (G : h.Ns mainGlobals mg) {fa C CS CK CM po D_t___init__ D_t_of D_faults D_sift_up D_sift_down D_push D_put_for D_e___init__ f_is_integer f_is_integer_from f_is_key f_check_arms f_check_many f_check_place f_check_key f_check_room f_check_index f_check_count f_row_of f_is_full f_t___init__ f_t_of f_t___len__ f_t___iter__ f_t___getitem__ f_t_parent f_t_way_to f_faults f_heap_of f_check_filled f_z___init__ f_sift_up f_sift_down f_least_child f_push f_put_for f_e___init__ f_e___len__ f_e___contains__ f_e_heap f_e_entered f_e_see f_changes f_order_code f_order_by f_is_code f_many_orders f_order_at f_order_index f_does_come f_ends_for f_ends_with f__law_number f__law_codes f__law_entered f__law_product f__law_few_right f_law : Addr} {cc_least_child PP_least_child : Addr} {p_e_heap : Addr} {rest_e_heap : List Value} {p_e_entered : Addr} {rest_e_entered : List Value} {od_is_integer an_is_integer : Option Addr} {sl_is_integer : Array (Option Value)} {oc_is_integer kV_is_integer dc_is_integer pm_is_integer cd_is_integer ct_is_integer : Value} {od_is_integer_from an_is_integer_from : Option Addr} {sl_is_integer_from : Array (Option Value)} {oc_is_integer_from kV_is_integer_from dc_is_integer_from pm_is_integer_from cd_is_integer_from ct_is_integer_from : Value} {od_is_key an_is_key : Option Addr} {sl_is_key : Array (Option Value)} {oc_is_key kV_is_key dc_is_key pm_is_key cd_is_key ct_is_key : Value} {od_check_arms an_check_arms : Option Addr} {sl_check_arms : Array (Option Value)} {oc_check_arms kV_check_arms dc_check_arms pm_check_arms cd_check_arms ct_check_arms : Value} {od_check_many an_check_many : Option Addr} {sl_check_many : Array (Option Value)} {oc_check_many kV_check_many dc_check_many pm_check_many cd_check_many ct_check_many : Value} {od_check_place an_check_place : Option Addr} {sl_check_place : Array (Option Value)} {oc_check_place kV_check_place dc_check_place pm_check_place cd_check_place ct_check_place : Value} {od_check_key an_check_key : Option Addr} {sl_check_key : Array (Option Value)} {oc_check_key kV_check_key dc_check_key pm_check_key cd_check_key ct_check_key : Value} {od_check_room an_check_room : Option Addr} {sl_check_room : Array (Option Value)} {oc_check_room kV_check_room dc_check_room pm_check_room cd_check_room ct_check_room : Value} {od_check_index an_check_index : Option Addr} {sl_check_index : Array (Option Value)} {oc_check_index kV_check_index dc_check_index pm_check_index cd_check_index ct_check_index : Value} {od_check_count an_check_count : Option Addr} {sl_check_count : Array (Option Value)} {oc_check_count kV_check_count dc_check_count pm_check_count cd_check_count ct_check_count : Value} {od_row_of an_row_of : Option Addr} {sl_row_of : Array (Option Value)} {oc_row_of kV_row_of dc_row_of pm_row_of cd_row_of ct_row_of : Value} {od_is_full an_is_full : Option Addr} {sl_is_full : Array (Option Value)} {oc_is_full kV_is_full dc_is_full pm_is_full cd_is_full ct_is_full : Value} {od_t___init__ an_t___init__ : Option Addr} {sl_t___init__ : Array (Option Value)} {oc_t___init__  dc_t___init__ pm_t___init__ cd_t___init__ ct_t___init__ : Value} {od_t_of an_t_of : Option Addr} {sl_t_of : Array (Option Value)} {oc_t_of  dc_t_of pm_t_of cd_t_of ct_t_of : Value} {od_t___len__ an_t___len__ : Option Addr} {sl_t___len__ : Array (Option Value)} {oc_t___len__ kV_t___len__ dc_t___len__ pm_t___len__ cd_t___len__ ct_t___len__ : Value} {od_t___iter__ an_t___iter__ : Option Addr} {sl_t___iter__ : Array (Option Value)} {oc_t___iter__ kV_t___iter__ dc_t___iter__ pm_t___iter__ cd_t___iter__ ct_t___iter__ : Value} {od_t___getitem__ an_t___getitem__ : Option Addr} {sl_t___getitem__ : Array (Option Value)} {oc_t___getitem__ kV_t___getitem__ dc_t___getitem__ pm_t___getitem__ cd_t___getitem__ ct_t___getitem__ : Value} {od_t_parent an_t_parent : Option Addr} {sl_t_parent : Array (Option Value)} {oc_t_parent kV_t_parent dc_t_parent pm_t_parent cd_t_parent ct_t_parent : Value} {od_t_way_to an_t_way_to : Option Addr} {sl_t_way_to : Array (Option Value)} {oc_t_way_to kV_t_way_to dc_t_way_to pm_t_way_to cd_t_way_to ct_t_way_to : Value} {od_faults an_faults : Option Addr} {sl_faults : Array (Option Value)} {oc_faults  dc_faults pm_faults cd_faults ct_faults : Value} {od_heap_of an_heap_of : Option Addr} {sl_heap_of : Array (Option Value)} {oc_heap_of kV_heap_of dc_heap_of pm_heap_of cd_heap_of ct_heap_of : Value} {od_check_filled an_check_filled : Option Addr} {sl_check_filled : Array (Option Value)} {oc_check_filled kV_check_filled dc_check_filled pm_check_filled cd_check_filled ct_check_filled : Value} {od_z___init__ an_z___init__ : Option Addr} {sl_z___init__ : Array (Option Value)} {oc_z___init__ kV_z___init__ dc_z___init__ pm_z___init__ cd_z___init__ ct_z___init__ : Value} {od_sift_up an_sift_up : Option Addr} {sl_sift_up : Array (Option Value)} {oc_sift_up  dc_sift_up pm_sift_up cd_sift_up ct_sift_up : Value} {od_sift_down an_sift_down : Option Addr} {sl_sift_down : Array (Option Value)} {oc_sift_down  dc_sift_down pm_sift_down cd_sift_down ct_sift_down : Value} {od_least_child an_least_child : Option Addr} {sl_least_child : Array (Option Value)} {oc_least_child kV_least_child dc_least_child pm_least_child  ct_least_child : Value} {od_push an_push : Option Addr} {sl_push : Array (Option Value)} {oc_push  dc_push pm_push cd_push ct_push : Value} {od_put_for an_put_for : Option Addr} {sl_put_for : Array (Option Value)} {oc_put_for  dc_put_for pm_put_for cd_put_for ct_put_for : Value} {od_e___init__ an_e___init__ : Option Addr} {sl_e___init__ : Array (Option Value)} {oc_e___init__  dc_e___init__ pm_e___init__ cd_e___init__ ct_e___init__ : Value} {od_e___len__ an_e___len__ : Option Addr} {sl_e___len__ : Array (Option Value)} {oc_e___len__ kV_e___len__ dc_e___len__ pm_e___len__ cd_e___len__ ct_e___len__ : Value} {od_e___contains__ an_e___contains__ : Option Addr} {sl_e___contains__ : Array (Option Value)} {oc_e___contains__ kV_e___contains__ dc_e___contains__ pm_e___contains__ cd_e___contains__ ct_e___contains__ : Value} {od_e_heap an_e_heap : Option Addr} {sl_e_heap : Array (Option Value)} {oc_e_heap kV_e_heap dc_e_heap pm_e_heap cd_e_heap ct_e_heap : Value} {od_e_entered an_e_entered : Option Addr} {sl_e_entered : Array (Option Value)} {oc_e_entered kV_e_entered dc_e_entered pm_e_entered cd_e_entered ct_e_entered : Value} {od_e_see an_e_see : Option Addr} {sl_e_see : Array (Option Value)} {oc_e_see kV_e_see dc_e_see pm_e_see cd_e_see ct_e_see : Value} {od_changes an_changes : Option Addr} {sl_changes : Array (Option Value)} {oc_changes kV_changes dc_changes pm_changes cd_changes ct_changes : Value} {od_order_code an_order_code : Option Addr} {sl_order_code : Array (Option Value)} {oc_order_code kV_order_code dc_order_code pm_order_code cd_order_code ct_order_code : Value} {od_order_by an_order_by : Option Addr} {sl_order_by : Array (Option Value)} {oc_order_by kV_order_by dc_order_by pm_order_by cd_order_by ct_order_by : Value} {od_is_code an_is_code : Option Addr} {sl_is_code : Array (Option Value)} {oc_is_code kV_is_code dc_is_code pm_is_code cd_is_code ct_is_code : Value} {od_many_orders an_many_orders : Option Addr} {sl_many_orders : Array (Option Value)} {oc_many_orders kV_many_orders dc_many_orders pm_many_orders cd_many_orders ct_many_orders : Value} {od_order_at an_order_at : Option Addr} {sl_order_at : Array (Option Value)} {oc_order_at kV_order_at dc_order_at pm_order_at cd_order_at ct_order_at : Value} {od_order_index an_order_index : Option Addr} {sl_order_index : Array (Option Value)} {oc_order_index kV_order_index dc_order_index pm_order_index cd_order_index ct_order_index : Value} {od_does_come an_does_come : Option Addr} {sl_does_come : Array (Option Value)} {oc_does_come kV_does_come dc_does_come pm_does_come cd_does_come ct_does_come : Value} {od_ends_for an_ends_for : Option Addr} {sl_ends_for : Array (Option Value)} {oc_ends_for kV_ends_for dc_ends_for pm_ends_for cd_ends_for ct_ends_for : Value} {od_ends_with an_ends_with : Option Addr} {sl_ends_with : Array (Option Value)} {oc_ends_with kV_ends_with dc_ends_with pm_ends_with cd_ends_with ct_ends_with : Value} {od__law_number an__law_number : Option Addr} {sl__law_number : Array (Option Value)} {oc__law_number kV__law_number dc__law_number pm__law_number cd__law_number ct__law_number : Value} {od__law_codes an__law_codes : Option Addr} {sl__law_codes : Array (Option Value)} {oc__law_codes kV__law_codes dc__law_codes pm__law_codes cd__law_codes ct__law_codes : Value} {od__law_entered an__law_entered : Option Addr} {sl__law_entered : Array (Option Value)} {oc__law_entered kV__law_entered dc__law_entered pm__law_entered cd__law_entered ct__law_entered : Value} {od__law_product an__law_product : Option Addr} {sl__law_product : Array (Option Value)} {oc__law_product kV__law_product dc__law_product pm__law_product cd__law_product ct__law_product : Value} {od__law_few_right an__law_few_right : Option Addr} {sl__law_few_right : Array (Option Value)} {oc__law_few_right kV__law_few_right dc__law_few_right pm__law_few_right cd__law_few_right ct__law_few_right : Value} {od_law an_law : Option Addr} {sl_law : Array (Option Value)} {oc_law kV_law dc_law pm_law cd_law ct_law : Value}
    (hfa : mg "law" = some (.ref fa))
    (aC : PySem.W.nsIn K mainGlobals "Tree" = some (some (.ref C)))
    (aCS : PySem.W.nsIn K mainGlobals "Sift" = some (some (.ref CS)))
    (aCK : PySem.W.nsIn K mainGlobals "Keeper" = some (some (.ref CK)))
    (aCM : PySem.W.nsIn K mainGlobals "Mark" = some (some (.ref CM)))
    (a_is_integer : PySem.W.nsIn K mainGlobals "is_integer" = some (some (.ref f_is_integer)))
    (l_is_integer : K.lookup f_is_integer = some ⟨oc_is_integer, od_is_integer, .func (PySem.W.fnOf "is_integer" "is_integer" (defArgs s_is_integer) (defBody s_is_integer) (defScope s_is_integer) .none kV_is_integer dc_is_integer pm_is_integer an_is_integer cd_is_integer ct_is_integer), sl_is_integer⟩)
    (c_is_integer : PySem.W.codeIn K cd_is_integer "is_integer" = true)
    (k_is_integer : PySem.W.keepIn K (.ref f_is_integer) = true)
    (a_is_integer_from : PySem.W.nsIn K mainGlobals "is_integer_from" = some (some (.ref f_is_integer_from)))
    (l_is_integer_from : K.lookup f_is_integer_from = some ⟨oc_is_integer_from, od_is_integer_from, .func (PySem.W.fnOf "is_integer_from" "is_integer_from" (defArgs s_is_integer_from) (defBody s_is_integer_from) (defScope s_is_integer_from) .none kV_is_integer_from dc_is_integer_from pm_is_integer_from an_is_integer_from cd_is_integer_from ct_is_integer_from), sl_is_integer_from⟩)
    (c_is_integer_from : PySem.W.codeIn K cd_is_integer_from "is_integer_from" = true)
    (k_is_integer_from : PySem.W.keepIn K (.ref f_is_integer_from) = true)
    (a_is_key : PySem.W.nsIn K mainGlobals "is_key" = some (some (.ref f_is_key)))
    (l_is_key : K.lookup f_is_key = some ⟨oc_is_key, od_is_key, .func (PySem.W.fnOf "is_key" "is_key" (defArgs s_is_key) (defBody s_is_key) (defScope s_is_key) .none kV_is_key dc_is_key pm_is_key an_is_key cd_is_key ct_is_key), sl_is_key⟩)
    (c_is_key : PySem.W.codeIn K cd_is_key "is_key" = true)
    (k_is_key : PySem.W.keepIn K (.ref f_is_key) = true)
    (a_check_arms : PySem.W.nsIn K mainGlobals "check_arms" = some (some (.ref f_check_arms)))
    (l_check_arms : K.lookup f_check_arms = some ⟨oc_check_arms, od_check_arms, .func (PySem.W.fnOf "check_arms" "check_arms" (defArgs s_check_arms) (defBody s_check_arms) (defScope s_check_arms) .none kV_check_arms dc_check_arms pm_check_arms an_check_arms cd_check_arms ct_check_arms), sl_check_arms⟩)
    (c_check_arms : PySem.W.codeIn K cd_check_arms "check_arms" = true)
    (k_check_arms : PySem.W.keepIn K (.ref f_check_arms) = true)
    (a_check_many : PySem.W.nsIn K mainGlobals "check_many" = some (some (.ref f_check_many)))
    (l_check_many : K.lookup f_check_many = some ⟨oc_check_many, od_check_many, .func (PySem.W.fnOf "check_many" "check_many" (defArgs s_check_many) (defBody s_check_many) (defScope s_check_many) .none kV_check_many dc_check_many pm_check_many an_check_many cd_check_many ct_check_many), sl_check_many⟩)
    (c_check_many : PySem.W.codeIn K cd_check_many "check_many" = true)
    (k_check_many : PySem.W.keepIn K (.ref f_check_many) = true)
    (a_check_place : PySem.W.nsIn K mainGlobals "check_place" = some (some (.ref f_check_place)))
    (l_check_place : K.lookup f_check_place = some ⟨oc_check_place, od_check_place, .func (PySem.W.fnOf "check_place" "check_place" (defArgs s_check_place) (defBody s_check_place) (defScope s_check_place) .none kV_check_place dc_check_place pm_check_place an_check_place cd_check_place ct_check_place), sl_check_place⟩)
    (c_check_place : PySem.W.codeIn K cd_check_place "check_place" = true)
    (k_check_place : PySem.W.keepIn K (.ref f_check_place) = true)
    (a_check_key : PySem.W.nsIn K mainGlobals "check_key" = some (some (.ref f_check_key)))
    (l_check_key : K.lookup f_check_key = some ⟨oc_check_key, od_check_key, .func (PySem.W.fnOf "check_key" "check_key" (defArgs s_check_key) (defBody s_check_key) (defScope s_check_key) .none kV_check_key dc_check_key pm_check_key an_check_key cd_check_key ct_check_key), sl_check_key⟩)
    (c_check_key : PySem.W.codeIn K cd_check_key "check_key" = true)
    (k_check_key : PySem.W.keepIn K (.ref f_check_key) = true)
    (a_check_room : PySem.W.nsIn K mainGlobals "check_room" = some (some (.ref f_check_room)))
    (l_check_room : K.lookup f_check_room = some ⟨oc_check_room, od_check_room, .func (PySem.W.fnOf "check_room" "check_room" (defArgs s_check_room) (defBody s_check_room) (defScope s_check_room) .none kV_check_room dc_check_room pm_check_room an_check_room cd_check_room ct_check_room), sl_check_room⟩)
    (c_check_room : PySem.W.codeIn K cd_check_room "check_room" = true)
    (k_check_room : PySem.W.keepIn K (.ref f_check_room) = true)
    (a_check_index : PySem.W.nsIn K mainGlobals "check_index" = some (some (.ref f_check_index)))
    (l_check_index : K.lookup f_check_index = some ⟨oc_check_index, od_check_index, .func (PySem.W.fnOf "check_index" "check_index" (defArgs s_check_index) (defBody s_check_index) (defScope s_check_index) .none kV_check_index dc_check_index pm_check_index an_check_index cd_check_index ct_check_index), sl_check_index⟩)
    (c_check_index : PySem.W.codeIn K cd_check_index "check_index" = true)
    (k_check_index : PySem.W.keepIn K (.ref f_check_index) = true)
    (a_check_count : PySem.W.nsIn K mainGlobals "check_count" = some (some (.ref f_check_count)))
    (l_check_count : K.lookup f_check_count = some ⟨oc_check_count, od_check_count, .func (PySem.W.fnOf "check_count" "check_count" (defArgs s_check_count) (defBody s_check_count) (defScope s_check_count) .none kV_check_count dc_check_count pm_check_count an_check_count cd_check_count ct_check_count), sl_check_count⟩)
    (c_check_count : PySem.W.codeIn K cd_check_count "check_count" = true)
    (k_check_count : PySem.W.keepIn K (.ref f_check_count) = true)
    (a_row_of : PySem.W.nsIn K mainGlobals "row_of" = some (some (.ref f_row_of)))
    (l_row_of : K.lookup f_row_of = some ⟨oc_row_of, od_row_of, .func (PySem.W.fnOf "row_of" "row_of" (defArgs s_row_of) (defBody s_row_of) (defScope s_row_of) .none kV_row_of dc_row_of pm_row_of an_row_of cd_row_of ct_row_of), sl_row_of⟩)
    (c_row_of : PySem.W.codeIn K cd_row_of "row_of" = true)
    (k_row_of : PySem.W.keepIn K (.ref f_row_of) = true)
    (a_is_full : PySem.W.nsIn K mainGlobals "is_full" = some (some (.ref f_is_full)))
    (l_is_full : K.lookup f_is_full = some ⟨oc_is_full, od_is_full, .func (PySem.W.fnOf "is_full" "is_full" (defArgs s_is_full) (defBody s_is_full) (defScope s_is_full) .none kV_is_full dc_is_full pm_is_full an_is_full cd_is_full ct_is_full), sl_is_full⟩)
    (c_is_full : PySem.W.codeIn K cd_is_full "is_full" = true)
    (k_is_full : PySem.W.keepIn K (.ref f_is_full) = true)
    (a_t___init__ : PySem.W.findIn K (.ref C) "__init__" = some (some (.ref f_t___init__)))
    (i_t___init__ : PySem.W.isFn K (.ref f_t___init__) = true)
    (l_t___init__ : K.lookup f_t___init__ = some ⟨oc_t___init__, od_t___init__, .func (PySem.W.fnOf "__init__" "Tree.__init__" (defArgs s_t___init__) (defBody s_t___init__) (defScope s_t___init__) .none (.ref D_t___init__) dc_t___init__ pm_t___init__ an_t___init__ cd_t___init__ ct_t___init__), sl_t___init__⟩)
    (c_t___init__ : PySem.W.codeIn K cd_t___init__ "Tree.__init__" = true)
    (k_t___init__ : PySem.W.keepIn K (.ref f_t___init__) = true)
    {tk_t___init__ : Tok}
    (w_t___init__ : PySem.W.nsIn K D_t___init__ "arms" = some (some (.int 2 tk_t___init__)))
    (a_t_of : PySem.W.findCls K (.ref C) (.type "type") "of" = some (.get (.builtin "classmethod.__get__") (.ref po) .none (.ref C)))
    {rest_of : List Value}
    (r_t_of : PySem.W.recIn K po "classmethod" = some (.ref f_t_of :: rest_of))
    (n_t_of : PySem.W.fnIn K f_t_of = true)
    (l_t_of : K.lookup f_t_of = some ⟨oc_t_of, od_t_of, .func (PySem.W.fnOf "of" "Tree.of" (defArgs s_t_of) (defBody s_t_of) (defScope s_t_of) .none (.ref D_t_of) dc_t_of pm_t_of an_t_of cd_t_of ct_t_of), sl_t_of⟩)
    (c_t_of : PySem.W.codeIn K cd_t_of "Tree.of" = true)
    (k_t_of : PySem.W.keepIn K (.ref f_t_of) = true)
    {tk_t_of : Tok}
    (w_t_of : PySem.W.nsIn K D_t_of "arms" = some (some (.int 2 tk_t_of)))
    (a_t___len__ : PySem.W.findIn K (.ref C) "__len__" = some (some (.ref f_t___len__)))
    (i_t___len__ : PySem.W.isFn K (.ref f_t___len__) = true)
    (n_t___len__ : PySem.W.fnIn K f_t___len__ = true)
    (l_t___len__ : K.lookup f_t___len__ = some ⟨oc_t___len__, od_t___len__, .func (PySem.W.fnOf "__len__" "Tree.__len__" (defArgs s_t___len__) (defBody s_t___len__) (defScope s_t___len__) .none kV_t___len__ dc_t___len__ pm_t___len__ an_t___len__ cd_t___len__ ct_t___len__), sl_t___len__⟩)
    (c_t___len__ : PySem.W.codeIn K cd_t___len__ "Tree.__len__" = true)
    (k_t___len__ : PySem.W.keepIn K (.ref f_t___len__) = true)
    (a_t___iter__ : PySem.W.findIn K (.ref C) "__iter__" = some (some (.ref f_t___iter__)))
    (i_t___iter__ : PySem.W.isFn K (.ref f_t___iter__) = true)
    (n_t___iter__ : PySem.W.fnIn K f_t___iter__ = true)
    (l_t___iter__ : K.lookup f_t___iter__ = some ⟨oc_t___iter__, od_t___iter__, .func (PySem.W.fnOf "__iter__" "Tree.__iter__" (defArgs s_t___iter__) (defBody s_t___iter__) (defScope s_t___iter__) .none kV_t___iter__ dc_t___iter__ pm_t___iter__ an_t___iter__ cd_t___iter__ ct_t___iter__), sl_t___iter__⟩)
    (c_t___iter__ : PySem.W.codeIn K cd_t___iter__ "Tree.__iter__" = true)
    (k_t___iter__ : PySem.W.keepIn K (.ref f_t___iter__) = true)
    (a_t___getitem__ : PySem.W.findIn K (.ref C) "__getitem__" = some (some (.ref f_t___getitem__)))
    (i_t___getitem__ : PySem.W.isFn K (.ref f_t___getitem__) = true)
    (n_t___getitem__ : PySem.W.fnIn K f_t___getitem__ = true)
    (l_t___getitem__ : K.lookup f_t___getitem__ = some ⟨oc_t___getitem__, od_t___getitem__, .func (PySem.W.fnOf "__getitem__" "Tree.__getitem__" (defArgs s_t___getitem__) (defBody s_t___getitem__) (defScope s_t___getitem__) .none kV_t___getitem__ dc_t___getitem__ pm_t___getitem__ an_t___getitem__ cd_t___getitem__ ct_t___getitem__), sl_t___getitem__⟩)
    (c_t___getitem__ : PySem.W.codeIn K cd_t___getitem__ "Tree.__getitem__" = true)
    (k_t___getitem__ : PySem.W.keepIn K (.ref f_t___getitem__) = true)
    (a_t_parent : PySem.W.findIn K (.ref C) "parent" = some (some (.ref f_t_parent)))
    (i_t_parent : PySem.W.isFn K (.ref f_t_parent) = true)
    (l_t_parent : K.lookup f_t_parent = some ⟨oc_t_parent, od_t_parent, .func (PySem.W.fnOf "parent" "Tree.parent" (defArgs s_t_parent) (defBody s_t_parent) (defScope s_t_parent) .none kV_t_parent dc_t_parent pm_t_parent an_t_parent cd_t_parent ct_t_parent), sl_t_parent⟩)
    (c_t_parent : PySem.W.codeIn K cd_t_parent "Tree.parent" = true)
    (k_t_parent : PySem.W.keepIn K (.ref f_t_parent) = true)
    (a_t_way_to : PySem.W.findIn K (.ref C) "way_to" = some (some (.ref f_t_way_to)))
    (i_t_way_to : PySem.W.isFn K (.ref f_t_way_to) = true)
    (l_t_way_to : K.lookup f_t_way_to = some ⟨oc_t_way_to, od_t_way_to, .func (PySem.W.fnOf "way_to" "Tree.way_to" (defArgs s_t_way_to) (defBody s_t_way_to) (defScope s_t_way_to) .none kV_t_way_to dc_t_way_to pm_t_way_to an_t_way_to cd_t_way_to ct_t_way_to), sl_t_way_to⟩)
    (c_t_way_to : PySem.W.codeIn K cd_t_way_to "Tree.way_to" = true)
    (k_t_way_to : PySem.W.keepIn K (.ref f_t_way_to) = true)
    (a_faults : PySem.W.nsIn K mainGlobals "faults" = some (some (.ref f_faults)))
    (l_faults : K.lookup f_faults = some ⟨oc_faults, od_faults, .func (PySem.W.fnOf "faults" "faults" (defArgs s_faults) (defBody s_faults) (defScope s_faults) .none (.ref D_faults) dc_faults pm_faults an_faults cd_faults ct_faults), sl_faults⟩)
    (c_faults : PySem.W.codeIn K cd_faults "faults" = true)
    (k_faults : PySem.W.keepIn K (.ref f_faults) = true)
    {tk_faults : Tok}
    (w_faults : PySem.W.nsIn K D_faults "arms" = some (some (.int 2 tk_faults)))
    (a_heap_of : PySem.W.nsIn K mainGlobals "heap_of" = some (some (.ref f_heap_of)))
    (l_heap_of : K.lookup f_heap_of = some ⟨oc_heap_of, od_heap_of, .func (PySem.W.fnOf "heap_of" "heap_of" (defArgs s_heap_of) (defBody s_heap_of) (defScope s_heap_of) .none kV_heap_of dc_heap_of pm_heap_of an_heap_of cd_heap_of ct_heap_of), sl_heap_of⟩)
    (c_heap_of : PySem.W.codeIn K cd_heap_of "heap_of" = true)
    (k_heap_of : PySem.W.keepIn K (.ref f_heap_of) = true)
    (a_check_filled : PySem.W.nsIn K mainGlobals "check_filled" = some (some (.ref f_check_filled)))
    (l_check_filled : K.lookup f_check_filled = some ⟨oc_check_filled, od_check_filled, .func (PySem.W.fnOf "check_filled" "check_filled" (defArgs s_check_filled) (defBody s_check_filled) (defScope s_check_filled) .none kV_check_filled dc_check_filled pm_check_filled an_check_filled cd_check_filled ct_check_filled), sl_check_filled⟩)
    (c_check_filled : PySem.W.codeIn K cd_check_filled "check_filled" = true)
    (k_check_filled : PySem.W.keepIn K (.ref f_check_filled) = true)
    (a_z___init__ : PySem.W.findIn K (.ref CS) "__init__" = some (some (.ref f_z___init__)))
    (i_z___init__ : PySem.W.isFn K (.ref f_z___init__) = true)
    (l_z___init__ : K.lookup f_z___init__ = some ⟨oc_z___init__, od_z___init__, .func (PySem.W.fnOf "__init__" "Sift.__init__" (defArgs s_z___init__) (defBody s_z___init__) (defScope s_z___init__) .none kV_z___init__ dc_z___init__ pm_z___init__ an_z___init__ cd_z___init__ ct_z___init__), sl_z___init__⟩)
    (c_z___init__ : PySem.W.codeIn K cd_z___init__ "Sift.__init__" = true)
    (k_z___init__ : PySem.W.keepIn K (.ref f_z___init__) = true)
    (a_sift_up : PySem.W.nsIn K mainGlobals "sift_up" = some (some (.ref f_sift_up)))
    (l_sift_up : K.lookup f_sift_up = some ⟨oc_sift_up, od_sift_up, .func (PySem.W.fnOf "sift_up" "sift_up" (defArgs s_sift_up) (defBody s_sift_up) (defScope s_sift_up) .none (.ref D_sift_up) dc_sift_up pm_sift_up an_sift_up cd_sift_up ct_sift_up), sl_sift_up⟩)
    (c_sift_up : PySem.W.codeIn K cd_sift_up "sift_up" = true)
    (k_sift_up : PySem.W.keepIn K (.ref f_sift_up) = true)
    {tk_sift_up : Tok}
    (w_sift_up : PySem.W.nsIn K D_sift_up "arms" = some (some (.int 2 tk_sift_up)))
    (a_sift_down : PySem.W.nsIn K mainGlobals "sift_down" = some (some (.ref f_sift_down)))
    (l_sift_down : K.lookup f_sift_down = some ⟨oc_sift_down, od_sift_down, .func (PySem.W.fnOf "sift_down" "sift_down" (defArgs s_sift_down) (defBody s_sift_down) (defScope s_sift_down) .none (.ref D_sift_down) dc_sift_down pm_sift_down an_sift_down cd_sift_down ct_sift_down), sl_sift_down⟩)
    (c_sift_down : PySem.W.codeIn K cd_sift_down "sift_down" = true)
    (k_sift_down : PySem.W.keepIn K (.ref f_sift_down) = true)
    {tk_sift_down : Tok}
    (w_sift_down : PySem.W.nsIn K D_sift_down "arms" = some (some (.int 2 tk_sift_down)))
    (a_least_child : PySem.W.nsIn K mainGlobals "least_child" = some (some (.ref f_least_child)))
    (l_least_child : K.lookup f_least_child = some ⟨oc_least_child, od_least_child, .func (PySem.W.fnOf "least_child" "least_child" (defArgs s_least_child) (defBody s_least_child) (defScope s_least_child) .none kV_least_child dc_least_child pm_least_child an_least_child (.ref cc_least_child) ct_least_child), sl_least_child⟩)
    (c_least_child : PySem.W.codeIn K (.ref cc_least_child) "least_child" = true)
    (k_least_child : PySem.W.keepIn K (.ref f_least_child) = true)
    (a_push : PySem.W.nsIn K mainGlobals "push" = some (some (.ref f_push)))
    (l_push : K.lookup f_push = some ⟨oc_push, od_push, .func (PySem.W.fnOf "push" "push" (defArgs s_push) (defBody s_push) (defScope s_push) .none (.ref D_push) dc_push pm_push an_push cd_push ct_push), sl_push⟩)
    (c_push : PySem.W.codeIn K cd_push "push" = true)
    (k_push : PySem.W.keepIn K (.ref f_push) = true)
    {tk_push : Tok}
    (w_push : PySem.W.nsIn K D_push "arms" = some (some (.int 2 tk_push)))
    (a_put_for : PySem.W.nsIn K mainGlobals "put_for" = some (some (.ref f_put_for)))
    (l_put_for : K.lookup f_put_for = some ⟨oc_put_for, od_put_for, .func (PySem.W.fnOf "put_for" "put_for" (defArgs s_put_for) (defBody s_put_for) (defScope s_put_for) .none (.ref D_put_for) dc_put_for pm_put_for an_put_for cd_put_for ct_put_for), sl_put_for⟩)
    (c_put_for : PySem.W.codeIn K cd_put_for "put_for" = true)
    (k_put_for : PySem.W.keepIn K (.ref f_put_for) = true)
    {tk_put_for : Tok}
    (w_put_for : PySem.W.nsIn K D_put_for "arms" = some (some (.int 2 tk_put_for)))
    (a_e___init__ : PySem.W.findIn K (.ref CK) "__init__" = some (some (.ref f_e___init__)))
    (i_e___init__ : PySem.W.isFn K (.ref f_e___init__) = true)
    (l_e___init__ : K.lookup f_e___init__ = some ⟨oc_e___init__, od_e___init__, .func (PySem.W.fnOf "__init__" "Keeper.__init__" (defArgs s_e___init__) (defBody s_e___init__) (defScope s_e___init__) .none (.ref D_e___init__) dc_e___init__ pm_e___init__ an_e___init__ cd_e___init__ ct_e___init__), sl_e___init__⟩)
    (c_e___init__ : PySem.W.codeIn K cd_e___init__ "Keeper.__init__" = true)
    (k_e___init__ : PySem.W.keepIn K (.ref f_e___init__) = true)
    {tk_e___init__ : Tok}
    (w_e___init__ : PySem.W.nsIn K D_e___init__ "arms" = some (some (.int 2 tk_e___init__)))
    (a_e___len__ : PySem.W.findIn K (.ref CK) "__len__" = some (some (.ref f_e___len__)))
    (i_e___len__ : PySem.W.isFn K (.ref f_e___len__) = true)
    (n_e___len__ : PySem.W.fnIn K f_e___len__ = true)
    (l_e___len__ : K.lookup f_e___len__ = some ⟨oc_e___len__, od_e___len__, .func (PySem.W.fnOf "__len__" "Keeper.__len__" (defArgs s_e___len__) (defBody s_e___len__) (defScope s_e___len__) .none kV_e___len__ dc_e___len__ pm_e___len__ an_e___len__ cd_e___len__ ct_e___len__), sl_e___len__⟩)
    (c_e___len__ : PySem.W.codeIn K cd_e___len__ "Keeper.__len__" = true)
    (k_e___len__ : PySem.W.keepIn K (.ref f_e___len__) = true)
    (a_e___contains__ : PySem.W.findIn K (.ref CK) "__contains__" = some (some (.ref f_e___contains__)))
    (i_e___contains__ : PySem.W.isFn K (.ref f_e___contains__) = true)
    (n_e___contains__ : PySem.W.fnIn K f_e___contains__ = true)
    (l_e___contains__ : K.lookup f_e___contains__ = some ⟨oc_e___contains__, od_e___contains__, .func (PySem.W.fnOf "__contains__" "Keeper.__contains__" (defArgs s_e___contains__) (defBody s_e___contains__) (defScope s_e___contains__) .none kV_e___contains__ dc_e___contains__ pm_e___contains__ an_e___contains__ cd_e___contains__ ct_e___contains__), sl_e___contains__⟩)
    (c_e___contains__ : PySem.W.codeIn K cd_e___contains__ "Keeper.__contains__" = true)
    (k_e___contains__ : PySem.W.keepIn K (.ref f_e___contains__) = true)
    (a_e_heap : PySem.W.findIn K (.ref CK) "heap" = some (some (.ref p_e_heap)))
    (pg_e_heap : PySem.W.specialIn K (.ref p_e_heap) "__get__" = some (some (.builtin "property.__get__")))
    (pt_e_heap : PySem.W.takesIn K (.ref p_e_heap) = some true)
    (pr_e_heap : PySem.W.recIn K p_e_heap "property" = some (.ref f_e_heap :: rest_e_heap))
    (l_e_heap : K.lookup f_e_heap = some ⟨oc_e_heap, od_e_heap, .func (PySem.W.fnOf "heap" "Keeper.heap" (defArgs s_e_heap) (defBody s_e_heap) (defScope s_e_heap) .none kV_e_heap dc_e_heap pm_e_heap an_e_heap cd_e_heap ct_e_heap), sl_e_heap⟩)
    (c_e_heap : PySem.W.codeIn K cd_e_heap "Keeper.heap" = true)
    (k_e_heap : PySem.W.keepIn K (.ref f_e_heap) = true)
    (a_e_entered : PySem.W.findIn K (.ref CK) "entered" = some (some (.ref p_e_entered)))
    (pg_e_entered : PySem.W.specialIn K (.ref p_e_entered) "__get__" = some (some (.builtin "property.__get__")))
    (pt_e_entered : PySem.W.takesIn K (.ref p_e_entered) = some true)
    (pr_e_entered : PySem.W.recIn K p_e_entered "property" = some (.ref f_e_entered :: rest_e_entered))
    (l_e_entered : K.lookup f_e_entered = some ⟨oc_e_entered, od_e_entered, .func (PySem.W.fnOf "entered" "Keeper.entered" (defArgs s_e_entered) (defBody s_e_entered) (defScope s_e_entered) .none kV_e_entered dc_e_entered pm_e_entered an_e_entered cd_e_entered ct_e_entered), sl_e_entered⟩)
    (c_e_entered : PySem.W.codeIn K cd_e_entered "Keeper.entered" = true)
    (k_e_entered : PySem.W.keepIn K (.ref f_e_entered) = true)
    (a_e_see : PySem.W.findIn K (.ref CK) "see" = some (some (.ref f_e_see)))
    (i_e_see : PySem.W.isFn K (.ref f_e_see) = true)
    (l_e_see : K.lookup f_e_see = some ⟨oc_e_see, od_e_see, .func (PySem.W.fnOf "see" "Keeper.see" (defArgs s_e_see) (defBody s_e_see) (defScope s_e_see) .none kV_e_see dc_e_see pm_e_see an_e_see cd_e_see ct_e_see), sl_e_see⟩)
    (c_e_see : PySem.W.codeIn K cd_e_see "Keeper.see" = true)
    (k_e_see : PySem.W.keepIn K (.ref f_e_see) = true)
    (a_changes : PySem.W.nsIn K mainGlobals "changes" = some (some (.ref f_changes)))
    (l_changes : K.lookup f_changes = some ⟨oc_changes, od_changes, .func (PySem.W.fnOf "changes" "changes" (defArgs s_changes) (defBody s_changes) (defScope s_changes) .none kV_changes dc_changes pm_changes an_changes cd_changes ct_changes), sl_changes⟩)
    (c_changes : PySem.W.codeIn K cd_changes "changes" = true)
    (k_changes : PySem.W.keepIn K (.ref f_changes) = true)
    (a_order_code : PySem.W.nsIn K mainGlobals "order_code" = some (some (.ref f_order_code)))
    (l_order_code : K.lookup f_order_code = some ⟨oc_order_code, od_order_code, .func (PySem.W.fnOf "order_code" "order_code" (defArgs s_order_code) (defBody s_order_code) (defScope s_order_code) .none kV_order_code dc_order_code pm_order_code an_order_code cd_order_code ct_order_code), sl_order_code⟩)
    (c_order_code : PySem.W.codeIn K cd_order_code "order_code" = true)
    (k_order_code : PySem.W.keepIn K (.ref f_order_code) = true)
    (a_order_by : PySem.W.nsIn K mainGlobals "order_by" = some (some (.ref f_order_by)))
    (l_order_by : K.lookup f_order_by = some ⟨oc_order_by, od_order_by, .func (PySem.W.fnOf "order_by" "order_by" (defArgs s_order_by) (defBody s_order_by) (defScope s_order_by) .none kV_order_by dc_order_by pm_order_by an_order_by cd_order_by ct_order_by), sl_order_by⟩)
    (c_order_by : PySem.W.codeIn K cd_order_by "order_by" = true)
    (k_order_by : PySem.W.keepIn K (.ref f_order_by) = true)
    (a_is_code : PySem.W.nsIn K mainGlobals "is_code" = some (some (.ref f_is_code)))
    (l_is_code : K.lookup f_is_code = some ⟨oc_is_code, od_is_code, .func (PySem.W.fnOf "is_code" "is_code" (defArgs s_is_code) (defBody s_is_code) (defScope s_is_code) .none kV_is_code dc_is_code pm_is_code an_is_code cd_is_code ct_is_code), sl_is_code⟩)
    (c_is_code : PySem.W.codeIn K cd_is_code "is_code" = true)
    (k_is_code : PySem.W.keepIn K (.ref f_is_code) = true)
    (a_many_orders : PySem.W.nsIn K mainGlobals "many_orders" = some (some (.ref f_many_orders)))
    (l_many_orders : K.lookup f_many_orders = some ⟨oc_many_orders, od_many_orders, .func (PySem.W.fnOf "many_orders" "many_orders" (defArgs s_many_orders) (defBody s_many_orders) (defScope s_many_orders) .none kV_many_orders dc_many_orders pm_many_orders an_many_orders cd_many_orders ct_many_orders), sl_many_orders⟩)
    (c_many_orders : PySem.W.codeIn K cd_many_orders "many_orders" = true)
    (k_many_orders : PySem.W.keepIn K (.ref f_many_orders) = true)
    (a_order_at : PySem.W.nsIn K mainGlobals "order_at" = some (some (.ref f_order_at)))
    (l_order_at : K.lookup f_order_at = some ⟨oc_order_at, od_order_at, .func (PySem.W.fnOf "order_at" "order_at" (defArgs s_order_at) (defBody s_order_at) (defScope s_order_at) .none kV_order_at dc_order_at pm_order_at an_order_at cd_order_at ct_order_at), sl_order_at⟩)
    (c_order_at : PySem.W.codeIn K cd_order_at "order_at" = true)
    (k_order_at : PySem.W.keepIn K (.ref f_order_at) = true)
    (a_order_index : PySem.W.nsIn K mainGlobals "order_index" = some (some (.ref f_order_index)))
    (l_order_index : K.lookup f_order_index = some ⟨oc_order_index, od_order_index, .func (PySem.W.fnOf "order_index" "order_index" (defArgs s_order_index) (defBody s_order_index) (defScope s_order_index) .none kV_order_index dc_order_index pm_order_index an_order_index cd_order_index ct_order_index), sl_order_index⟩)
    (c_order_index : PySem.W.codeIn K cd_order_index "order_index" = true)
    (k_order_index : PySem.W.keepIn K (.ref f_order_index) = true)
    (a_does_come : PySem.W.nsIn K mainGlobals "does_come" = some (some (.ref f_does_come)))
    (l_does_come : K.lookup f_does_come = some ⟨oc_does_come, od_does_come, .func (PySem.W.fnOf "does_come" "does_come" (defArgs s_does_come) (defBody s_does_come) (defScope s_does_come) .none kV_does_come dc_does_come pm_does_come an_does_come cd_does_come ct_does_come), sl_does_come⟩)
    (c_does_come : PySem.W.codeIn K cd_does_come "does_come" = true)
    (k_does_come : PySem.W.keepIn K (.ref f_does_come) = true)
    (a_ends_for : PySem.W.nsIn K mainGlobals "ends_for" = some (some (.ref f_ends_for)))
    (l_ends_for : K.lookup f_ends_for = some ⟨oc_ends_for, od_ends_for, .func (PySem.W.fnOf "ends_for" "ends_for" (defArgs s_ends_for) (defBody s_ends_for) (defScope s_ends_for) .none kV_ends_for dc_ends_for pm_ends_for an_ends_for cd_ends_for ct_ends_for), sl_ends_for⟩)
    (c_ends_for : PySem.W.codeIn K cd_ends_for "ends_for" = true)
    (k_ends_for : PySem.W.keepIn K (.ref f_ends_for) = true)
    (a_ends_with : PySem.W.nsIn K mainGlobals "ends_with" = some (some (.ref f_ends_with)))
    (l_ends_with : K.lookup f_ends_with = some ⟨oc_ends_with, od_ends_with, .func (PySem.W.fnOf "ends_with" "ends_with" (defArgs s_ends_with) (defBody s_ends_with) (defScope s_ends_with) .none kV_ends_with dc_ends_with pm_ends_with an_ends_with cd_ends_with ct_ends_with), sl_ends_with⟩)
    (c_ends_with : PySem.W.codeIn K cd_ends_with "ends_with" = true)
    (k_ends_with : PySem.W.keepIn K (.ref f_ends_with) = true)
    (a__law_number : PySem.W.nsIn K mainGlobals "_law_number" = some (some (.ref f__law_number)))
    (l__law_number : K.lookup f__law_number = some ⟨oc__law_number, od__law_number, .func (PySem.W.fnOf "_law_number" "_law_number" (defArgs s__law_number) (defBody s__law_number) (defScope s__law_number) .none kV__law_number dc__law_number pm__law_number an__law_number cd__law_number ct__law_number), sl__law_number⟩)
    (c__law_number : PySem.W.codeIn K cd__law_number "_law_number" = true)
    (k__law_number : PySem.W.keepIn K (.ref f__law_number) = true)
    (a__law_codes : PySem.W.nsIn K mainGlobals "_law_codes" = some (some (.ref f__law_codes)))
    (l__law_codes : K.lookup f__law_codes = some ⟨oc__law_codes, od__law_codes, .func (PySem.W.fnOf "_law_codes" "_law_codes" (defArgs s__law_codes) (defBody s__law_codes) (defScope s__law_codes) .none kV__law_codes dc__law_codes pm__law_codes an__law_codes cd__law_codes ct__law_codes), sl__law_codes⟩)
    (c__law_codes : PySem.W.codeIn K cd__law_codes "_law_codes" = true)
    (k__law_codes : PySem.W.keepIn K (.ref f__law_codes) = true)
    (a__law_entered : PySem.W.nsIn K mainGlobals "_law_entered" = some (some (.ref f__law_entered)))
    (l__law_entered : K.lookup f__law_entered = some ⟨oc__law_entered, od__law_entered, .func (PySem.W.fnOf "_law_entered" "_law_entered" (defArgs s__law_entered) (defBody s__law_entered) (defScope s__law_entered) .none kV__law_entered dc__law_entered pm__law_entered an__law_entered cd__law_entered ct__law_entered), sl__law_entered⟩)
    (c__law_entered : PySem.W.codeIn K cd__law_entered "_law_entered" = true)
    (k__law_entered : PySem.W.keepIn K (.ref f__law_entered) = true)
    (a__law_product : PySem.W.nsIn K mainGlobals "_law_product" = some (some (.ref f__law_product)))
    (l__law_product : K.lookup f__law_product = some ⟨oc__law_product, od__law_product, .func (PySem.W.fnOf "_law_product" "_law_product" (defArgs s__law_product) (defBody s__law_product) (defScope s__law_product) .none kV__law_product dc__law_product pm__law_product an__law_product cd__law_product ct__law_product), sl__law_product⟩)
    (c__law_product : PySem.W.codeIn K cd__law_product "_law_product" = true)
    (k__law_product : PySem.W.keepIn K (.ref f__law_product) = true)
    (a__law_few_right : PySem.W.nsIn K mainGlobals "_law_few_right" = some (some (.ref f__law_few_right)))
    (l__law_few_right : K.lookup f__law_few_right = some ⟨oc__law_few_right, od__law_few_right, .func (PySem.W.fnOf "_law_few_right" "_law_few_right" (defArgs s__law_few_right) (defBody s__law_few_right) (defScope s__law_few_right) .none kV__law_few_right dc__law_few_right pm__law_few_right an__law_few_right cd__law_few_right ct__law_few_right), sl__law_few_right⟩)
    (c__law_few_right : PySem.W.codeIn K cd__law_few_right "_law_few_right" = true)
    (k__law_few_right : PySem.W.keepIn K (.ref f__law_few_right) = true)
    (a_law : PySem.W.nsIn K mainGlobals "law" = some (some (.ref f_law)))
    (l_law : K.lookup f_law = some ⟨oc_law, od_law, .func (PySem.W.fnOf "law" "law" (defArgs s_law) (defBody s_law) (defScope s_law) .none kV_law dc_law pm_law an_law cd_law ct_law), sl_law⟩)
    (c_law : PySem.W.codeIn K cd_law "law" = true)
    (k_law : PySem.W.keepIn K (.ref f_law) = true)
    {tc_GREATEST_KEY : Tok}
    (q_GREATEST_KEY : PySem.W.nsIn K mainGlobals "GREATEST_KEY" = some (some (.int 1000000000 tc_GREATEST_KEY)))
    {tc_MOST_ARMS : Tok}
    (q_MOST_ARMS : PySem.W.nsIn K mainGlobals "MOST_ARMS" = some (some (.int 4 tc_MOST_ARMS)))
    {tc_MOST_ITEMS : Tok}
    (q_MOST_ITEMS : PySem.W.nsIn K mainGlobals "MOST_ITEMS" = some (some (.int 12 tc_MOST_ITEMS)))
    {tc_MOST_PLACES : Tok}
    (q_MOST_PLACES : PySem.W.nsIn K mainGlobals "MOST_PLACES" = some (some (.int 12 tc_MOST_PLACES)))
    {tc_MOST_ROOM : Tok}
    (q_MOST_ROOM : PySem.W.nsIn K mainGlobals "MOST_ROOM" = some (some (.int 12 tc_MOST_ROOM)))
    (z_all : PySem.W.nsIn K mainGlobals "all" = some none)
    (z_bool : PySem.W.nsIn K mainGlobals "bool" = some none)
    (z_enumerate : PySem.W.nsIn K mainGlobals "enumerate" = some none)
    (z_int : PySem.W.nsIn K mainGlobals "int" = some none)
    (z_isinstance : PySem.W.nsIn K mainGlobals "isinstance" = some none)
    (z_iter : PySem.W.nsIn K mainGlobals "iter" = some none)
    (z_len : PySem.W.nsIn K mainGlobals "len" = some none)
    (z_list : PySem.W.nsIn K mainGlobals "list" = some none)
    (z_max : PySem.W.nsIn K mainGlobals "max" = some none)
    (z_min : PySem.W.nsIn K mainGlobals "min" = some none)
    (z_range : PySem.W.nsIn K mainGlobals "range" = some none)
    (z_reversed : PySem.W.nsIn K mainGlobals "reversed" = some none)
    (z_sorted : PySem.W.nsIn K mainGlobals "sorted" = some none)
    (z_sum : PySem.W.nsIn K mainGlobals "sum" = some none)
    (z_tuple : PySem.W.nsIn K mainGlobals "tuple" = some none)
    (z_zip : PySem.W.nsIn K mainGlobals "zip" = some none)
    (pg : PySem.W.plainGet K C Str.empty = true)
    (hd : PySem.W.hasDictIn K C = true)
    (po_ : PySem.W.plainOver K C = true)
    (sa : PySem.W.findIn K (.ref C) "__setattr__" = some (some (.builtin "object.__setattr__")))
    (na_nMany : PySem.W.findIn K (.ref C) "many" = some none)
    (na_nArms : PySem.W.findIn K (.ref C) "arms" = some none)
    (na_nPl : PySem.W.findIn K (.ref C) "_places" = some none)
    (mk : PySem.W.makesIn K C = true)
    (kc : PySem.W.keepIn K (.ref C) = true)
    (rd : PySem.W.readsIn K C (.type "type") = true)
    (ga : PySem.W.specialIn K (.ref C) "__getattribute__" = some (some (.builtin "type.__getattribute__")))
    (pgS : PySem.W.plainGet K CS Str.empty = true)
    (hdS : PySem.W.hasDictIn K CS = true)
    (po_S : PySem.W.plainOver K CS = true)
    (saS : PySem.W.findIn K (.ref CS) "__setattr__" = some (some (.builtin "object.__setattr__")))
    (na_nRow : PySem.W.findIn K (.ref CS) "row" = some none)
    (na_nWay : PySem.W.findIn K (.ref CS) "way" = some none)
    (na_nLooks : PySem.W.findIn K (.ref CS) "looks" = some none)
    (mkS : PySem.W.makesIn K CS = true)
    (kcS : PySem.W.keepIn K (.ref CS) = true)
    (pgK : PySem.W.plainGet K CK Str.empty = true)
    (hdK : PySem.W.hasDictIn K CK = true)
    (po_K : PySem.W.plainOver K CK = true)
    (saK : PySem.W.findIn K (.ref CK) "__setattr__" = some (some (.builtin "object.__setattr__")))
    (na_kRoom : PySem.W.findIn K (.ref CK) "room" = some none)
    (na_kArms : PySem.W.findIn K (.ref CK) "arms" = some none)
    (na_kHeap : PySem.W.findIn K (.ref CK) "_heap" = some none)
    (na_kEnt : PySem.W.findIn K (.ref CK) "_entered" = some none)
    (na_kMark : PySem.W.findIn K (.ref CK) "_mark" = some none)
    (mkK : PySem.W.makesIn K CK = true)
    (kcK : PySem.W.keepIn K (.ref CK) = true)
    (pgM : PySem.W.plainGet K CM Str.empty = true)
    (hdM : PySem.W.hasDictIn K CM = true)
    (po_M : PySem.W.plainOver K CM = true)
    (saM : PySem.W.findIn K (.ref CM) "__setattr__" = some (some (.builtin "object.__setattr__")))
    (oiM : PySem.W.findIn K (.ref CM) "__init__" = some (some (.builtin "object.__init__")))
    (otM : PySem.W.mroIn K CM (.type "object") = some true)
    (mkM : PySem.W.makesIn K CM = true)
    (kcM : PySem.W.keepIn K (.ref CM) = true)
    (hT_least_child : h.get? PP_least_child = some (PySem.W.tabObj #[])) (hC_least_child : PySem.W.codeHdIn K cc_least_child PP_least_child = true) (hN_least_child : K.lookup PP_least_child = none)
    : LamX.LawAtS l w K CX0 16 63 "script" mg fa h := by
  have e := hfa.symm.trans (PySem.W.mg_of X G a_law)
  cases e
  let A : Ad := { f_is_integer := f_is_integer, d_is_integer := (PySem.W.fnOf "is_integer" "is_integer" (defArgs s_is_integer) (defBody s_is_integer) (defScope s_is_integer) .none kV_is_integer dc_is_integer pm_is_integer an_is_integer cd_is_integer ct_is_integer), f_is_integer_from := f_is_integer_from, d_is_integer_from := (PySem.W.fnOf "is_integer_from" "is_integer_from" (defArgs s_is_integer_from) (defBody s_is_integer_from) (defScope s_is_integer_from) .none kV_is_integer_from dc_is_integer_from pm_is_integer_from an_is_integer_from cd_is_integer_from ct_is_integer_from), f_is_key := f_is_key, d_is_key := (PySem.W.fnOf "is_key" "is_key" (defArgs s_is_key) (defBody s_is_key) (defScope s_is_key) .none kV_is_key dc_is_key pm_is_key an_is_key cd_is_key ct_is_key), f_check_arms := f_check_arms, d_check_arms := (PySem.W.fnOf "check_arms" "check_arms" (defArgs s_check_arms) (defBody s_check_arms) (defScope s_check_arms) .none kV_check_arms dc_check_arms pm_check_arms an_check_arms cd_check_arms ct_check_arms), f_check_many := f_check_many, d_check_many := (PySem.W.fnOf "check_many" "check_many" (defArgs s_check_many) (defBody s_check_many) (defScope s_check_many) .none kV_check_many dc_check_many pm_check_many an_check_many cd_check_many ct_check_many), f_check_place := f_check_place, d_check_place := (PySem.W.fnOf "check_place" "check_place" (defArgs s_check_place) (defBody s_check_place) (defScope s_check_place) .none kV_check_place dc_check_place pm_check_place an_check_place cd_check_place ct_check_place), f_check_key := f_check_key, d_check_key := (PySem.W.fnOf "check_key" "check_key" (defArgs s_check_key) (defBody s_check_key) (defScope s_check_key) .none kV_check_key dc_check_key pm_check_key an_check_key cd_check_key ct_check_key), f_check_room := f_check_room, d_check_room := (PySem.W.fnOf "check_room" "check_room" (defArgs s_check_room) (defBody s_check_room) (defScope s_check_room) .none kV_check_room dc_check_room pm_check_room an_check_room cd_check_room ct_check_room), f_check_index := f_check_index, d_check_index := (PySem.W.fnOf "check_index" "check_index" (defArgs s_check_index) (defBody s_check_index) (defScope s_check_index) .none kV_check_index dc_check_index pm_check_index an_check_index cd_check_index ct_check_index), f_check_count := f_check_count, d_check_count := (PySem.W.fnOf "check_count" "check_count" (defArgs s_check_count) (defBody s_check_count) (defScope s_check_count) .none kV_check_count dc_check_count pm_check_count an_check_count cd_check_count ct_check_count), f_row_of := f_row_of, d_row_of := (PySem.W.fnOf "row_of" "row_of" (defArgs s_row_of) (defBody s_row_of) (defScope s_row_of) .none kV_row_of dc_row_of pm_row_of an_row_of cd_row_of ct_row_of), f_is_full := f_is_full, d_is_full := (PySem.W.fnOf "is_full" "is_full" (defArgs s_is_full) (defBody s_is_full) (defScope s_is_full) .none kV_is_full dc_is_full pm_is_full an_is_full cd_is_full ct_is_full), f_t___init__ := f_t___init__, d_t___init__ := (PySem.W.fnOf "__init__" "Tree.__init__" (defArgs s_t___init__) (defBody s_t___init__) (defScope s_t___init__) .none (.ref D_t___init__) dc_t___init__ pm_t___init__ an_t___init__ cd_t___init__ ct_t___init__), f_t_of := f_t_of, d_t_of := (PySem.W.fnOf "of" "Tree.of" (defArgs s_t_of) (defBody s_t_of) (defScope s_t_of) .none (.ref D_t_of) dc_t_of pm_t_of an_t_of cd_t_of ct_t_of), f_t___len__ := f_t___len__, d_t___len__ := (PySem.W.fnOf "__len__" "Tree.__len__" (defArgs s_t___len__) (defBody s_t___len__) (defScope s_t___len__) .none kV_t___len__ dc_t___len__ pm_t___len__ an_t___len__ cd_t___len__ ct_t___len__), f_t___iter__ := f_t___iter__, d_t___iter__ := (PySem.W.fnOf "__iter__" "Tree.__iter__" (defArgs s_t___iter__) (defBody s_t___iter__) (defScope s_t___iter__) .none kV_t___iter__ dc_t___iter__ pm_t___iter__ an_t___iter__ cd_t___iter__ ct_t___iter__), f_t___getitem__ := f_t___getitem__, d_t___getitem__ := (PySem.W.fnOf "__getitem__" "Tree.__getitem__" (defArgs s_t___getitem__) (defBody s_t___getitem__) (defScope s_t___getitem__) .none kV_t___getitem__ dc_t___getitem__ pm_t___getitem__ an_t___getitem__ cd_t___getitem__ ct_t___getitem__), f_t_parent := f_t_parent, d_t_parent := (PySem.W.fnOf "parent" "Tree.parent" (defArgs s_t_parent) (defBody s_t_parent) (defScope s_t_parent) .none kV_t_parent dc_t_parent pm_t_parent an_t_parent cd_t_parent ct_t_parent), f_t_way_to := f_t_way_to, d_t_way_to := (PySem.W.fnOf "way_to" "Tree.way_to" (defArgs s_t_way_to) (defBody s_t_way_to) (defScope s_t_way_to) .none kV_t_way_to dc_t_way_to pm_t_way_to an_t_way_to cd_t_way_to ct_t_way_to), f_faults := f_faults, d_faults := (PySem.W.fnOf "faults" "faults" (defArgs s_faults) (defBody s_faults) (defScope s_faults) .none (.ref D_faults) dc_faults pm_faults an_faults cd_faults ct_faults), f_heap_of := f_heap_of, d_heap_of := (PySem.W.fnOf "heap_of" "heap_of" (defArgs s_heap_of) (defBody s_heap_of) (defScope s_heap_of) .none kV_heap_of dc_heap_of pm_heap_of an_heap_of cd_heap_of ct_heap_of), f_check_filled := f_check_filled, d_check_filled := (PySem.W.fnOf "check_filled" "check_filled" (defArgs s_check_filled) (defBody s_check_filled) (defScope s_check_filled) .none kV_check_filled dc_check_filled pm_check_filled an_check_filled cd_check_filled ct_check_filled), f_z___init__ := f_z___init__, d_z___init__ := (PySem.W.fnOf "__init__" "Sift.__init__" (defArgs s_z___init__) (defBody s_z___init__) (defScope s_z___init__) .none kV_z___init__ dc_z___init__ pm_z___init__ an_z___init__ cd_z___init__ ct_z___init__), f_sift_up := f_sift_up, d_sift_up := (PySem.W.fnOf "sift_up" "sift_up" (defArgs s_sift_up) (defBody s_sift_up) (defScope s_sift_up) .none (.ref D_sift_up) dc_sift_up pm_sift_up an_sift_up cd_sift_up ct_sift_up), f_sift_down := f_sift_down, d_sift_down := (PySem.W.fnOf "sift_down" "sift_down" (defArgs s_sift_down) (defBody s_sift_down) (defScope s_sift_down) .none (.ref D_sift_down) dc_sift_down pm_sift_down an_sift_down cd_sift_down ct_sift_down), f_least_child := f_least_child, d_least_child := (PySem.W.fnOf "least_child" "least_child" (defArgs s_least_child) (defBody s_least_child) (defScope s_least_child) .none kV_least_child dc_least_child pm_least_child an_least_child (.ref cc_least_child) ct_least_child), f_push := f_push, d_push := (PySem.W.fnOf "push" "push" (defArgs s_push) (defBody s_push) (defScope s_push) .none (.ref D_push) dc_push pm_push an_push cd_push ct_push), f_put_for := f_put_for, d_put_for := (PySem.W.fnOf "put_for" "put_for" (defArgs s_put_for) (defBody s_put_for) (defScope s_put_for) .none (.ref D_put_for) dc_put_for pm_put_for an_put_for cd_put_for ct_put_for), f_e___init__ := f_e___init__, d_e___init__ := (PySem.W.fnOf "__init__" "Keeper.__init__" (defArgs s_e___init__) (defBody s_e___init__) (defScope s_e___init__) .none (.ref D_e___init__) dc_e___init__ pm_e___init__ an_e___init__ cd_e___init__ ct_e___init__), f_e___len__ := f_e___len__, d_e___len__ := (PySem.W.fnOf "__len__" "Keeper.__len__" (defArgs s_e___len__) (defBody s_e___len__) (defScope s_e___len__) .none kV_e___len__ dc_e___len__ pm_e___len__ an_e___len__ cd_e___len__ ct_e___len__), f_e___contains__ := f_e___contains__, d_e___contains__ := (PySem.W.fnOf "__contains__" "Keeper.__contains__" (defArgs s_e___contains__) (defBody s_e___contains__) (defScope s_e___contains__) .none kV_e___contains__ dc_e___contains__ pm_e___contains__ an_e___contains__ cd_e___contains__ ct_e___contains__), f_e_heap := f_e_heap, d_e_heap := (PySem.W.fnOf "heap" "Keeper.heap" (defArgs s_e_heap) (defBody s_e_heap) (defScope s_e_heap) .none kV_e_heap dc_e_heap pm_e_heap an_e_heap cd_e_heap ct_e_heap), f_e_entered := f_e_entered, d_e_entered := (PySem.W.fnOf "entered" "Keeper.entered" (defArgs s_e_entered) (defBody s_e_entered) (defScope s_e_entered) .none kV_e_entered dc_e_entered pm_e_entered an_e_entered cd_e_entered ct_e_entered), f_e_see := f_e_see, d_e_see := (PySem.W.fnOf "see" "Keeper.see" (defArgs s_e_see) (defBody s_e_see) (defScope s_e_see) .none kV_e_see dc_e_see pm_e_see an_e_see cd_e_see ct_e_see), f_changes := f_changes, d_changes := (PySem.W.fnOf "changes" "changes" (defArgs s_changes) (defBody s_changes) (defScope s_changes) .none kV_changes dc_changes pm_changes an_changes cd_changes ct_changes), f_order_code := f_order_code, d_order_code := (PySem.W.fnOf "order_code" "order_code" (defArgs s_order_code) (defBody s_order_code) (defScope s_order_code) .none kV_order_code dc_order_code pm_order_code an_order_code cd_order_code ct_order_code), f_order_by := f_order_by, d_order_by := (PySem.W.fnOf "order_by" "order_by" (defArgs s_order_by) (defBody s_order_by) (defScope s_order_by) .none kV_order_by dc_order_by pm_order_by an_order_by cd_order_by ct_order_by), f_is_code := f_is_code, d_is_code := (PySem.W.fnOf "is_code" "is_code" (defArgs s_is_code) (defBody s_is_code) (defScope s_is_code) .none kV_is_code dc_is_code pm_is_code an_is_code cd_is_code ct_is_code), f_many_orders := f_many_orders, d_many_orders := (PySem.W.fnOf "many_orders" "many_orders" (defArgs s_many_orders) (defBody s_many_orders) (defScope s_many_orders) .none kV_many_orders dc_many_orders pm_many_orders an_many_orders cd_many_orders ct_many_orders), f_order_at := f_order_at, d_order_at := (PySem.W.fnOf "order_at" "order_at" (defArgs s_order_at) (defBody s_order_at) (defScope s_order_at) .none kV_order_at dc_order_at pm_order_at an_order_at cd_order_at ct_order_at), f_order_index := f_order_index, d_order_index := (PySem.W.fnOf "order_index" "order_index" (defArgs s_order_index) (defBody s_order_index) (defScope s_order_index) .none kV_order_index dc_order_index pm_order_index an_order_index cd_order_index ct_order_index), f_does_come := f_does_come, d_does_come := (PySem.W.fnOf "does_come" "does_come" (defArgs s_does_come) (defBody s_does_come) (defScope s_does_come) .none kV_does_come dc_does_come pm_does_come an_does_come cd_does_come ct_does_come), f_ends_for := f_ends_for, d_ends_for := (PySem.W.fnOf "ends_for" "ends_for" (defArgs s_ends_for) (defBody s_ends_for) (defScope s_ends_for) .none kV_ends_for dc_ends_for pm_ends_for an_ends_for cd_ends_for ct_ends_for), f_ends_with := f_ends_with, d_ends_with := (PySem.W.fnOf "ends_with" "ends_with" (defArgs s_ends_with) (defBody s_ends_with) (defScope s_ends_with) .none kV_ends_with dc_ends_with pm_ends_with an_ends_with cd_ends_with ct_ends_with), f__law_number := f__law_number, d__law_number := (PySem.W.fnOf "_law_number" "_law_number" (defArgs s__law_number) (defBody s__law_number) (defScope s__law_number) .none kV__law_number dc__law_number pm__law_number an__law_number cd__law_number ct__law_number), f__law_codes := f__law_codes, d__law_codes := (PySem.W.fnOf "_law_codes" "_law_codes" (defArgs s__law_codes) (defBody s__law_codes) (defScope s__law_codes) .none kV__law_codes dc__law_codes pm__law_codes an__law_codes cd__law_codes ct__law_codes), f__law_entered := f__law_entered, d__law_entered := (PySem.W.fnOf "_law_entered" "_law_entered" (defArgs s__law_entered) (defBody s__law_entered) (defScope s__law_entered) .none kV__law_entered dc__law_entered pm__law_entered an__law_entered cd__law_entered ct__law_entered), f__law_product := f__law_product, d__law_product := (PySem.W.fnOf "_law_product" "_law_product" (defArgs s__law_product) (defBody s__law_product) (defScope s__law_product) .none kV__law_product dc__law_product pm__law_product an__law_product cd__law_product ct__law_product), f__law_few_right := f__law_few_right, d__law_few_right := (PySem.W.fnOf "_law_few_right" "_law_few_right" (defArgs s__law_few_right) (defBody s__law_few_right) (defScope s__law_few_right) .none kV__law_few_right dc__law_few_right pm__law_few_right an__law_few_right cd__law_few_right ct__law_few_right), f_law := fa, d_law := (PySem.W.fnOf "law" "law" (defArgs s_law) (defBody s_law) (defScope s_law) .none kV_law dc_law pm_law an_law cd_law ct_law), p_e_heap := p_e_heap, p_e_entered := p_e_entered, C := C, CS := CS, CK := CK, CM := CM, po := po, c_least_child := cc_least_child, P_least_child := PP_least_child }
  have T : Tx K mg A := {
    F_is_integer := (fun_mk (st := s_is_integer) l_is_integer c_is_integer k_is_integer)
    m_is_integer := PySem.W.mg_of X G a_is_integer
    F_is_integer_from := (fun_mk (st := s_is_integer_from) l_is_integer_from c_is_integer_from k_is_integer_from)
    m_is_integer_from := PySem.W.mg_of X G a_is_integer_from
    F_is_key := (fun_mk (st := s_is_key) l_is_key c_is_key k_is_key)
    m_is_key := PySem.W.mg_of X G a_is_key
    F_check_arms := (fun_mk (st := s_check_arms) l_check_arms c_check_arms k_check_arms)
    m_check_arms := PySem.W.mg_of X G a_check_arms
    F_check_many := (fun_mk (st := s_check_many) l_check_many c_check_many k_check_many)
    m_check_many := PySem.W.mg_of X G a_check_many
    F_check_place := (fun_mk (st := s_check_place) l_check_place c_check_place k_check_place)
    m_check_place := PySem.W.mg_of X G a_check_place
    F_check_key := (fun_mk (st := s_check_key) l_check_key c_check_key k_check_key)
    m_check_key := PySem.W.mg_of X G a_check_key
    F_check_room := (fun_mk (st := s_check_room) l_check_room c_check_room k_check_room)
    m_check_room := PySem.W.mg_of X G a_check_room
    F_check_index := (fun_mk (st := s_check_index) l_check_index c_check_index k_check_index)
    m_check_index := PySem.W.mg_of X G a_check_index
    F_check_count := (fun_mk (st := s_check_count) l_check_count c_check_count k_check_count)
    m_check_count := PySem.W.mg_of X G a_check_count
    F_row_of := (fun_mk (st := s_row_of) l_row_of c_row_of k_row_of)
    m_row_of := PySem.W.mg_of X G a_row_of
    F_is_full := (fun_mk (st := s_is_full) l_is_full c_is_full k_is_full)
    m_is_full := PySem.W.mg_of X G a_is_full
    F_t___init__ := ⟨⟨_, _, _, _, _, _, _, _, _, _, rfl, l_t___init__, c_t___init__, .inl ⟨rfl, rfl⟩, .inr ⟨_, rfl, fun q hq => by rw [List.mem_singleton.mp hq]; exact ⟨_, w_t___init__, relI _ _⟩⟩⟩, k_t___init__⟩
    F_t_of := ⟨⟨_, _, _, _, _, _, _, _, _, _, rfl, l_t_of, c_t_of, .inl ⟨rfl, rfl⟩, .inr ⟨_, rfl, fun q hq => by rw [List.mem_singleton.mp hq]; exact ⟨_, w_t_of, relI _ _⟩⟩⟩, k_t_of⟩
    F_t___len__ := (fun_mk (st := s_t___len__) l_t___len__ c_t___len__ k_t___len__)
    D_t___len__ := ⟨a_t___len__, i_t___len__, n_t___len__⟩
    F_t___iter__ := (fun_mk (st := s_t___iter__) l_t___iter__ c_t___iter__ k_t___iter__)
    D_t___iter__ := ⟨a_t___iter__, i_t___iter__, n_t___iter__⟩
    F_t___getitem__ := (fun_mk (st := s_t___getitem__) l_t___getitem__ c_t___getitem__ k_t___getitem__)
    D_t___getitem__ := ⟨a_t___getitem__, i_t___getitem__, n_t___getitem__⟩
    F_t_parent := (fun_mk (st := s_t_parent) l_t_parent c_t_parent k_t_parent)
    M_t_parent := ⟨a_t_parent, i_t_parent, k_t_parent⟩
    F_t_way_to := (fun_mk (st := s_t_way_to) l_t_way_to c_t_way_to k_t_way_to)
    M_t_way_to := ⟨a_t_way_to, i_t_way_to, k_t_way_to⟩
    F_faults := ⟨⟨_, _, _, _, _, _, _, _, _, _, rfl, l_faults, c_faults, .inl ⟨rfl, rfl⟩, .inr ⟨_, rfl, fun q hq => by rw [List.mem_singleton.mp hq]; exact ⟨_, w_faults, relI _ _⟩⟩⟩, k_faults⟩
    m_faults := PySem.W.mg_of X G a_faults
    F_heap_of := (fun_mk (st := s_heap_of) l_heap_of c_heap_of k_heap_of)
    m_heap_of := PySem.W.mg_of X G a_heap_of
    F_check_filled := (fun_mk (st := s_check_filled) l_check_filled c_check_filled k_check_filled)
    m_check_filled := PySem.W.mg_of X G a_check_filled
    F_z___init__ := (fun_mk (st := s_z___init__) l_z___init__ c_z___init__ k_z___init__)
    F_sift_up := ⟨⟨_, _, _, _, _, _, _, _, _, _, rfl, l_sift_up, c_sift_up, .inl ⟨rfl, rfl⟩, .inr ⟨_, rfl, fun q hq => by rw [List.mem_singleton.mp hq]; exact ⟨_, w_sift_up, relI _ _⟩⟩⟩, k_sift_up⟩
    m_sift_up := PySem.W.mg_of X G a_sift_up
    F_sift_down := ⟨⟨_, _, _, _, _, _, _, _, _, _, rfl, l_sift_down, c_sift_down, .inl ⟨rfl, rfl⟩, .inr ⟨_, rfl, fun q hq => by rw [List.mem_singleton.mp hq]; exact ⟨_, w_sift_down, relI _ _⟩⟩⟩, k_sift_down⟩
    m_sift_down := PySem.W.mg_of X G a_sift_down
    L_least_child := ⟨_, _, _, _, _, _, _, _, rfl, l_least_child, c_least_child⟩
    F_least_child := (fun_mk (st := s_least_child) l_least_child c_least_child k_least_child)
    m_least_child := PySem.W.mg_of X G a_least_child
    F_push := ⟨⟨_, _, _, _, _, _, _, _, _, _, rfl, l_push, c_push, .inl ⟨rfl, rfl⟩, .inr ⟨_, rfl, fun q hq => by rw [List.mem_singleton.mp hq]; exact ⟨_, w_push, relI _ _⟩⟩⟩, k_push⟩
    m_push := PySem.W.mg_of X G a_push
    F_put_for := ⟨⟨_, _, _, _, _, _, _, _, _, _, rfl, l_put_for, c_put_for, .inl ⟨rfl, rfl⟩, .inr ⟨_, rfl, fun q hq => by rw [List.mem_singleton.mp hq]; exact ⟨_, w_put_for, relI _ _⟩⟩⟩, k_put_for⟩
    m_put_for := PySem.W.mg_of X G a_put_for
    F_e___init__ := ⟨⟨_, _, _, _, _, _, _, _, _, _, rfl, l_e___init__, c_e___init__, .inl ⟨rfl, rfl⟩, .inr ⟨_, rfl, fun q hq => by rw [List.mem_singleton.mp hq]; exact ⟨_, w_e___init__, relI _ _⟩⟩⟩, k_e___init__⟩
    F_e___len__ := (fun_mk (st := s_e___len__) l_e___len__ c_e___len__ k_e___len__)
    D_e___len__ := ⟨a_e___len__, i_e___len__, n_e___len__⟩
    F_e___contains__ := (fun_mk (st := s_e___contains__) l_e___contains__ c_e___contains__ k_e___contains__)
    D_e___contains__ := ⟨a_e___contains__, i_e___contains__, n_e___contains__⟩
    F_e_heap := (fun_mk (st := s_e_heap) l_e_heap c_e_heap k_e_heap)
    P_e_heap := ⟨a_e_heap, pg_e_heap, pt_e_heap, ⟨_, pr_e_heap⟩⟩
    F_e_entered := (fun_mk (st := s_e_entered) l_e_entered c_e_entered k_e_entered)
    P_e_entered := ⟨a_e_entered, pg_e_entered, pt_e_entered, ⟨_, pr_e_entered⟩⟩
    F_e_see := (fun_mk (st := s_e_see) l_e_see c_e_see k_e_see)
    M_e_see := ⟨a_e_see, i_e_see, k_e_see⟩
    F_changes := (fun_mk (st := s_changes) l_changes c_changes k_changes)
    m_changes := PySem.W.mg_of X G a_changes
    F_order_code := (fun_mk (st := s_order_code) l_order_code c_order_code k_order_code)
    m_order_code := PySem.W.mg_of X G a_order_code
    F_order_by := (fun_mk (st := s_order_by) l_order_by c_order_by k_order_by)
    m_order_by := PySem.W.mg_of X G a_order_by
    F_is_code := (fun_mk (st := s_is_code) l_is_code c_is_code k_is_code)
    m_is_code := PySem.W.mg_of X G a_is_code
    F_many_orders := (fun_mk (st := s_many_orders) l_many_orders c_many_orders k_many_orders)
    m_many_orders := PySem.W.mg_of X G a_many_orders
    F_order_at := (fun_mk (st := s_order_at) l_order_at c_order_at k_order_at)
    m_order_at := PySem.W.mg_of X G a_order_at
    F_order_index := (fun_mk (st := s_order_index) l_order_index c_order_index k_order_index)
    m_order_index := PySem.W.mg_of X G a_order_index
    F_does_come := (fun_mk (st := s_does_come) l_does_come c_does_come k_does_come)
    m_does_come := PySem.W.mg_of X G a_does_come
    F_ends_for := (fun_mk (st := s_ends_for) l_ends_for c_ends_for k_ends_for)
    m_ends_for := PySem.W.mg_of X G a_ends_for
    F_ends_with := (fun_mk (st := s_ends_with) l_ends_with c_ends_with k_ends_with)
    m_ends_with := PySem.W.mg_of X G a_ends_with
    F__law_number := (fun_mk (st := s__law_number) l__law_number c__law_number k__law_number)
    m__law_number := PySem.W.mg_of X G a__law_number
    F__law_codes := (fun_mk (st := s__law_codes) l__law_codes c__law_codes k__law_codes)
    m__law_codes := PySem.W.mg_of X G a__law_codes
    F__law_entered := (fun_mk (st := s__law_entered) l__law_entered c__law_entered k__law_entered)
    m__law_entered := PySem.W.mg_of X G a__law_entered
    F__law_product := (fun_mk (st := s__law_product) l__law_product c__law_product k__law_product)
    m__law_product := PySem.W.mg_of X G a__law_product
    F__law_few_right := (fun_mk (st := s__law_few_right) l__law_few_right c__law_few_right k__law_few_right)
    m__law_few_right := PySem.W.mg_of X G a__law_few_right
    F_law := (fun_mk (st := s_law) l_law c_law k_law)
    m_law := PySem.W.mg_of X G a_law
    c_GREATEST_KEY := .inr ⟨_, PySem.W.mg_of X G q_GREATEST_KEY⟩
    c_MOST_ARMS := .inr ⟨_, PySem.W.mg_of X G q_MOST_ARMS⟩
    c_MOST_ITEMS := .inr ⟨_, PySem.W.mg_of X G q_MOST_ITEMS⟩
    c_MOST_PLACES := .inr ⟨_, PySem.W.mg_of X G q_MOST_PLACES⟩
    c_MOST_ROOM := .inr ⟨_, PySem.W.mg_of X G q_MOST_ROOM⟩
    g_all := PySem.W.mg_none_of X G z_all
    g_bool := PySem.W.mg_none_of X G z_bool
    g_enumerate := PySem.W.mg_none_of X G z_enumerate
    g_int := PySem.W.mg_none_of X G z_int
    g_isinstance := PySem.W.mg_none_of X G z_isinstance
    g_iter := PySem.W.mg_none_of X G z_iter
    g_len := PySem.W.mg_none_of X G z_len
    g_list := PySem.W.mg_none_of X G z_list
    g_max := PySem.W.mg_none_of X G z_max
    g_min := PySem.W.mg_none_of X G z_min
    g_range := PySem.W.mg_none_of X G z_range
    g_reversed := PySem.W.mg_none_of X G z_reversed
    g_sorted := PySem.W.mg_none_of X G z_sorted
    g_sum := PySem.W.mg_none_of X G z_sum
    g_tuple := PySem.W.mg_none_of X G z_tuple
    g_zip := PySem.W.mg_none_of X G z_zip
    cT := ⟨pg, hd, po_, sa⟩
    nMany := na_nMany
    nArms := na_nArms
    nPl := na_nPl
    mC := PySem.W.mg_of X G aC
    mkC := ⟨mk, a_t___init__, i_t___init__, kc⟩
    cr := ⟨rd, ga⟩
    cof := ⟨a_t_of, ⟨_, r_t_of⟩, n_t_of⟩
    cTS := ⟨pgS, hdS, po_S, saS⟩
    nRow := na_nRow
    nWay := na_nWay
    nLooks := na_nLooks
    mCS := PySem.W.mg_of X G aCS
    mkCS := ⟨mkS, a_z___init__, i_z___init__, kcS⟩
    cTK := ⟨pgK, hdK, po_K, saK⟩
    kRoom := na_kRoom
    kArms := na_kArms
    kHeap := na_kHeap
    kEnt := na_kEnt
    kMark := na_kMark
    mCK := PySem.W.mg_of X G aCK
    mkCK := ⟨mkK, a_e___init__, i_e___init__, kcK⟩
    cTM := ⟨pgM, hdM, po_M, saM⟩
    mCM := PySem.W.mg_of X G aCM
    mkCM := ⟨mkM, oiM, otM, kcM⟩
  }
  refine ⟨A.d_law, [(cc_least_child, PP_least_child)], spLaw K A, fun p hp => by
    simp only [List.mem_cons, List.not_mem_nil, or_false] at hp
    rcases hp with rfl
    · exact hT_least_child, ?_, ?_, fun s v => .of_eq rfl, fun H a ns hl hb hH hS => ⟨a, ns, rfl, hS, hl, fun p hp => ?_, fun _ => rfl⟩, fun base _ _ hTB => ok_law T (hTB (cc_least_child, PP_least_child) (by simp))⟩
  · exact fun p hp => by
      simp only [List.mem_cons, List.not_mem_nil, or_false] at hp
      rcases hp with rfl
      · exact hN_least_child
  · exact fun p hp => by
      simp only [List.mem_cons, List.not_mem_nil, or_false] at hp
      rcases hp with rfl
      · exact PySem.W.codeHd_of_K X hC_least_child
  · unfold TT at hp
    simp only [List.mem_cons, List.not_mem_nil, or_false] at hp
    rcases hp with rfl
    · exact LamX.TabS.nil (hH (cc_least_child, PP_least_child) (by simp))
theorem walk {l : PySem.W.OpenLaw} {q : Program} {loose : List Str} {XP : (Str → Option Value) → Heap → Prop} {YP : World → Heap → Prop} {d : DefRec} {K : Params → PySem.W.Frag} (hn : l.most = some 63) (hdf : d.params.defaults = [])
    (hY : ∀ (w : World) (h : Heap), YP w h → (K w.params).In h)
    (F : ∀ (w : World) (mg : Str → Option Value) (fa : Addr) (h : Heap), YP w h → (K w.params).In h → h.Ns mainGlobals mg → mg d.name = some (.ref fa) → LamX.LawAtS l w (K w.params) CX0 16 63 "script" mg fa h) :
    PySem.W.WalkO q loose XP YP l.row.toRowW d [] (fun f vs => PySem.call f vs) :=
  LamX.walk_ofTs (n := 63) (k := 16) (x := "script") (CX := fun _ => CX0) hn (by decide) hdf ⟨rfl, by decide, by decide⟩ hY F fun _ _ _ _ _ z => z
end Tw

set_option Elab.async false
set_option linter.all false
set_option maxRecDepth 100000
set_option maxHeartbeats 2000000
namespace Tw
open PySem PySem.Spec PyProof.Rows L2
set_option maxHeartbeats 0
abbrev R0 : PySem.W.OpenRow := PySem.W.OpenLaw.row PySem.Challenge.rw_heaprows_k60_whole_changes_counted
def q_is_integer : Sh.FnA := ⟨fun K => (Sh.gA K "is_integer"), "is_integer", "is_integer", defArgs s_is_integer, defBody s_is_integer, defScope s_is_integer⟩
def q_is_integer_from : Sh.FnA := ⟨fun K => (Sh.gA K "is_integer_from"), "is_integer_from", "is_integer_from", defArgs s_is_integer_from, defBody s_is_integer_from, defScope s_is_integer_from⟩
def q_is_key : Sh.FnA := ⟨fun K => (Sh.gA K "is_key"), "is_key", "is_key", defArgs s_is_key, defBody s_is_key, defScope s_is_key⟩
def q_check_arms : Sh.FnA := ⟨fun K => (Sh.gA K "check_arms"), "check_arms", "check_arms", defArgs s_check_arms, defBody s_check_arms, defScope s_check_arms⟩
def q_check_many : Sh.FnA := ⟨fun K => (Sh.gA K "check_many"), "check_many", "check_many", defArgs s_check_many, defBody s_check_many, defScope s_check_many⟩
def q_check_place : Sh.FnA := ⟨fun K => (Sh.gA K "check_place"), "check_place", "check_place", defArgs s_check_place, defBody s_check_place, defScope s_check_place⟩
def q_check_key : Sh.FnA := ⟨fun K => (Sh.gA K "check_key"), "check_key", "check_key", defArgs s_check_key, defBody s_check_key, defScope s_check_key⟩
def q_check_room : Sh.FnA := ⟨fun K => (Sh.gA K "check_room"), "check_room", "check_room", defArgs s_check_room, defBody s_check_room, defScope s_check_room⟩
def q_check_index : Sh.FnA := ⟨fun K => (Sh.gA K "check_index"), "check_index", "check_index", defArgs s_check_index, defBody s_check_index, defScope s_check_index⟩
def q_check_count : Sh.FnA := ⟨fun K => (Sh.gA K "check_count"), "check_count", "check_count", defArgs s_check_count, defBody s_check_count, defScope s_check_count⟩
def q_row_of : Sh.FnA := ⟨fun K => (Sh.gA K "row_of"), "row_of", "row_of", defArgs s_row_of, defBody s_row_of, defScope s_row_of⟩
def q_is_full : Sh.FnA := ⟨fun K => (Sh.gA K "is_full"), "is_full", "is_full", defArgs s_is_full, defBody s_is_full, defScope s_is_full⟩
def q_t___init__ : Sh.FnA := ⟨fun K => (Sh.mA K (Sh.gA K "Tree") "__init__"), "__init__", "Tree.__init__", defArgs s_t___init__, defBody s_t___init__, defScope s_t___init__⟩
def q_t_of : Sh.FnA := ⟨fun K => (Sh.recA K (Sh.clsA K (Sh.gA K "Tree") "of") "classmethod"), "of", "Tree.of", defArgs s_t_of, defBody s_t_of, defScope s_t_of⟩
def q_t___len__ : Sh.FnA := ⟨fun K => (Sh.mA K (Sh.gA K "Tree") "__len__"), "__len__", "Tree.__len__", defArgs s_t___len__, defBody s_t___len__, defScope s_t___len__⟩
def q_t___iter__ : Sh.FnA := ⟨fun K => (Sh.mA K (Sh.gA K "Tree") "__iter__"), "__iter__", "Tree.__iter__", defArgs s_t___iter__, defBody s_t___iter__, defScope s_t___iter__⟩
def q_t___getitem__ : Sh.FnA := ⟨fun K => (Sh.mA K (Sh.gA K "Tree") "__getitem__"), "__getitem__", "Tree.__getitem__", defArgs s_t___getitem__, defBody s_t___getitem__, defScope s_t___getitem__⟩
def q_t_parent : Sh.FnA := ⟨fun K => (Sh.mA K (Sh.gA K "Tree") "parent"), "parent", "Tree.parent", defArgs s_t_parent, defBody s_t_parent, defScope s_t_parent⟩
def q_t_way_to : Sh.FnA := ⟨fun K => (Sh.mA K (Sh.gA K "Tree") "way_to"), "way_to", "Tree.way_to", defArgs s_t_way_to, defBody s_t_way_to, defScope s_t_way_to⟩
def q_faults : Sh.FnA := ⟨fun K => (Sh.gA K "faults"), "faults", "faults", defArgs s_faults, defBody s_faults, defScope s_faults⟩
def q_heap_of : Sh.FnA := ⟨fun K => (Sh.gA K "heap_of"), "heap_of", "heap_of", defArgs s_heap_of, defBody s_heap_of, defScope s_heap_of⟩
def q_check_filled : Sh.FnA := ⟨fun K => (Sh.gA K "check_filled"), "check_filled", "check_filled", defArgs s_check_filled, defBody s_check_filled, defScope s_check_filled⟩
def q_z___init__ : Sh.FnA := ⟨fun K => (Sh.mA K (Sh.gA K "Sift") "__init__"), "__init__", "Sift.__init__", defArgs s_z___init__, defBody s_z___init__, defScope s_z___init__⟩
def q_sift_up : Sh.FnA := ⟨fun K => (Sh.gA K "sift_up"), "sift_up", "sift_up", defArgs s_sift_up, defBody s_sift_up, defScope s_sift_up⟩
def q_sift_down : Sh.FnA := ⟨fun K => (Sh.gA K "sift_down"), "sift_down", "sift_down", defArgs s_sift_down, defBody s_sift_down, defScope s_sift_down⟩
def q_least_child : Sh.FnA := ⟨fun K => (Sh.gA K "least_child"), "least_child", "least_child", defArgs s_least_child, defBody s_least_child, defScope s_least_child⟩
def q_push : Sh.FnA := ⟨fun K => (Sh.gA K "push"), "push", "push", defArgs s_push, defBody s_push, defScope s_push⟩
def q_put_for : Sh.FnA := ⟨fun K => (Sh.gA K "put_for"), "put_for", "put_for", defArgs s_put_for, defBody s_put_for, defScope s_put_for⟩
def q_e___init__ : Sh.FnA := ⟨fun K => (Sh.mA K (Sh.gA K "Keeper") "__init__"), "__init__", "Keeper.__init__", defArgs s_e___init__, defBody s_e___init__, defScope s_e___init__⟩
def q_e___len__ : Sh.FnA := ⟨fun K => (Sh.mA K (Sh.gA K "Keeper") "__len__"), "__len__", "Keeper.__len__", defArgs s_e___len__, defBody s_e___len__, defScope s_e___len__⟩
def q_e___contains__ : Sh.FnA := ⟨fun K => (Sh.mA K (Sh.gA K "Keeper") "__contains__"), "__contains__", "Keeper.__contains__", defArgs s_e___contains__, defBody s_e___contains__, defScope s_e___contains__⟩
def q_e_heap : Sh.FnA := ⟨fun K => (Sh.recA K (Sh.mA K (Sh.gA K "Keeper") "heap") "property"), "heap", "Keeper.heap", defArgs s_e_heap, defBody s_e_heap, defScope s_e_heap⟩
def q_e_entered : Sh.FnA := ⟨fun K => (Sh.recA K (Sh.mA K (Sh.gA K "Keeper") "entered") "property"), "entered", "Keeper.entered", defArgs s_e_entered, defBody s_e_entered, defScope s_e_entered⟩
def q_e_see : Sh.FnA := ⟨fun K => (Sh.mA K (Sh.gA K "Keeper") "see"), "see", "Keeper.see", defArgs s_e_see, defBody s_e_see, defScope s_e_see⟩
def q_changes : Sh.FnA := ⟨fun K => (Sh.gA K "changes"), "changes", "changes", defArgs s_changes, defBody s_changes, defScope s_changes⟩
def q_order_code : Sh.FnA := ⟨fun K => (Sh.gA K "order_code"), "order_code", "order_code", defArgs s_order_code, defBody s_order_code, defScope s_order_code⟩
def q_order_by : Sh.FnA := ⟨fun K => (Sh.gA K "order_by"), "order_by", "order_by", defArgs s_order_by, defBody s_order_by, defScope s_order_by⟩
def q_is_code : Sh.FnA := ⟨fun K => (Sh.gA K "is_code"), "is_code", "is_code", defArgs s_is_code, defBody s_is_code, defScope s_is_code⟩
def q_many_orders : Sh.FnA := ⟨fun K => (Sh.gA K "many_orders"), "many_orders", "many_orders", defArgs s_many_orders, defBody s_many_orders, defScope s_many_orders⟩
def q_order_at : Sh.FnA := ⟨fun K => (Sh.gA K "order_at"), "order_at", "order_at", defArgs s_order_at, defBody s_order_at, defScope s_order_at⟩
def q_order_index : Sh.FnA := ⟨fun K => (Sh.gA K "order_index"), "order_index", "order_index", defArgs s_order_index, defBody s_order_index, defScope s_order_index⟩
def q_does_come : Sh.FnA := ⟨fun K => (Sh.gA K "does_come"), "does_come", "does_come", defArgs s_does_come, defBody s_does_come, defScope s_does_come⟩
def q_ends_for : Sh.FnA := ⟨fun K => (Sh.gA K "ends_for"), "ends_for", "ends_for", defArgs s_ends_for, defBody s_ends_for, defScope s_ends_for⟩
def q_ends_with : Sh.FnA := ⟨fun K => (Sh.gA K "ends_with"), "ends_with", "ends_with", defArgs s_ends_with, defBody s_ends_with, defScope s_ends_with⟩
def q__law_number : Sh.FnA := ⟨fun K => (Sh.gA K "_law_number"), "_law_number", "_law_number", defArgs s__law_number, defBody s__law_number, defScope s__law_number⟩
def q__law_codes : Sh.FnA := ⟨fun K => (Sh.gA K "_law_codes"), "_law_codes", "_law_codes", defArgs s__law_codes, defBody s__law_codes, defScope s__law_codes⟩
def q__law_entered : Sh.FnA := ⟨fun K => (Sh.gA K "_law_entered"), "_law_entered", "_law_entered", defArgs s__law_entered, defBody s__law_entered, defScope s__law_entered⟩
def q__law_product : Sh.FnA := ⟨fun K => (Sh.gA K "_law_product"), "_law_product", "_law_product", defArgs s__law_product, defBody s__law_product, defScope s__law_product⟩
def q__law_few_right : Sh.FnA := ⟨fun K => (Sh.gA K "_law_few_right"), "_law_few_right", "_law_few_right", defArgs s__law_few_right, defBody s__law_few_right, defScope s__law_few_right⟩
def q_law : Sh.FnA := ⟨fun K => (Sh.gA K "law"), "law", "law", defArgs s_law, defBody s_law, defScope s_law⟩
def fns0 : List Sh.FnA := [q_is_integer, q_is_integer_from, q_is_key, q_check_arms, q_check_many, q_check_place, q_check_key, q_check_room, q_check_index, q_check_count, q_row_of, q_is_full, q_t___init__, q_t_of, q_t___len__, q_t___iter__, q_t___getitem__, q_t_parent, q_t_way_to, q_faults, q_heap_of, q_check_filled, q_z___init__, q_sift_up, q_sift_down]
def fns1 : List Sh.FnA := [q_least_child, q_push, q_put_for, q_e___init__, q_e___len__, q_e___contains__, q_e_heap, q_e_entered, q_e_see, q_changes, q_order_code, q_order_by, q_is_code, q_many_orders, q_order_at, q_order_index, q_does_come, q_ends_for, q_ends_with, q__law_number, q__law_codes, q__law_entered, q__law_product, q__law_few_right, q_law]
def fns : List Sh.FnA := fns0 ++ fns1
def gr0 (K : PySem.W.Frag) : Bool := decide (PySem.W.nsIn K mainGlobals "Tree" = some (some (.ref (Sh.gA K "Tree")))) && (decide (PySem.W.nsIn K mainGlobals "Sift" = some (some (.ref (Sh.gA K "Sift")))) && (decide (PySem.W.nsIn K mainGlobals "Keeper" = some (some (.ref (Sh.gA K "Keeper")))) && (decide (PySem.W.nsIn K mainGlobals "Mark" = some (some (.ref (Sh.gA K "Mark")))) && (decide (PySem.W.nsIn K mainGlobals "is_integer" = some (some (.ref (Sh.gA K "is_integer")))) && (decide (PySem.W.nsIn K mainGlobals "is_integer_from" = some (some (.ref (Sh.gA K "is_integer_from")))) && (decide (PySem.W.nsIn K mainGlobals "is_key" = some (some (.ref (Sh.gA K "is_key")))) && (decide (PySem.W.nsIn K mainGlobals "check_arms" = some (some (.ref (Sh.gA K "check_arms")))) && (decide (PySem.W.nsIn K mainGlobals "check_many" = some (some (.ref (Sh.gA K "check_many")))) && (decide (PySem.W.nsIn K mainGlobals "check_place" = some (some (.ref (Sh.gA K "check_place")))) && (decide (PySem.W.nsIn K mainGlobals "check_key" = some (some (.ref (Sh.gA K "check_key")))) && (decide (PySem.W.nsIn K mainGlobals "check_room" = some (some (.ref (Sh.gA K "check_room")))))))))))))))
theorem gr0_ok {K : PySem.W.Frag} (h : gr0 K = true) : (PySem.W.nsIn K mainGlobals "Tree" = some (some (.ref (Sh.gA K "Tree")))) ∧ (PySem.W.nsIn K mainGlobals "Sift" = some (some (.ref (Sh.gA K "Sift")))) ∧ (PySem.W.nsIn K mainGlobals "Keeper" = some (some (.ref (Sh.gA K "Keeper")))) ∧ (PySem.W.nsIn K mainGlobals "Mark" = some (some (.ref (Sh.gA K "Mark")))) ∧ (PySem.W.nsIn K mainGlobals "is_integer" = some (some (.ref (Sh.gA K "is_integer")))) ∧ (PySem.W.nsIn K mainGlobals "is_integer_from" = some (some (.ref (Sh.gA K "is_integer_from")))) ∧ (PySem.W.nsIn K mainGlobals "is_key" = some (some (.ref (Sh.gA K "is_key")))) ∧ (PySem.W.nsIn K mainGlobals "check_arms" = some (some (.ref (Sh.gA K "check_arms")))) ∧ (PySem.W.nsIn K mainGlobals "check_many" = some (some (.ref (Sh.gA K "check_many")))) ∧ (PySem.W.nsIn K mainGlobals "check_place" = some (some (.ref (Sh.gA K "check_place")))) ∧ (PySem.W.nsIn K mainGlobals "check_key" = some (some (.ref (Sh.gA K "check_key")))) ∧ (PySem.W.nsIn K mainGlobals "check_room" = some (some (.ref (Sh.gA K "check_room")))) := by
  unfold gr0 at h
  obtain ⟨h0, h⟩ := Sh.band h
  obtain ⟨h1, h⟩ := Sh.band h
  obtain ⟨h2, h⟩ := Sh.band h
  obtain ⟨h3, h⟩ := Sh.band h
  obtain ⟨h4, h⟩ := Sh.band h
  obtain ⟨h5, h⟩ := Sh.band h
  obtain ⟨h6, h⟩ := Sh.band h
  obtain ⟨h7, h⟩ := Sh.band h
  obtain ⟨h8, h⟩ := Sh.band h
  obtain ⟨h9, h⟩ := Sh.band h
  obtain ⟨h10, h⟩ := Sh.band h
  exact ⟨of_decide_eq_true h0, of_decide_eq_true h1, of_decide_eq_true h2, of_decide_eq_true h3, of_decide_eq_true h4, of_decide_eq_true h5, of_decide_eq_true h6, of_decide_eq_true h7, of_decide_eq_true h8, of_decide_eq_true h9, of_decide_eq_true h10, of_decide_eq_true h⟩
def gr1 (K : PySem.W.Frag) : Bool := decide (PySem.W.nsIn K mainGlobals "check_index" = some (some (.ref (Sh.gA K "check_index")))) && (decide (PySem.W.nsIn K mainGlobals "check_count" = some (some (.ref (Sh.gA K "check_count")))) && (decide (PySem.W.nsIn K mainGlobals "row_of" = some (some (.ref (Sh.gA K "row_of")))) && (decide (PySem.W.nsIn K mainGlobals "is_full" = some (some (.ref (Sh.gA K "is_full")))) && (decide (PySem.W.findIn K (.ref (Sh.gA K "Tree")) "__init__" = some (some (.ref (Sh.mA K (Sh.gA K "Tree") "__init__")))) && (decide (PySem.W.isFn K (.ref (Sh.mA K (Sh.gA K "Tree") "__init__")) = true) && (decide (PySem.W.nsIn K (Sh.kwA K (Sh.mA K (Sh.gA K "Tree") "__init__")) "arms" = some (some (.int 2 (Sh.tokI K (Sh.kwA K (Sh.mA K (Sh.gA K "Tree") "__init__")) "arms")))) && (Sh.ofB K (Sh.gA K "Tree") (Sh.clsA K (Sh.gA K "Tree") "of") "of" && (decide (PySem.W.recIn K (Sh.clsA K (Sh.gA K "Tree") "of") "classmethod" = some (.ref (Sh.recA K (Sh.clsA K (Sh.gA K "Tree") "of") "classmethod") :: (Sh.recT K (Sh.clsA K (Sh.gA K "Tree") "of") "classmethod"))) && (decide (PySem.W.fnIn K (Sh.recA K (Sh.clsA K (Sh.gA K "Tree") "of") "classmethod") = true) && (decide (PySem.W.nsIn K (Sh.kwA K (Sh.recA K (Sh.clsA K (Sh.gA K "Tree") "of") "classmethod")) "arms" = some (some (.int 2 (Sh.tokI K (Sh.kwA K (Sh.recA K (Sh.clsA K (Sh.gA K "Tree") "of") "classmethod")) "arms")))) && (decide (PySem.W.findIn K (.ref (Sh.gA K "Tree")) "__len__" = some (some (.ref (Sh.mA K (Sh.gA K "Tree") "__len__")))))))))))))))
theorem gr1_ok {K : PySem.W.Frag} (h : gr1 K = true) : (PySem.W.nsIn K mainGlobals "check_index" = some (some (.ref (Sh.gA K "check_index")))) ∧ (PySem.W.nsIn K mainGlobals "check_count" = some (some (.ref (Sh.gA K "check_count")))) ∧ (PySem.W.nsIn K mainGlobals "row_of" = some (some (.ref (Sh.gA K "row_of")))) ∧ (PySem.W.nsIn K mainGlobals "is_full" = some (some (.ref (Sh.gA K "is_full")))) ∧ (PySem.W.findIn K (.ref (Sh.gA K "Tree")) "__init__" = some (some (.ref (Sh.mA K (Sh.gA K "Tree") "__init__")))) ∧ (PySem.W.isFn K (.ref (Sh.mA K (Sh.gA K "Tree") "__init__")) = true) ∧ (PySem.W.nsIn K (Sh.kwA K (Sh.mA K (Sh.gA K "Tree") "__init__")) "arms" = some (some (.int 2 (Sh.tokI K (Sh.kwA K (Sh.mA K (Sh.gA K "Tree") "__init__")) "arms")))) ∧ (PySem.W.findCls K (.ref (Sh.gA K "Tree")) (.type "type") "of" = some (.get (.builtin "classmethod.__get__") (.ref (Sh.clsA K (Sh.gA K "Tree") "of")) .none (.ref (Sh.gA K "Tree")))) ∧ (PySem.W.recIn K (Sh.clsA K (Sh.gA K "Tree") "of") "classmethod" = some (.ref (Sh.recA K (Sh.clsA K (Sh.gA K "Tree") "of") "classmethod") :: (Sh.recT K (Sh.clsA K (Sh.gA K "Tree") "of") "classmethod"))) ∧ (PySem.W.fnIn K (Sh.recA K (Sh.clsA K (Sh.gA K "Tree") "of") "classmethod") = true) ∧ (PySem.W.nsIn K (Sh.kwA K (Sh.recA K (Sh.clsA K (Sh.gA K "Tree") "of") "classmethod")) "arms" = some (some (.int 2 (Sh.tokI K (Sh.kwA K (Sh.recA K (Sh.clsA K (Sh.gA K "Tree") "of") "classmethod")) "arms")))) ∧ (PySem.W.findIn K (.ref (Sh.gA K "Tree")) "__len__" = some (some (.ref (Sh.mA K (Sh.gA K "Tree") "__len__")))) := by
  unfold gr1 at h
  obtain ⟨h0, h⟩ := Sh.band h
  obtain ⟨h1, h⟩ := Sh.band h
  obtain ⟨h2, h⟩ := Sh.band h
  obtain ⟨h3, h⟩ := Sh.band h
  obtain ⟨h4, h⟩ := Sh.band h
  obtain ⟨h5, h⟩ := Sh.band h
  obtain ⟨h6, h⟩ := Sh.band h
  obtain ⟨h7, h⟩ := Sh.band h
  obtain ⟨h8, h⟩ := Sh.band h
  obtain ⟨h9, h⟩ := Sh.band h
  obtain ⟨h10, h⟩ := Sh.band h
  exact ⟨of_decide_eq_true h0, of_decide_eq_true h1, of_decide_eq_true h2, of_decide_eq_true h3, of_decide_eq_true h4, of_decide_eq_true h5, of_decide_eq_true h6, Sh.ofB_ok h7, of_decide_eq_true h8, of_decide_eq_true h9, of_decide_eq_true h10, of_decide_eq_true h⟩
def gr2 (K : PySem.W.Frag) : Bool := decide (PySem.W.isFn K (.ref (Sh.mA K (Sh.gA K "Tree") "__len__")) = true) && (decide (PySem.W.fnIn K (Sh.mA K (Sh.gA K "Tree") "__len__") = true) && (decide (PySem.W.findIn K (.ref (Sh.gA K "Tree")) "__iter__" = some (some (.ref (Sh.mA K (Sh.gA K "Tree") "__iter__")))) && (decide (PySem.W.isFn K (.ref (Sh.mA K (Sh.gA K "Tree") "__iter__")) = true) && (decide (PySem.W.fnIn K (Sh.mA K (Sh.gA K "Tree") "__iter__") = true) && (decide (PySem.W.findIn K (.ref (Sh.gA K "Tree")) "__getitem__" = some (some (.ref (Sh.mA K (Sh.gA K "Tree") "__getitem__")))) && (decide (PySem.W.isFn K (.ref (Sh.mA K (Sh.gA K "Tree") "__getitem__")) = true) && (decide (PySem.W.fnIn K (Sh.mA K (Sh.gA K "Tree") "__getitem__") = true) && (decide (PySem.W.findIn K (.ref (Sh.gA K "Tree")) "parent" = some (some (.ref (Sh.mA K (Sh.gA K "Tree") "parent")))) && (decide (PySem.W.isFn K (.ref (Sh.mA K (Sh.gA K "Tree") "parent")) = true) && (decide (PySem.W.findIn K (.ref (Sh.gA K "Tree")) "way_to" = some (some (.ref (Sh.mA K (Sh.gA K "Tree") "way_to")))) && (decide (PySem.W.isFn K (.ref (Sh.mA K (Sh.gA K "Tree") "way_to")) = true))))))))))))
theorem gr2_ok {K : PySem.W.Frag} (h : gr2 K = true) : (PySem.W.isFn K (.ref (Sh.mA K (Sh.gA K "Tree") "__len__")) = true) ∧ (PySem.W.fnIn K (Sh.mA K (Sh.gA K "Tree") "__len__") = true) ∧ (PySem.W.findIn K (.ref (Sh.gA K "Tree")) "__iter__" = some (some (.ref (Sh.mA K (Sh.gA K "Tree") "__iter__")))) ∧ (PySem.W.isFn K (.ref (Sh.mA K (Sh.gA K "Tree") "__iter__")) = true) ∧ (PySem.W.fnIn K (Sh.mA K (Sh.gA K "Tree") "__iter__") = true) ∧ (PySem.W.findIn K (.ref (Sh.gA K "Tree")) "__getitem__" = some (some (.ref (Sh.mA K (Sh.gA K "Tree") "__getitem__")))) ∧ (PySem.W.isFn K (.ref (Sh.mA K (Sh.gA K "Tree") "__getitem__")) = true) ∧ (PySem.W.fnIn K (Sh.mA K (Sh.gA K "Tree") "__getitem__") = true) ∧ (PySem.W.findIn K (.ref (Sh.gA K "Tree")) "parent" = some (some (.ref (Sh.mA K (Sh.gA K "Tree") "parent")))) ∧ (PySem.W.isFn K (.ref (Sh.mA K (Sh.gA K "Tree") "parent")) = true) ∧ (PySem.W.findIn K (.ref (Sh.gA K "Tree")) "way_to" = some (some (.ref (Sh.mA K (Sh.gA K "Tree") "way_to")))) ∧ (PySem.W.isFn K (.ref (Sh.mA K (Sh.gA K "Tree") "way_to")) = true) := by
  unfold gr2 at h
  obtain ⟨h0, h⟩ := Sh.band h
  obtain ⟨h1, h⟩ := Sh.band h
  obtain ⟨h2, h⟩ := Sh.band h
  obtain ⟨h3, h⟩ := Sh.band h
  obtain ⟨h4, h⟩ := Sh.band h
  obtain ⟨h5, h⟩ := Sh.band h
  obtain ⟨h6, h⟩ := Sh.band h
  obtain ⟨h7, h⟩ := Sh.band h
  obtain ⟨h8, h⟩ := Sh.band h
  obtain ⟨h9, h⟩ := Sh.band h
  obtain ⟨h10, h⟩ := Sh.band h
  exact ⟨of_decide_eq_true h0, of_decide_eq_true h1, of_decide_eq_true h2, of_decide_eq_true h3, of_decide_eq_true h4, of_decide_eq_true h5, of_decide_eq_true h6, of_decide_eq_true h7, of_decide_eq_true h8, of_decide_eq_true h9, of_decide_eq_true h10, of_decide_eq_true h⟩
def gr3 (K : PySem.W.Frag) : Bool := decide (PySem.W.nsIn K mainGlobals "faults" = some (some (.ref (Sh.gA K "faults")))) && (decide (PySem.W.nsIn K (Sh.kwA K (Sh.gA K "faults")) "arms" = some (some (.int 2 (Sh.tokI K (Sh.kwA K (Sh.gA K "faults")) "arms")))) && (decide (PySem.W.nsIn K mainGlobals "heap_of" = some (some (.ref (Sh.gA K "heap_of")))) && (decide (PySem.W.nsIn K mainGlobals "check_filled" = some (some (.ref (Sh.gA K "check_filled")))) && (decide (PySem.W.findIn K (.ref (Sh.gA K "Sift")) "__init__" = some (some (.ref (Sh.mA K (Sh.gA K "Sift") "__init__")))) && (decide (PySem.W.isFn K (.ref (Sh.mA K (Sh.gA K "Sift") "__init__")) = true) && (decide (PySem.W.nsIn K mainGlobals "sift_up" = some (some (.ref (Sh.gA K "sift_up")))) && (decide (PySem.W.nsIn K (Sh.kwA K (Sh.gA K "sift_up")) "arms" = some (some (.int 2 (Sh.tokI K (Sh.kwA K (Sh.gA K "sift_up")) "arms")))) && (decide (PySem.W.nsIn K mainGlobals "sift_down" = some (some (.ref (Sh.gA K "sift_down")))) && (decide (PySem.W.nsIn K (Sh.kwA K (Sh.gA K "sift_down")) "arms" = some (some (.int 2 (Sh.tokI K (Sh.kwA K (Sh.gA K "sift_down")) "arms")))) && (decide (PySem.W.nsIn K mainGlobals "least_child" = some (some (.ref (Sh.gA K "least_child")))) && (decide (PySem.W.nsIn K mainGlobals "push" = some (some (.ref (Sh.gA K "push")))))))))))))))
theorem gr3_ok {K : PySem.W.Frag} (h : gr3 K = true) : (PySem.W.nsIn K mainGlobals "faults" = some (some (.ref (Sh.gA K "faults")))) ∧ (PySem.W.nsIn K (Sh.kwA K (Sh.gA K "faults")) "arms" = some (some (.int 2 (Sh.tokI K (Sh.kwA K (Sh.gA K "faults")) "arms")))) ∧ (PySem.W.nsIn K mainGlobals "heap_of" = some (some (.ref (Sh.gA K "heap_of")))) ∧ (PySem.W.nsIn K mainGlobals "check_filled" = some (some (.ref (Sh.gA K "check_filled")))) ∧ (PySem.W.findIn K (.ref (Sh.gA K "Sift")) "__init__" = some (some (.ref (Sh.mA K (Sh.gA K "Sift") "__init__")))) ∧ (PySem.W.isFn K (.ref (Sh.mA K (Sh.gA K "Sift") "__init__")) = true) ∧ (PySem.W.nsIn K mainGlobals "sift_up" = some (some (.ref (Sh.gA K "sift_up")))) ∧ (PySem.W.nsIn K (Sh.kwA K (Sh.gA K "sift_up")) "arms" = some (some (.int 2 (Sh.tokI K (Sh.kwA K (Sh.gA K "sift_up")) "arms")))) ∧ (PySem.W.nsIn K mainGlobals "sift_down" = some (some (.ref (Sh.gA K "sift_down")))) ∧ (PySem.W.nsIn K (Sh.kwA K (Sh.gA K "sift_down")) "arms" = some (some (.int 2 (Sh.tokI K (Sh.kwA K (Sh.gA K "sift_down")) "arms")))) ∧ (PySem.W.nsIn K mainGlobals "least_child" = some (some (.ref (Sh.gA K "least_child")))) ∧ (PySem.W.nsIn K mainGlobals "push" = some (some (.ref (Sh.gA K "push")))) := by
  unfold gr3 at h
  obtain ⟨h0, h⟩ := Sh.band h
  obtain ⟨h1, h⟩ := Sh.band h
  obtain ⟨h2, h⟩ := Sh.band h
  obtain ⟨h3, h⟩ := Sh.band h
  obtain ⟨h4, h⟩ := Sh.band h
  obtain ⟨h5, h⟩ := Sh.band h
  obtain ⟨h6, h⟩ := Sh.band h
  obtain ⟨h7, h⟩ := Sh.band h
  obtain ⟨h8, h⟩ := Sh.band h
  obtain ⟨h9, h⟩ := Sh.band h
  obtain ⟨h10, h⟩ := Sh.band h
  exact ⟨of_decide_eq_true h0, of_decide_eq_true h1, of_decide_eq_true h2, of_decide_eq_true h3, of_decide_eq_true h4, of_decide_eq_true h5, of_decide_eq_true h6, of_decide_eq_true h7, of_decide_eq_true h8, of_decide_eq_true h9, of_decide_eq_true h10, of_decide_eq_true h⟩
def gr4 (K : PySem.W.Frag) : Bool := decide (PySem.W.nsIn K (Sh.kwA K (Sh.gA K "push")) "arms" = some (some (.int 2 (Sh.tokI K (Sh.kwA K (Sh.gA K "push")) "arms")))) && (decide (PySem.W.nsIn K mainGlobals "put_for" = some (some (.ref (Sh.gA K "put_for")))) && (decide (PySem.W.nsIn K (Sh.kwA K (Sh.gA K "put_for")) "arms" = some (some (.int 2 (Sh.tokI K (Sh.kwA K (Sh.gA K "put_for")) "arms")))) && (decide (PySem.W.findIn K (.ref (Sh.gA K "Keeper")) "__init__" = some (some (.ref (Sh.mA K (Sh.gA K "Keeper") "__init__")))) && (decide (PySem.W.isFn K (.ref (Sh.mA K (Sh.gA K "Keeper") "__init__")) = true) && (decide (PySem.W.nsIn K (Sh.kwA K (Sh.mA K (Sh.gA K "Keeper") "__init__")) "arms" = some (some (.int 2 (Sh.tokI K (Sh.kwA K (Sh.mA K (Sh.gA K "Keeper") "__init__")) "arms")))) && (decide (PySem.W.findIn K (.ref (Sh.gA K "Keeper")) "__len__" = some (some (.ref (Sh.mA K (Sh.gA K "Keeper") "__len__")))) && (decide (PySem.W.isFn K (.ref (Sh.mA K (Sh.gA K "Keeper") "__len__")) = true) && (decide (PySem.W.fnIn K (Sh.mA K (Sh.gA K "Keeper") "__len__") = true) && (decide (PySem.W.findIn K (.ref (Sh.gA K "Keeper")) "__contains__" = some (some (.ref (Sh.mA K (Sh.gA K "Keeper") "__contains__")))) && (decide (PySem.W.isFn K (.ref (Sh.mA K (Sh.gA K "Keeper") "__contains__")) = true) && (decide (PySem.W.fnIn K (Sh.mA K (Sh.gA K "Keeper") "__contains__") = true))))))))))))
theorem gr4_ok {K : PySem.W.Frag} (h : gr4 K = true) : (PySem.W.nsIn K (Sh.kwA K (Sh.gA K "push")) "arms" = some (some (.int 2 (Sh.tokI K (Sh.kwA K (Sh.gA K "push")) "arms")))) ∧ (PySem.W.nsIn K mainGlobals "put_for" = some (some (.ref (Sh.gA K "put_for")))) ∧ (PySem.W.nsIn K (Sh.kwA K (Sh.gA K "put_for")) "arms" = some (some (.int 2 (Sh.tokI K (Sh.kwA K (Sh.gA K "put_for")) "arms")))) ∧ (PySem.W.findIn K (.ref (Sh.gA K "Keeper")) "__init__" = some (some (.ref (Sh.mA K (Sh.gA K "Keeper") "__init__")))) ∧ (PySem.W.isFn K (.ref (Sh.mA K (Sh.gA K "Keeper") "__init__")) = true) ∧ (PySem.W.nsIn K (Sh.kwA K (Sh.mA K (Sh.gA K "Keeper") "__init__")) "arms" = some (some (.int 2 (Sh.tokI K (Sh.kwA K (Sh.mA K (Sh.gA K "Keeper") "__init__")) "arms")))) ∧ (PySem.W.findIn K (.ref (Sh.gA K "Keeper")) "__len__" = some (some (.ref (Sh.mA K (Sh.gA K "Keeper") "__len__")))) ∧ (PySem.W.isFn K (.ref (Sh.mA K (Sh.gA K "Keeper") "__len__")) = true) ∧ (PySem.W.fnIn K (Sh.mA K (Sh.gA K "Keeper") "__len__") = true) ∧ (PySem.W.findIn K (.ref (Sh.gA K "Keeper")) "__contains__" = some (some (.ref (Sh.mA K (Sh.gA K "Keeper") "__contains__")))) ∧ (PySem.W.isFn K (.ref (Sh.mA K (Sh.gA K "Keeper") "__contains__")) = true) ∧ (PySem.W.fnIn K (Sh.mA K (Sh.gA K "Keeper") "__contains__") = true) := by
  unfold gr4 at h
  obtain ⟨h0, h⟩ := Sh.band h
  obtain ⟨h1, h⟩ := Sh.band h
  obtain ⟨h2, h⟩ := Sh.band h
  obtain ⟨h3, h⟩ := Sh.band h
  obtain ⟨h4, h⟩ := Sh.band h
  obtain ⟨h5, h⟩ := Sh.band h
  obtain ⟨h6, h⟩ := Sh.band h
  obtain ⟨h7, h⟩ := Sh.band h
  obtain ⟨h8, h⟩ := Sh.band h
  obtain ⟨h9, h⟩ := Sh.band h
  obtain ⟨h10, h⟩ := Sh.band h
  exact ⟨of_decide_eq_true h0, of_decide_eq_true h1, of_decide_eq_true h2, of_decide_eq_true h3, of_decide_eq_true h4, of_decide_eq_true h5, of_decide_eq_true h6, of_decide_eq_true h7, of_decide_eq_true h8, of_decide_eq_true h9, of_decide_eq_true h10, of_decide_eq_true h⟩
def gr5 (K : PySem.W.Frag) : Bool := decide (PySem.W.findIn K (.ref (Sh.gA K "Keeper")) "heap" = some (some (.ref (Sh.mA K (Sh.gA K "Keeper") "heap")))) && (decide (PySem.W.specialIn K (.ref (Sh.mA K (Sh.gA K "Keeper") "heap")) "__get__" = some (some (.builtin "property.__get__"))) && (decide (PySem.W.takesIn K (.ref (Sh.mA K (Sh.gA K "Keeper") "heap")) = some true) && (decide (PySem.W.recIn K (Sh.mA K (Sh.gA K "Keeper") "heap") "property" = some (.ref (Sh.recA K (Sh.mA K (Sh.gA K "Keeper") "heap") "property") :: (Sh.recT K (Sh.mA K (Sh.gA K "Keeper") "heap") "property"))) && (decide (PySem.W.findIn K (.ref (Sh.gA K "Keeper")) "entered" = some (some (.ref (Sh.mA K (Sh.gA K "Keeper") "entered")))) && (decide (PySem.W.specialIn K (.ref (Sh.mA K (Sh.gA K "Keeper") "entered")) "__get__" = some (some (.builtin "property.__get__"))) && (decide (PySem.W.takesIn K (.ref (Sh.mA K (Sh.gA K "Keeper") "entered")) = some true) && (decide (PySem.W.recIn K (Sh.mA K (Sh.gA K "Keeper") "entered") "property" = some (.ref (Sh.recA K (Sh.mA K (Sh.gA K "Keeper") "entered") "property") :: (Sh.recT K (Sh.mA K (Sh.gA K "Keeper") "entered") "property"))) && (decide (PySem.W.findIn K (.ref (Sh.gA K "Keeper")) "see" = some (some (.ref (Sh.mA K (Sh.gA K "Keeper") "see")))) && (decide (PySem.W.isFn K (.ref (Sh.mA K (Sh.gA K "Keeper") "see")) = true) && (decide (PySem.W.nsIn K mainGlobals "changes" = some (some (.ref (Sh.gA K "changes")))) && (decide (PySem.W.nsIn K mainGlobals "order_code" = some (some (.ref (Sh.gA K "order_code")))))))))))))))
theorem gr5_ok {K : PySem.W.Frag} (h : gr5 K = true) : (PySem.W.findIn K (.ref (Sh.gA K "Keeper")) "heap" = some (some (.ref (Sh.mA K (Sh.gA K "Keeper") "heap")))) ∧ (PySem.W.specialIn K (.ref (Sh.mA K (Sh.gA K "Keeper") "heap")) "__get__" = some (some (.builtin "property.__get__"))) ∧ (PySem.W.takesIn K (.ref (Sh.mA K (Sh.gA K "Keeper") "heap")) = some true) ∧ (PySem.W.recIn K (Sh.mA K (Sh.gA K "Keeper") "heap") "property" = some (.ref (Sh.recA K (Sh.mA K (Sh.gA K "Keeper") "heap") "property") :: (Sh.recT K (Sh.mA K (Sh.gA K "Keeper") "heap") "property"))) ∧ (PySem.W.findIn K (.ref (Sh.gA K "Keeper")) "entered" = some (some (.ref (Sh.mA K (Sh.gA K "Keeper") "entered")))) ∧ (PySem.W.specialIn K (.ref (Sh.mA K (Sh.gA K "Keeper") "entered")) "__get__" = some (some (.builtin "property.__get__"))) ∧ (PySem.W.takesIn K (.ref (Sh.mA K (Sh.gA K "Keeper") "entered")) = some true) ∧ (PySem.W.recIn K (Sh.mA K (Sh.gA K "Keeper") "entered") "property" = some (.ref (Sh.recA K (Sh.mA K (Sh.gA K "Keeper") "entered") "property") :: (Sh.recT K (Sh.mA K (Sh.gA K "Keeper") "entered") "property"))) ∧ (PySem.W.findIn K (.ref (Sh.gA K "Keeper")) "see" = some (some (.ref (Sh.mA K (Sh.gA K "Keeper") "see")))) ∧ (PySem.W.isFn K (.ref (Sh.mA K (Sh.gA K "Keeper") "see")) = true) ∧ (PySem.W.nsIn K mainGlobals "changes" = some (some (.ref (Sh.gA K "changes")))) ∧ (PySem.W.nsIn K mainGlobals "order_code" = some (some (.ref (Sh.gA K "order_code")))) := by
  unfold gr5 at h
  obtain ⟨h0, h⟩ := Sh.band h
  obtain ⟨h1, h⟩ := Sh.band h
  obtain ⟨h2, h⟩ := Sh.band h
  obtain ⟨h3, h⟩ := Sh.band h
  obtain ⟨h4, h⟩ := Sh.band h
  obtain ⟨h5, h⟩ := Sh.band h
  obtain ⟨h6, h⟩ := Sh.band h
  obtain ⟨h7, h⟩ := Sh.band h
  obtain ⟨h8, h⟩ := Sh.band h
  obtain ⟨h9, h⟩ := Sh.band h
  obtain ⟨h10, h⟩ := Sh.band h
  exact ⟨of_decide_eq_true h0, of_decide_eq_true h1, of_decide_eq_true h2, of_decide_eq_true h3, of_decide_eq_true h4, of_decide_eq_true h5, of_decide_eq_true h6, of_decide_eq_true h7, of_decide_eq_true h8, of_decide_eq_true h9, of_decide_eq_true h10, of_decide_eq_true h⟩
def gr6 (K : PySem.W.Frag) : Bool := decide (PySem.W.nsIn K mainGlobals "order_by" = some (some (.ref (Sh.gA K "order_by")))) && (decide (PySem.W.nsIn K mainGlobals "is_code" = some (some (.ref (Sh.gA K "is_code")))) && (decide (PySem.W.nsIn K mainGlobals "many_orders" = some (some (.ref (Sh.gA K "many_orders")))) && (decide (PySem.W.nsIn K mainGlobals "order_at" = some (some (.ref (Sh.gA K "order_at")))) && (decide (PySem.W.nsIn K mainGlobals "order_index" = some (some (.ref (Sh.gA K "order_index")))) && (decide (PySem.W.nsIn K mainGlobals "does_come" = some (some (.ref (Sh.gA K "does_come")))) && (decide (PySem.W.nsIn K mainGlobals "ends_for" = some (some (.ref (Sh.gA K "ends_for")))) && (decide (PySem.W.nsIn K mainGlobals "ends_with" = some (some (.ref (Sh.gA K "ends_with")))) && (decide (PySem.W.nsIn K mainGlobals "_law_number" = some (some (.ref (Sh.gA K "_law_number")))) && (decide (PySem.W.nsIn K mainGlobals "_law_codes" = some (some (.ref (Sh.gA K "_law_codes")))) && (decide (PySem.W.nsIn K mainGlobals "_law_entered" = some (some (.ref (Sh.gA K "_law_entered")))) && (decide (PySem.W.nsIn K mainGlobals "_law_product" = some (some (.ref (Sh.gA K "_law_product")))))))))))))))
theorem gr6_ok {K : PySem.W.Frag} (h : gr6 K = true) : (PySem.W.nsIn K mainGlobals "order_by" = some (some (.ref (Sh.gA K "order_by")))) ∧ (PySem.W.nsIn K mainGlobals "is_code" = some (some (.ref (Sh.gA K "is_code")))) ∧ (PySem.W.nsIn K mainGlobals "many_orders" = some (some (.ref (Sh.gA K "many_orders")))) ∧ (PySem.W.nsIn K mainGlobals "order_at" = some (some (.ref (Sh.gA K "order_at")))) ∧ (PySem.W.nsIn K mainGlobals "order_index" = some (some (.ref (Sh.gA K "order_index")))) ∧ (PySem.W.nsIn K mainGlobals "does_come" = some (some (.ref (Sh.gA K "does_come")))) ∧ (PySem.W.nsIn K mainGlobals "ends_for" = some (some (.ref (Sh.gA K "ends_for")))) ∧ (PySem.W.nsIn K mainGlobals "ends_with" = some (some (.ref (Sh.gA K "ends_with")))) ∧ (PySem.W.nsIn K mainGlobals "_law_number" = some (some (.ref (Sh.gA K "_law_number")))) ∧ (PySem.W.nsIn K mainGlobals "_law_codes" = some (some (.ref (Sh.gA K "_law_codes")))) ∧ (PySem.W.nsIn K mainGlobals "_law_entered" = some (some (.ref (Sh.gA K "_law_entered")))) ∧ (PySem.W.nsIn K mainGlobals "_law_product" = some (some (.ref (Sh.gA K "_law_product")))) := by
  unfold gr6 at h
  obtain ⟨h0, h⟩ := Sh.band h
  obtain ⟨h1, h⟩ := Sh.band h
  obtain ⟨h2, h⟩ := Sh.band h
  obtain ⟨h3, h⟩ := Sh.band h
  obtain ⟨h4, h⟩ := Sh.band h
  obtain ⟨h5, h⟩ := Sh.band h
  obtain ⟨h6, h⟩ := Sh.band h
  obtain ⟨h7, h⟩ := Sh.band h
  obtain ⟨h8, h⟩ := Sh.band h
  obtain ⟨h9, h⟩ := Sh.band h
  obtain ⟨h10, h⟩ := Sh.band h
  exact ⟨of_decide_eq_true h0, of_decide_eq_true h1, of_decide_eq_true h2, of_decide_eq_true h3, of_decide_eq_true h4, of_decide_eq_true h5, of_decide_eq_true h6, of_decide_eq_true h7, of_decide_eq_true h8, of_decide_eq_true h9, of_decide_eq_true h10, of_decide_eq_true h⟩
def gr7 (K : PySem.W.Frag) : Bool := decide (PySem.W.nsIn K mainGlobals "_law_few_right" = some (some (.ref (Sh.gA K "_law_few_right")))) && (decide (PySem.W.nsIn K mainGlobals "law" = some (some (.ref (Sh.gA K "law")))) && (decide (PySem.W.nsIn K mainGlobals "GREATEST_KEY" = some (some (.int 1000000000 (Sh.tokI K mainGlobals "GREATEST_KEY")))) && (decide (PySem.W.nsIn K mainGlobals "MOST_ARMS" = some (some (.int 4 (Sh.tokI K mainGlobals "MOST_ARMS")))) && (decide (PySem.W.nsIn K mainGlobals "MOST_ITEMS" = some (some (.int 12 (Sh.tokI K mainGlobals "MOST_ITEMS")))) && (decide (PySem.W.nsIn K mainGlobals "MOST_PLACES" = some (some (.int 12 (Sh.tokI K mainGlobals "MOST_PLACES")))) && (decide (PySem.W.nsIn K mainGlobals "MOST_ROOM" = some (some (.int 12 (Sh.tokI K mainGlobals "MOST_ROOM")))) && (decide (PySem.W.nsIn K mainGlobals "all" = some none) && (decide (PySem.W.nsIn K mainGlobals "bool" = some none) && (decide (PySem.W.nsIn K mainGlobals "enumerate" = some none) && (decide (PySem.W.nsIn K mainGlobals "int" = some none) && (decide (PySem.W.nsIn K mainGlobals "isinstance" = some none))))))))))))
theorem gr7_ok {K : PySem.W.Frag} (h : gr7 K = true) : (PySem.W.nsIn K mainGlobals "_law_few_right" = some (some (.ref (Sh.gA K "_law_few_right")))) ∧ (PySem.W.nsIn K mainGlobals "law" = some (some (.ref (Sh.gA K "law")))) ∧ (PySem.W.nsIn K mainGlobals "GREATEST_KEY" = some (some (.int 1000000000 (Sh.tokI K mainGlobals "GREATEST_KEY")))) ∧ (PySem.W.nsIn K mainGlobals "MOST_ARMS" = some (some (.int 4 (Sh.tokI K mainGlobals "MOST_ARMS")))) ∧ (PySem.W.nsIn K mainGlobals "MOST_ITEMS" = some (some (.int 12 (Sh.tokI K mainGlobals "MOST_ITEMS")))) ∧ (PySem.W.nsIn K mainGlobals "MOST_PLACES" = some (some (.int 12 (Sh.tokI K mainGlobals "MOST_PLACES")))) ∧ (PySem.W.nsIn K mainGlobals "MOST_ROOM" = some (some (.int 12 (Sh.tokI K mainGlobals "MOST_ROOM")))) ∧ (PySem.W.nsIn K mainGlobals "all" = some none) ∧ (PySem.W.nsIn K mainGlobals "bool" = some none) ∧ (PySem.W.nsIn K mainGlobals "enumerate" = some none) ∧ (PySem.W.nsIn K mainGlobals "int" = some none) ∧ (PySem.W.nsIn K mainGlobals "isinstance" = some none) := by
  unfold gr7 at h
  obtain ⟨h0, h⟩ := Sh.band h
  obtain ⟨h1, h⟩ := Sh.band h
  obtain ⟨h2, h⟩ := Sh.band h
  obtain ⟨h3, h⟩ := Sh.band h
  obtain ⟨h4, h⟩ := Sh.band h
  obtain ⟨h5, h⟩ := Sh.band h
  obtain ⟨h6, h⟩ := Sh.band h
  obtain ⟨h7, h⟩ := Sh.band h
  obtain ⟨h8, h⟩ := Sh.band h
  obtain ⟨h9, h⟩ := Sh.band h
  obtain ⟨h10, h⟩ := Sh.band h
  exact ⟨of_decide_eq_true h0, of_decide_eq_true h1, of_decide_eq_true h2, of_decide_eq_true h3, of_decide_eq_true h4, of_decide_eq_true h5, of_decide_eq_true h6, of_decide_eq_true h7, of_decide_eq_true h8, of_decide_eq_true h9, of_decide_eq_true h10, of_decide_eq_true h⟩
def gr8 (K : PySem.W.Frag) : Bool := decide (PySem.W.nsIn K mainGlobals "iter" = some none) && (decide (PySem.W.nsIn K mainGlobals "len" = some none) && (decide (PySem.W.nsIn K mainGlobals "list" = some none) && (decide (PySem.W.nsIn K mainGlobals "max" = some none) && (decide (PySem.W.nsIn K mainGlobals "min" = some none) && (decide (PySem.W.nsIn K mainGlobals "range" = some none) && (decide (PySem.W.nsIn K mainGlobals "reversed" = some none) && (decide (PySem.W.nsIn K mainGlobals "sorted" = some none) && (decide (PySem.W.nsIn K mainGlobals "sum" = some none) && (decide (PySem.W.nsIn K mainGlobals "tuple" = some none) && (decide (PySem.W.nsIn K mainGlobals "zip" = some none) && (decide (PySem.W.plainGet K (Sh.gA K "Tree") Str.empty = true))))))))))))
theorem gr8_ok {K : PySem.W.Frag} (h : gr8 K = true) : (PySem.W.nsIn K mainGlobals "iter" = some none) ∧ (PySem.W.nsIn K mainGlobals "len" = some none) ∧ (PySem.W.nsIn K mainGlobals "list" = some none) ∧ (PySem.W.nsIn K mainGlobals "max" = some none) ∧ (PySem.W.nsIn K mainGlobals "min" = some none) ∧ (PySem.W.nsIn K mainGlobals "range" = some none) ∧ (PySem.W.nsIn K mainGlobals "reversed" = some none) ∧ (PySem.W.nsIn K mainGlobals "sorted" = some none) ∧ (PySem.W.nsIn K mainGlobals "sum" = some none) ∧ (PySem.W.nsIn K mainGlobals "tuple" = some none) ∧ (PySem.W.nsIn K mainGlobals "zip" = some none) ∧ (PySem.W.plainGet K (Sh.gA K "Tree") Str.empty = true) := by
  unfold gr8 at h
  obtain ⟨h0, h⟩ := Sh.band h
  obtain ⟨h1, h⟩ := Sh.band h
  obtain ⟨h2, h⟩ := Sh.band h
  obtain ⟨h3, h⟩ := Sh.band h
  obtain ⟨h4, h⟩ := Sh.band h
  obtain ⟨h5, h⟩ := Sh.band h
  obtain ⟨h6, h⟩ := Sh.band h
  obtain ⟨h7, h⟩ := Sh.band h
  obtain ⟨h8, h⟩ := Sh.band h
  obtain ⟨h9, h⟩ := Sh.band h
  obtain ⟨h10, h⟩ := Sh.band h
  exact ⟨of_decide_eq_true h0, of_decide_eq_true h1, of_decide_eq_true h2, of_decide_eq_true h3, of_decide_eq_true h4, of_decide_eq_true h5, of_decide_eq_true h6, of_decide_eq_true h7, of_decide_eq_true h8, of_decide_eq_true h9, of_decide_eq_true h10, of_decide_eq_true h⟩
def gr9 (K : PySem.W.Frag) : Bool := decide (PySem.W.hasDictIn K (Sh.gA K "Tree") = true) && (decide (PySem.W.plainOver K (Sh.gA K "Tree") = true) && (decide (PySem.W.findIn K (.ref (Sh.gA K "Tree")) "__setattr__" = some (some (.builtin "object.__setattr__"))) && (decide (PySem.W.findIn K (.ref (Sh.gA K "Tree")) "many" = some none) && (decide (PySem.W.findIn K (.ref (Sh.gA K "Tree")) "arms" = some none) && (decide (PySem.W.findIn K (.ref (Sh.gA K "Tree")) "_places" = some none) && (decide (PySem.W.makesIn K (Sh.gA K "Tree") = true) && (decide (PySem.W.keepIn K (.ref (Sh.gA K "Tree")) = true) && (decide (PySem.W.readsIn K (Sh.gA K "Tree") (.type "type") = true) && (decide (PySem.W.specialIn K (.ref (Sh.gA K "Tree")) "__getattribute__" = some (some (.builtin "type.__getattribute__"))) && (decide (PySem.W.plainGet K (Sh.gA K "Sift") Str.empty = true) && (decide (PySem.W.hasDictIn K (Sh.gA K "Sift") = true))))))))))))
theorem gr9_ok {K : PySem.W.Frag} (h : gr9 K = true) : (PySem.W.hasDictIn K (Sh.gA K "Tree") = true) ∧ (PySem.W.plainOver K (Sh.gA K "Tree") = true) ∧ (PySem.W.findIn K (.ref (Sh.gA K "Tree")) "__setattr__" = some (some (.builtin "object.__setattr__"))) ∧ (PySem.W.findIn K (.ref (Sh.gA K "Tree")) "many" = some none) ∧ (PySem.W.findIn K (.ref (Sh.gA K "Tree")) "arms" = some none) ∧ (PySem.W.findIn K (.ref (Sh.gA K "Tree")) "_places" = some none) ∧ (PySem.W.makesIn K (Sh.gA K "Tree") = true) ∧ (PySem.W.keepIn K (.ref (Sh.gA K "Tree")) = true) ∧ (PySem.W.readsIn K (Sh.gA K "Tree") (.type "type") = true) ∧ (PySem.W.specialIn K (.ref (Sh.gA K "Tree")) "__getattribute__" = some (some (.builtin "type.__getattribute__"))) ∧ (PySem.W.plainGet K (Sh.gA K "Sift") Str.empty = true) ∧ (PySem.W.hasDictIn K (Sh.gA K "Sift") = true) := by
  unfold gr9 at h
  obtain ⟨h0, h⟩ := Sh.band h
  obtain ⟨h1, h⟩ := Sh.band h
  obtain ⟨h2, h⟩ := Sh.band h
  obtain ⟨h3, h⟩ := Sh.band h
  obtain ⟨h4, h⟩ := Sh.band h
  obtain ⟨h5, h⟩ := Sh.band h
  obtain ⟨h6, h⟩ := Sh.band h
  obtain ⟨h7, h⟩ := Sh.band h
  obtain ⟨h8, h⟩ := Sh.band h
  obtain ⟨h9, h⟩ := Sh.band h
  obtain ⟨h10, h⟩ := Sh.band h
  exact ⟨of_decide_eq_true h0, of_decide_eq_true h1, of_decide_eq_true h2, of_decide_eq_true h3, of_decide_eq_true h4, of_decide_eq_true h5, of_decide_eq_true h6, of_decide_eq_true h7, of_decide_eq_true h8, of_decide_eq_true h9, of_decide_eq_true h10, of_decide_eq_true h⟩
def gr10 (K : PySem.W.Frag) : Bool := decide (PySem.W.plainOver K (Sh.gA K "Sift") = true) && (decide (PySem.W.findIn K (.ref (Sh.gA K "Sift")) "__setattr__" = some (some (.builtin "object.__setattr__"))) && (decide (PySem.W.findIn K (.ref (Sh.gA K "Sift")) "row" = some none) && (decide (PySem.W.findIn K (.ref (Sh.gA K "Sift")) "way" = some none) && (decide (PySem.W.findIn K (.ref (Sh.gA K "Sift")) "looks" = some none) && (decide (PySem.W.makesIn K (Sh.gA K "Sift") = true) && (decide (PySem.W.keepIn K (.ref (Sh.gA K "Sift")) = true) && (decide (PySem.W.plainGet K (Sh.gA K "Keeper") Str.empty = true) && (decide (PySem.W.hasDictIn K (Sh.gA K "Keeper") = true) && (decide (PySem.W.plainOver K (Sh.gA K "Keeper") = true) && (decide (PySem.W.findIn K (.ref (Sh.gA K "Keeper")) "__setattr__" = some (some (.builtin "object.__setattr__"))) && (decide (PySem.W.findIn K (.ref (Sh.gA K "Keeper")) "room" = some none))))))))))))
theorem gr10_ok {K : PySem.W.Frag} (h : gr10 K = true) : (PySem.W.plainOver K (Sh.gA K "Sift") = true) ∧ (PySem.W.findIn K (.ref (Sh.gA K "Sift")) "__setattr__" = some (some (.builtin "object.__setattr__"))) ∧ (PySem.W.findIn K (.ref (Sh.gA K "Sift")) "row" = some none) ∧ (PySem.W.findIn K (.ref (Sh.gA K "Sift")) "way" = some none) ∧ (PySem.W.findIn K (.ref (Sh.gA K "Sift")) "looks" = some none) ∧ (PySem.W.makesIn K (Sh.gA K "Sift") = true) ∧ (PySem.W.keepIn K (.ref (Sh.gA K "Sift")) = true) ∧ (PySem.W.plainGet K (Sh.gA K "Keeper") Str.empty = true) ∧ (PySem.W.hasDictIn K (Sh.gA K "Keeper") = true) ∧ (PySem.W.plainOver K (Sh.gA K "Keeper") = true) ∧ (PySem.W.findIn K (.ref (Sh.gA K "Keeper")) "__setattr__" = some (some (.builtin "object.__setattr__"))) ∧ (PySem.W.findIn K (.ref (Sh.gA K "Keeper")) "room" = some none) := by
  unfold gr10 at h
  obtain ⟨h0, h⟩ := Sh.band h
  obtain ⟨h1, h⟩ := Sh.band h
  obtain ⟨h2, h⟩ := Sh.band h
  obtain ⟨h3, h⟩ := Sh.band h
  obtain ⟨h4, h⟩ := Sh.band h
  obtain ⟨h5, h⟩ := Sh.band h
  obtain ⟨h6, h⟩ := Sh.band h
  obtain ⟨h7, h⟩ := Sh.band h
  obtain ⟨h8, h⟩ := Sh.band h
  obtain ⟨h9, h⟩ := Sh.band h
  obtain ⟨h10, h⟩ := Sh.band h
  exact ⟨of_decide_eq_true h0, of_decide_eq_true h1, of_decide_eq_true h2, of_decide_eq_true h3, of_decide_eq_true h4, of_decide_eq_true h5, of_decide_eq_true h6, of_decide_eq_true h7, of_decide_eq_true h8, of_decide_eq_true h9, of_decide_eq_true h10, of_decide_eq_true h⟩
def gr11 (K : PySem.W.Frag) : Bool := decide (PySem.W.findIn K (.ref (Sh.gA K "Keeper")) "arms" = some none) && (decide (PySem.W.findIn K (.ref (Sh.gA K "Keeper")) "_heap" = some none) && (decide (PySem.W.findIn K (.ref (Sh.gA K "Keeper")) "_entered" = some none) && (decide (PySem.W.findIn K (.ref (Sh.gA K "Keeper")) "_mark" = some none) && (decide (PySem.W.makesIn K (Sh.gA K "Keeper") = true) && (decide (PySem.W.keepIn K (.ref (Sh.gA K "Keeper")) = true) && (decide (PySem.W.plainGet K (Sh.gA K "Mark") Str.empty = true) && (decide (PySem.W.hasDictIn K (Sh.gA K "Mark") = true) && (decide (PySem.W.plainOver K (Sh.gA K "Mark") = true) && (decide (PySem.W.findIn K (.ref (Sh.gA K "Mark")) "__setattr__" = some (some (.builtin "object.__setattr__"))) && (decide (PySem.W.findIn K (.ref (Sh.gA K "Mark")) "__init__" = some (some (.builtin "object.__init__"))) && (decide (PySem.W.mroIn K (Sh.gA K "Mark") (.type "object") = some true))))))))))))
theorem gr11_ok {K : PySem.W.Frag} (h : gr11 K = true) : (PySem.W.findIn K (.ref (Sh.gA K "Keeper")) "arms" = some none) ∧ (PySem.W.findIn K (.ref (Sh.gA K "Keeper")) "_heap" = some none) ∧ (PySem.W.findIn K (.ref (Sh.gA K "Keeper")) "_entered" = some none) ∧ (PySem.W.findIn K (.ref (Sh.gA K "Keeper")) "_mark" = some none) ∧ (PySem.W.makesIn K (Sh.gA K "Keeper") = true) ∧ (PySem.W.keepIn K (.ref (Sh.gA K "Keeper")) = true) ∧ (PySem.W.plainGet K (Sh.gA K "Mark") Str.empty = true) ∧ (PySem.W.hasDictIn K (Sh.gA K "Mark") = true) ∧ (PySem.W.plainOver K (Sh.gA K "Mark") = true) ∧ (PySem.W.findIn K (.ref (Sh.gA K "Mark")) "__setattr__" = some (some (.builtin "object.__setattr__"))) ∧ (PySem.W.findIn K (.ref (Sh.gA K "Mark")) "__init__" = some (some (.builtin "object.__init__"))) ∧ (PySem.W.mroIn K (Sh.gA K "Mark") (.type "object") = some true) := by
  unfold gr11 at h
  obtain ⟨h0, h⟩ := Sh.band h
  obtain ⟨h1, h⟩ := Sh.band h
  obtain ⟨h2, h⟩ := Sh.band h
  obtain ⟨h3, h⟩ := Sh.band h
  obtain ⟨h4, h⟩ := Sh.band h
  obtain ⟨h5, h⟩ := Sh.band h
  obtain ⟨h6, h⟩ := Sh.band h
  obtain ⟨h7, h⟩ := Sh.band h
  obtain ⟨h8, h⟩ := Sh.band h
  obtain ⟨h9, h⟩ := Sh.band h
  obtain ⟨h10, h⟩ := Sh.band h
  exact ⟨of_decide_eq_true h0, of_decide_eq_true h1, of_decide_eq_true h2, of_decide_eq_true h3, of_decide_eq_true h4, of_decide_eq_true h5, of_decide_eq_true h6, of_decide_eq_true h7, of_decide_eq_true h8, of_decide_eq_true h9, of_decide_eq_true h10, of_decide_eq_true h⟩
def gr12 (K : PySem.W.Frag) : Bool := decide (PySem.W.makesIn K (Sh.gA K "Mark") = true) && (decide (PySem.W.keepIn K (.ref (Sh.gA K "Mark")) = true) && (Sh.fnB K (Sh.gA K "is_integer") "is_integer" false && (Sh.fnB K (Sh.gA K "is_integer_from") "is_integer_from" false && (Sh.fnB K (Sh.gA K "is_key") "is_key" false && (Sh.fnB K (Sh.gA K "check_arms") "check_arms" false && (Sh.fnB K (Sh.gA K "check_many") "check_many" false && (Sh.fnB K (Sh.gA K "check_place") "check_place" false && (Sh.fnB K (Sh.gA K "check_key") "check_key" false && (Sh.fnB K (Sh.gA K "check_room") "check_room" false && (Sh.fnB K (Sh.gA K "check_index") "check_index" false && (Sh.fnB K (Sh.gA K "check_count") "check_count" false)))))))))))
theorem gr12_ok {K : PySem.W.Frag} (h : gr12 K = true) : (PySem.W.makesIn K (Sh.gA K "Mark") = true) ∧ (PySem.W.keepIn K (.ref (Sh.gA K "Mark")) = true) ∧ (Sh.fnB K (Sh.gA K "is_integer") "is_integer" false = true) ∧ (Sh.fnB K (Sh.gA K "is_integer_from") "is_integer_from" false = true) ∧ (Sh.fnB K (Sh.gA K "is_key") "is_key" false = true) ∧ (Sh.fnB K (Sh.gA K "check_arms") "check_arms" false = true) ∧ (Sh.fnB K (Sh.gA K "check_many") "check_many" false = true) ∧ (Sh.fnB K (Sh.gA K "check_place") "check_place" false = true) ∧ (Sh.fnB K (Sh.gA K "check_key") "check_key" false = true) ∧ (Sh.fnB K (Sh.gA K "check_room") "check_room" false = true) ∧ (Sh.fnB K (Sh.gA K "check_index") "check_index" false = true) ∧ (Sh.fnB K (Sh.gA K "check_count") "check_count" false = true) := by
  unfold gr12 at h
  obtain ⟨h0, h⟩ := Sh.band h
  obtain ⟨h1, h⟩ := Sh.band h
  obtain ⟨h2, h⟩ := Sh.band h
  obtain ⟨h3, h⟩ := Sh.band h
  obtain ⟨h4, h⟩ := Sh.band h
  obtain ⟨h5, h⟩ := Sh.band h
  obtain ⟨h6, h⟩ := Sh.band h
  obtain ⟨h7, h⟩ := Sh.band h
  obtain ⟨h8, h⟩ := Sh.band h
  obtain ⟨h9, h⟩ := Sh.band h
  obtain ⟨h10, h⟩ := Sh.band h
  exact ⟨of_decide_eq_true h0, of_decide_eq_true h1, h2, h3, h4, h5, h6, h7, h8, h9, h10, h⟩
def gr13 (K : PySem.W.Frag) : Bool := Sh.fnB K (Sh.gA K "row_of") "row_of" false && (Sh.fnB K (Sh.gA K "is_full") "is_full" false && (Sh.fnB K (Sh.mA K (Sh.gA K "Tree") "__init__") "Tree.__init__" true && (Sh.fnB K (Sh.recA K (Sh.clsA K (Sh.gA K "Tree") "of") "classmethod") "Tree.of" true && (Sh.fnB K (Sh.mA K (Sh.gA K "Tree") "__len__") "Tree.__len__" false && (Sh.fnB K (Sh.mA K (Sh.gA K "Tree") "__iter__") "Tree.__iter__" false && (Sh.fnB K (Sh.mA K (Sh.gA K "Tree") "__getitem__") "Tree.__getitem__" false && (Sh.fnB K (Sh.mA K (Sh.gA K "Tree") "parent") "Tree.parent" false && (Sh.fnB K (Sh.mA K (Sh.gA K "Tree") "way_to") "Tree.way_to" false && (Sh.fnB K (Sh.gA K "faults") "faults" true && (Sh.fnB K (Sh.gA K "heap_of") "heap_of" false && (Sh.fnB K (Sh.gA K "check_filled") "check_filled" false)))))))))))
theorem gr13_ok {K : PySem.W.Frag} (h : gr13 K = true) : (Sh.fnB K (Sh.gA K "row_of") "row_of" false = true) ∧ (Sh.fnB K (Sh.gA K "is_full") "is_full" false = true) ∧ (Sh.fnB K (Sh.mA K (Sh.gA K "Tree") "__init__") "Tree.__init__" true = true) ∧ (Sh.fnB K (Sh.recA K (Sh.clsA K (Sh.gA K "Tree") "of") "classmethod") "Tree.of" true = true) ∧ (Sh.fnB K (Sh.mA K (Sh.gA K "Tree") "__len__") "Tree.__len__" false = true) ∧ (Sh.fnB K (Sh.mA K (Sh.gA K "Tree") "__iter__") "Tree.__iter__" false = true) ∧ (Sh.fnB K (Sh.mA K (Sh.gA K "Tree") "__getitem__") "Tree.__getitem__" false = true) ∧ (Sh.fnB K (Sh.mA K (Sh.gA K "Tree") "parent") "Tree.parent" false = true) ∧ (Sh.fnB K (Sh.mA K (Sh.gA K "Tree") "way_to") "Tree.way_to" false = true) ∧ (Sh.fnB K (Sh.gA K "faults") "faults" true = true) ∧ (Sh.fnB K (Sh.gA K "heap_of") "heap_of" false = true) ∧ (Sh.fnB K (Sh.gA K "check_filled") "check_filled" false = true) := by
  unfold gr13 at h
  obtain ⟨h0, h⟩ := Sh.band h
  obtain ⟨h1, h⟩ := Sh.band h
  obtain ⟨h2, h⟩ := Sh.band h
  obtain ⟨h3, h⟩ := Sh.band h
  obtain ⟨h4, h⟩ := Sh.band h
  obtain ⟨h5, h⟩ := Sh.band h
  obtain ⟨h6, h⟩ := Sh.band h
  obtain ⟨h7, h⟩ := Sh.band h
  obtain ⟨h8, h⟩ := Sh.band h
  obtain ⟨h9, h⟩ := Sh.band h
  obtain ⟨h10, h⟩ := Sh.band h
  exact ⟨h0, h1, h2, h3, h4, h5, h6, h7, h8, h9, h10, h⟩
def gr14 (K : PySem.W.Frag) : Bool := Sh.fnB K (Sh.mA K (Sh.gA K "Sift") "__init__") "Sift.__init__" false && (Sh.fnB K (Sh.gA K "sift_up") "sift_up" true && (Sh.fnB K (Sh.gA K "sift_down") "sift_down" true && (Sh.fnB K (Sh.gA K "least_child") "least_child" false && (Sh.fnB K (Sh.gA K "push") "push" true && (Sh.fnB K (Sh.gA K "put_for") "put_for" true && (Sh.fnB K (Sh.mA K (Sh.gA K "Keeper") "__init__") "Keeper.__init__" true && (Sh.fnB K (Sh.mA K (Sh.gA K "Keeper") "__len__") "Keeper.__len__" false && (Sh.fnB K (Sh.mA K (Sh.gA K "Keeper") "__contains__") "Keeper.__contains__" false && (Sh.fnB K (Sh.recA K (Sh.mA K (Sh.gA K "Keeper") "heap") "property") "Keeper.heap" false && (Sh.fnB K (Sh.recA K (Sh.mA K (Sh.gA K "Keeper") "entered") "property") "Keeper.entered" false && (Sh.fnB K (Sh.mA K (Sh.gA K "Keeper") "see") "Keeper.see" false)))))))))))
theorem gr14_ok {K : PySem.W.Frag} (h : gr14 K = true) : (Sh.fnB K (Sh.mA K (Sh.gA K "Sift") "__init__") "Sift.__init__" false = true) ∧ (Sh.fnB K (Sh.gA K "sift_up") "sift_up" true = true) ∧ (Sh.fnB K (Sh.gA K "sift_down") "sift_down" true = true) ∧ (Sh.fnB K (Sh.gA K "least_child") "least_child" false = true) ∧ (Sh.fnB K (Sh.gA K "push") "push" true = true) ∧ (Sh.fnB K (Sh.gA K "put_for") "put_for" true = true) ∧ (Sh.fnB K (Sh.mA K (Sh.gA K "Keeper") "__init__") "Keeper.__init__" true = true) ∧ (Sh.fnB K (Sh.mA K (Sh.gA K "Keeper") "__len__") "Keeper.__len__" false = true) ∧ (Sh.fnB K (Sh.mA K (Sh.gA K "Keeper") "__contains__") "Keeper.__contains__" false = true) ∧ (Sh.fnB K (Sh.recA K (Sh.mA K (Sh.gA K "Keeper") "heap") "property") "Keeper.heap" false = true) ∧ (Sh.fnB K (Sh.recA K (Sh.mA K (Sh.gA K "Keeper") "entered") "property") "Keeper.entered" false = true) ∧ (Sh.fnB K (Sh.mA K (Sh.gA K "Keeper") "see") "Keeper.see" false = true) := by
  unfold gr14 at h
  obtain ⟨h0, h⟩ := Sh.band h
  obtain ⟨h1, h⟩ := Sh.band h
  obtain ⟨h2, h⟩ := Sh.band h
  obtain ⟨h3, h⟩ := Sh.band h
  obtain ⟨h4, h⟩ := Sh.band h
  obtain ⟨h5, h⟩ := Sh.band h
  obtain ⟨h6, h⟩ := Sh.band h
  obtain ⟨h7, h⟩ := Sh.band h
  obtain ⟨h8, h⟩ := Sh.band h
  obtain ⟨h9, h⟩ := Sh.band h
  obtain ⟨h10, h⟩ := Sh.band h
  exact ⟨h0, h1, h2, h3, h4, h5, h6, h7, h8, h9, h10, h⟩
def gr15 (K : PySem.W.Frag) : Bool := Sh.fnB K (Sh.gA K "changes") "changes" false && (Sh.fnB K (Sh.gA K "order_code") "order_code" false && (Sh.fnB K (Sh.gA K "order_by") "order_by" false && (Sh.fnB K (Sh.gA K "is_code") "is_code" false && (Sh.fnB K (Sh.gA K "many_orders") "many_orders" false && (Sh.fnB K (Sh.gA K "order_at") "order_at" false && (Sh.fnB K (Sh.gA K "order_index") "order_index" false && (Sh.fnB K (Sh.gA K "does_come") "does_come" false && (Sh.fnB K (Sh.gA K "ends_for") "ends_for" false && (Sh.fnB K (Sh.gA K "ends_with") "ends_with" false && (Sh.fnB K (Sh.gA K "_law_number") "_law_number" false && (Sh.fnB K (Sh.gA K "_law_codes") "_law_codes" false)))))))))))
theorem gr15_ok {K : PySem.W.Frag} (h : gr15 K = true) : (Sh.fnB K (Sh.gA K "changes") "changes" false = true) ∧ (Sh.fnB K (Sh.gA K "order_code") "order_code" false = true) ∧ (Sh.fnB K (Sh.gA K "order_by") "order_by" false = true) ∧ (Sh.fnB K (Sh.gA K "is_code") "is_code" false = true) ∧ (Sh.fnB K (Sh.gA K "many_orders") "many_orders" false = true) ∧ (Sh.fnB K (Sh.gA K "order_at") "order_at" false = true) ∧ (Sh.fnB K (Sh.gA K "order_index") "order_index" false = true) ∧ (Sh.fnB K (Sh.gA K "does_come") "does_come" false = true) ∧ (Sh.fnB K (Sh.gA K "ends_for") "ends_for" false = true) ∧ (Sh.fnB K (Sh.gA K "ends_with") "ends_with" false = true) ∧ (Sh.fnB K (Sh.gA K "_law_number") "_law_number" false = true) ∧ (Sh.fnB K (Sh.gA K "_law_codes") "_law_codes" false = true) := by
  unfold gr15 at h
  obtain ⟨h0, h⟩ := Sh.band h
  obtain ⟨h1, h⟩ := Sh.band h
  obtain ⟨h2, h⟩ := Sh.band h
  obtain ⟨h3, h⟩ := Sh.band h
  obtain ⟨h4, h⟩ := Sh.band h
  obtain ⟨h5, h⟩ := Sh.band h
  obtain ⟨h6, h⟩ := Sh.band h
  obtain ⟨h7, h⟩ := Sh.band h
  obtain ⟨h8, h⟩ := Sh.band h
  obtain ⟨h9, h⟩ := Sh.band h
  obtain ⟨h10, h⟩ := Sh.band h
  exact ⟨h0, h1, h2, h3, h4, h5, h6, h7, h8, h9, h10, h⟩
def gr16 (K : PySem.W.Frag) : Bool := Sh.fnB K (Sh.gA K "_law_entered") "_law_entered" false && (Sh.fnB K (Sh.gA K "_law_product") "_law_product" false && (Sh.fnB K (Sh.gA K "_law_few_right") "_law_few_right" false && (Sh.fnB K (Sh.gA K "law") "law" false)))
theorem gr16_ok {K : PySem.W.Frag} (h : gr16 K = true) : (Sh.fnB K (Sh.gA K "_law_entered") "_law_entered" false = true) ∧ (Sh.fnB K (Sh.gA K "_law_product") "_law_product" false = true) ∧ (Sh.fnB K (Sh.gA K "_law_few_right") "_law_few_right" false = true) ∧ (Sh.fnB K (Sh.gA K "law") "law" false = true) := by
  unfold gr16 at h
  obtain ⟨h0, h⟩ := Sh.band h
  obtain ⟨h1, h⟩ := Sh.band h
  obtain ⟨h2, h⟩ := Sh.band h
  exact ⟨h0, h1, h2, h⟩
def exs (K : PySem.W.Frag) : Bool := gr0 K && (gr1 K && (gr2 K && (gr3 K && (gr4 K && (gr5 K && (gr6 K && (gr7 K && (gr8 K && (gr9 K && (gr10 K && (gr11 K && (gr12 K && (gr13 K && (gr14 K && (gr15 K && (gr16 K))))))))))))))))
def tfs (K : PySem.W.Frag) : List (Addr × Addr) := [((Sh.cdA K (Sh.gA K "least_child")), (He.tabOf K (Sh.cdA K (Sh.gA K "least_child"))))]
def loose : List Str := (["_wall", "__name__", "HeapError", "BadArms", "BadMany", "BadPlace", "BadKey", "BadRow", "NotHeap", "BadIndex", "Empty", "Full", "BadOrder", "BadCode", "BadNumber", "BadRoom", "MOST_ARMS", "MOST_PLACES", "MOST_ROOM", "GREATEST_KEY", "Mark", "is_integer", "is_integer_from", "is_key", "check_arms", "check_many", "check_place", "check_key", "check_room", "check_index"] : List Str) ++ (["row_of", "is_full", "Tree", "faults", "heap_of", "Sift", "sift_up", "sift_down", "least_child", "push", "put_for", "check_filled", "check_count", "MOST_ITEMS", "Keeper", "changes", "order_code", "order_by", "many_orders", "order_at", "order_index", "is_code", "does_come", "ends_for", "ends_with", "_law_number", "_law_codes", "_law_entered", "_law_product", "_law_few_right"] : List Str)
def adr : List Addr := List.range 1000
abbrev hk : PySem.W.Hook := Sh.hook adr fns exs tfs
theorem run (w : World) : HandSHeadRun.RunEq R0 (PySem.W.view R0.prog [68]) hk (Sh.obT adr fns exs tfs) 20000 loose w := by
  intro os
  kernel_rfl
theorem law_at {w : World} {h : Heap} {mg : Str → Option Value} {fa : Addr} {K : PySem.W.Frag} (X : K.In h) (c : Sh.Tells fns exs tfs h K) (G : h.Ns mainGlobals mg) (hfa : mg "law" = some (.ref fa)) : LamX.LawAtS PySem.Challenge.rw_heaprows_k60_whole_changes_counted w K CX0 16 63 "script" mg fa h := by
  have h := c.ex
  unfold exs at h
  obtain ⟨e0, h⟩ := Sh.band h
  obtain ⟨e1, h⟩ := Sh.band h
  obtain ⟨e2, h⟩ := Sh.band h
  obtain ⟨e3, h⟩ := Sh.band h
  obtain ⟨e4, h⟩ := Sh.band h
  obtain ⟨e5, h⟩ := Sh.band h
  obtain ⟨e6, h⟩ := Sh.band h
  obtain ⟨e7, h⟩ := Sh.band h
  obtain ⟨e8, h⟩ := Sh.band h
  obtain ⟨e9, h⟩ := Sh.band h
  obtain ⟨e10, h⟩ := Sh.band h
  obtain ⟨e11, h⟩ := Sh.band h
  obtain ⟨e12, h⟩ := Sh.band h
  obtain ⟨e13, h⟩ := Sh.band h
  obtain ⟨e14, h⟩ := Sh.band h
  obtain ⟨e15, h⟩ := Sh.band h
  obtain ⟨h_aC, h_aCS, h_aCK, h_aCM, h_a_is_integer, h_a_is_integer_from, h_a_is_key, h_a_check_arms, h_a_check_many, h_a_check_place, h_a_check_key, h_a_check_room⟩ := gr0_ok e0
  obtain ⟨h_a_check_index, h_a_check_count, h_a_row_of, h_a_is_full, h_a_t___init__, h_i_t___init__, h_w_t___init__, h_a_t_of, h_r_t_of, h_n_t_of, h_w_t_of, h_a_t___len__⟩ := gr1_ok e1
  obtain ⟨h_i_t___len__, h_n_t___len__, h_a_t___iter__, h_i_t___iter__, h_n_t___iter__, h_a_t___getitem__, h_i_t___getitem__, h_n_t___getitem__, h_a_t_parent, h_i_t_parent, h_a_t_way_to, h_i_t_way_to⟩ := gr2_ok e2
  obtain ⟨h_a_faults, h_w_faults, h_a_heap_of, h_a_check_filled, h_a_z___init__, h_i_z___init__, h_a_sift_up, h_w_sift_up, h_a_sift_down, h_w_sift_down, h_a_least_child, h_a_push⟩ := gr3_ok e3
  obtain ⟨h_w_push, h_a_put_for, h_w_put_for, h_a_e___init__, h_i_e___init__, h_w_e___init__, h_a_e___len__, h_i_e___len__, h_n_e___len__, h_a_e___contains__, h_i_e___contains__, h_n_e___contains__⟩ := gr4_ok e4
  obtain ⟨h_a_e_heap, h_pg_e_heap, h_pt_e_heap, h_pr_e_heap, h_a_e_entered, h_pg_e_entered, h_pt_e_entered, h_pr_e_entered, h_a_e_see, h_i_e_see, h_a_changes, h_a_order_code⟩ := gr5_ok e5
  obtain ⟨h_a_order_by, h_a_is_code, h_a_many_orders, h_a_order_at, h_a_order_index, h_a_does_come, h_a_ends_for, h_a_ends_with, h_a__law_number, h_a__law_codes, h_a__law_entered, h_a__law_product⟩ := gr6_ok e6
  obtain ⟨h_a__law_few_right, h_a_law, h_q_GREATEST_KEY, h_q_MOST_ARMS, h_q_MOST_ITEMS, h_q_MOST_PLACES, h_q_MOST_ROOM, h_z_all, h_z_bool, h_z_enumerate, h_z_int, h_z_isinstance⟩ := gr7_ok e7
  obtain ⟨h_z_iter, h_z_len, h_z_list, h_z_max, h_z_min, h_z_range, h_z_reversed, h_z_sorted, h_z_sum, h_z_tuple, h_z_zip, h_pg⟩ := gr8_ok e8
  obtain ⟨h_hd, h_po_, h_sa, h_na_nMany, h_na_nArms, h_na_nPl, h_mk, h_kc, h_rd, h_ga, h_pgS, h_hdS⟩ := gr9_ok e9
  obtain ⟨h_po_S, h_saS, h_na_nRow, h_na_nWay, h_na_nLooks, h_mkS, h_kcS, h_pgK, h_hdK, h_po_K, h_saK, h_na_kRoom⟩ := gr10_ok e10
  obtain ⟨h_na_kArms, h_na_kHeap, h_na_kEnt, h_na_kMark, h_mkK, h_kcK, h_pgM, h_hdM, h_po_M, h_saM, h_oiM, h_otM⟩ := gr11_ok e11
  obtain ⟨h_mkM, h_kcM, h_b_is_integer, h_b_is_integer_from, h_b_is_key, h_b_check_arms, h_b_check_many, h_b_check_place, h_b_check_key, h_b_check_room, h_b_check_index, h_b_check_count⟩ := gr12_ok e12
  obtain ⟨h_b_row_of, h_b_is_full, h_b_t___init__, h_b_t_of, h_b_t___len__, h_b_t___iter__, h_b_t___getitem__, h_b_t_parent, h_b_t_way_to, h_b_faults, h_b_heap_of, h_b_check_filled⟩ := gr13_ok e13
  obtain ⟨h_b_z___init__, h_b_sift_up, h_b_sift_down, h_b_least_child, h_b_push, h_b_put_for, h_b_e___init__, h_b_e___len__, h_b_e___contains__, h_b_e_heap, h_b_e_entered, h_b_e_see⟩ := gr14_ok e14
  obtain ⟨h_b_changes, h_b_order_code, h_b_order_by, h_b_is_code, h_b_many_orders, h_b_order_at, h_b_order_index, h_b_does_come, h_b_ends_for, h_b_ends_with, h_b__law_number, h_b__law_codes⟩ := gr15_ok e15
  obtain ⟨h_b__law_entered, h_b__law_product, h_b__law_few_right, h_b_law⟩ := gr16_ok h
  obtain ⟨_, _, _, _, _, _, _, _, _, h_l_is_integer, h_c_is_integer, h_k_is_integer⟩ := Sh.fn_g (d := q_is_integer) (p := (Sh.gA K "is_integer")) (c.fn q_is_integer (Sh.at_ 0 rfl)) h_b_is_integer
  obtain ⟨_, _, _, _, _, _, _, _, _, h_l_is_integer_from, h_c_is_integer_from, h_k_is_integer_from⟩ := Sh.fn_g (d := q_is_integer_from) (p := (Sh.gA K "is_integer_from")) (c.fn q_is_integer_from (Sh.at_ 1 rfl)) h_b_is_integer_from
  obtain ⟨_, _, _, _, _, _, _, _, _, h_l_is_key, h_c_is_key, h_k_is_key⟩ := Sh.fn_g (d := q_is_key) (p := (Sh.gA K "is_key")) (c.fn q_is_key (Sh.at_ 2 rfl)) h_b_is_key
  obtain ⟨_, _, _, _, _, _, _, _, _, h_l_check_arms, h_c_check_arms, h_k_check_arms⟩ := Sh.fn_g (d := q_check_arms) (p := (Sh.gA K "check_arms")) (c.fn q_check_arms (Sh.at_ 3 rfl)) h_b_check_arms
  obtain ⟨_, _, _, _, _, _, _, _, _, h_l_check_many, h_c_check_many, h_k_check_many⟩ := Sh.fn_g (d := q_check_many) (p := (Sh.gA K "check_many")) (c.fn q_check_many (Sh.at_ 4 rfl)) h_b_check_many
  obtain ⟨_, _, _, _, _, _, _, _, _, h_l_check_place, h_c_check_place, h_k_check_place⟩ := Sh.fn_g (d := q_check_place) (p := (Sh.gA K "check_place")) (c.fn q_check_place (Sh.at_ 5 rfl)) h_b_check_place
  obtain ⟨_, _, _, _, _, _, _, _, _, h_l_check_key, h_c_check_key, h_k_check_key⟩ := Sh.fn_g (d := q_check_key) (p := (Sh.gA K "check_key")) (c.fn q_check_key (Sh.at_ 6 rfl)) h_b_check_key
  obtain ⟨_, _, _, _, _, _, _, _, _, h_l_check_room, h_c_check_room, h_k_check_room⟩ := Sh.fn_g (d := q_check_room) (p := (Sh.gA K "check_room")) (c.fn q_check_room (Sh.at_ 7 rfl)) h_b_check_room
  obtain ⟨_, _, _, _, _, _, _, _, _, h_l_check_index, h_c_check_index, h_k_check_index⟩ := Sh.fn_g (d := q_check_index) (p := (Sh.gA K "check_index")) (c.fn q_check_index (Sh.at_ 8 rfl)) h_b_check_index
  obtain ⟨_, _, _, _, _, _, _, _, _, h_l_check_count, h_c_check_count, h_k_check_count⟩ := Sh.fn_g (d := q_check_count) (p := (Sh.gA K "check_count")) (c.fn q_check_count (Sh.at_ 9 rfl)) h_b_check_count
  obtain ⟨_, _, _, _, _, _, _, _, _, h_l_row_of, h_c_row_of, h_k_row_of⟩ := Sh.fn_g (d := q_row_of) (p := (Sh.gA K "row_of")) (c.fn q_row_of (Sh.at_ 10 rfl)) h_b_row_of
  obtain ⟨_, _, _, _, _, _, _, _, _, h_l_is_full, h_c_is_full, h_k_is_full⟩ := Sh.fn_g (d := q_is_full) (p := (Sh.gA K "is_full")) (c.fn q_is_full (Sh.at_ 11 rfl)) h_b_is_full
  obtain ⟨_, _, _, _, _, _, _, _, h_l_t___init__, h_c_t___init__, h_k_t___init__⟩ := Sh.fn_k (d := q_t___init__) (p := (Sh.mA K (Sh.gA K "Tree") "__init__")) (c.fn q_t___init__ (Sh.at_ 12 rfl)) h_b_t___init__
  obtain ⟨_, _, _, _, _, _, _, _, h_l_t_of, h_c_t_of, h_k_t_of⟩ := Sh.fn_k (d := q_t_of) (p := (Sh.recA K (Sh.clsA K (Sh.gA K "Tree") "of") "classmethod")) (c.fn q_t_of (Sh.at_ 13 rfl)) h_b_t_of
  obtain ⟨_, _, _, _, _, _, _, _, _, h_l_t___len__, h_c_t___len__, h_k_t___len__⟩ := Sh.fn_g (d := q_t___len__) (p := (Sh.mA K (Sh.gA K "Tree") "__len__")) (c.fn q_t___len__ (Sh.at_ 14 rfl)) h_b_t___len__
  obtain ⟨_, _, _, _, _, _, _, _, _, h_l_t___iter__, h_c_t___iter__, h_k_t___iter__⟩ := Sh.fn_g (d := q_t___iter__) (p := (Sh.mA K (Sh.gA K "Tree") "__iter__")) (c.fn q_t___iter__ (Sh.at_ 15 rfl)) h_b_t___iter__
  obtain ⟨_, _, _, _, _, _, _, _, _, h_l_t___getitem__, h_c_t___getitem__, h_k_t___getitem__⟩ := Sh.fn_g (d := q_t___getitem__) (p := (Sh.mA K (Sh.gA K "Tree") "__getitem__")) (c.fn q_t___getitem__ (Sh.at_ 16 rfl)) h_b_t___getitem__
  obtain ⟨_, _, _, _, _, _, _, _, _, h_l_t_parent, h_c_t_parent, h_k_t_parent⟩ := Sh.fn_g (d := q_t_parent) (p := (Sh.mA K (Sh.gA K "Tree") "parent")) (c.fn q_t_parent (Sh.at_ 17 rfl)) h_b_t_parent
  obtain ⟨_, _, _, _, _, _, _, _, _, h_l_t_way_to, h_c_t_way_to, h_k_t_way_to⟩ := Sh.fn_g (d := q_t_way_to) (p := (Sh.mA K (Sh.gA K "Tree") "way_to")) (c.fn q_t_way_to (Sh.at_ 18 rfl)) h_b_t_way_to
  obtain ⟨_, _, _, _, _, _, _, _, h_l_faults, h_c_faults, h_k_faults⟩ := Sh.fn_k (d := q_faults) (p := (Sh.gA K "faults")) (c.fn q_faults (Sh.at_ 19 rfl)) h_b_faults
  obtain ⟨_, _, _, _, _, _, _, _, _, h_l_heap_of, h_c_heap_of, h_k_heap_of⟩ := Sh.fn_g (d := q_heap_of) (p := (Sh.gA K "heap_of")) (c.fn q_heap_of (Sh.at_ 20 rfl)) h_b_heap_of
  obtain ⟨_, _, _, _, _, _, _, _, _, h_l_check_filled, h_c_check_filled, h_k_check_filled⟩ := Sh.fn_g (d := q_check_filled) (p := (Sh.gA K "check_filled")) (c.fn q_check_filled (Sh.at_ 21 rfl)) h_b_check_filled
  obtain ⟨_, _, _, _, _, _, _, _, _, h_l_z___init__, h_c_z___init__, h_k_z___init__⟩ := Sh.fn_g (d := q_z___init__) (p := (Sh.mA K (Sh.gA K "Sift") "__init__")) (c.fn q_z___init__ (Sh.at_ 22 rfl)) h_b_z___init__
  obtain ⟨_, _, _, _, _, _, _, _, h_l_sift_up, h_c_sift_up, h_k_sift_up⟩ := Sh.fn_k (d := q_sift_up) (p := (Sh.gA K "sift_up")) (c.fn q_sift_up (Sh.at_ 23 rfl)) h_b_sift_up
  obtain ⟨_, _, _, _, _, _, _, _, h_l_sift_down, h_c_sift_down, h_k_sift_down⟩ := Sh.fn_k (d := q_sift_down) (p := (Sh.gA K "sift_down")) (c.fn q_sift_down (Sh.at_ 24 rfl)) h_b_sift_down
  obtain ⟨_, _, _, _, _, _, _, _, h_l_least_child, h_c_least_child, h_k_least_child⟩ := Sh.fn_c (d := q_least_child) (p := (Sh.gA K "least_child")) (c.fn q_least_child (Sh.at_ 25 rfl)) h_b_least_child
  obtain ⟨_, _, _, _, _, _, _, _, h_l_push, h_c_push, h_k_push⟩ := Sh.fn_k (d := q_push) (p := (Sh.gA K "push")) (c.fn q_push (Sh.at_ 26 rfl)) h_b_push
  obtain ⟨_, _, _, _, _, _, _, _, h_l_put_for, h_c_put_for, h_k_put_for⟩ := Sh.fn_k (d := q_put_for) (p := (Sh.gA K "put_for")) (c.fn q_put_for (Sh.at_ 27 rfl)) h_b_put_for
  obtain ⟨_, _, _, _, _, _, _, _, h_l_e___init__, h_c_e___init__, h_k_e___init__⟩ := Sh.fn_k (d := q_e___init__) (p := (Sh.mA K (Sh.gA K "Keeper") "__init__")) (c.fn q_e___init__ (Sh.at_ 28 rfl)) h_b_e___init__
  obtain ⟨_, _, _, _, _, _, _, _, _, h_l_e___len__, h_c_e___len__, h_k_e___len__⟩ := Sh.fn_g (d := q_e___len__) (p := (Sh.mA K (Sh.gA K "Keeper") "__len__")) (c.fn q_e___len__ (Sh.at_ 29 rfl)) h_b_e___len__
  obtain ⟨_, _, _, _, _, _, _, _, _, h_l_e___contains__, h_c_e___contains__, h_k_e___contains__⟩ := Sh.fn_g (d := q_e___contains__) (p := (Sh.mA K (Sh.gA K "Keeper") "__contains__")) (c.fn q_e___contains__ (Sh.at_ 30 rfl)) h_b_e___contains__
  obtain ⟨_, _, _, _, _, _, _, _, _, h_l_e_heap, h_c_e_heap, h_k_e_heap⟩ := Sh.fn_g (d := q_e_heap) (p := (Sh.recA K (Sh.mA K (Sh.gA K "Keeper") "heap") "property")) (c.fn q_e_heap (Sh.at_ 31 rfl)) h_b_e_heap
  obtain ⟨_, _, _, _, _, _, _, _, _, h_l_e_entered, h_c_e_entered, h_k_e_entered⟩ := Sh.fn_g (d := q_e_entered) (p := (Sh.recA K (Sh.mA K (Sh.gA K "Keeper") "entered") "property")) (c.fn q_e_entered (Sh.at_ 32 rfl)) h_b_e_entered
  obtain ⟨_, _, _, _, _, _, _, _, _, h_l_e_see, h_c_e_see, h_k_e_see⟩ := Sh.fn_g (d := q_e_see) (p := (Sh.mA K (Sh.gA K "Keeper") "see")) (c.fn q_e_see (Sh.at_ 33 rfl)) h_b_e_see
  obtain ⟨_, _, _, _, _, _, _, _, _, h_l_changes, h_c_changes, h_k_changes⟩ := Sh.fn_g (d := q_changes) (p := (Sh.gA K "changes")) (c.fn q_changes (Sh.at_ 34 rfl)) h_b_changes
  obtain ⟨_, _, _, _, _, _, _, _, _, h_l_order_code, h_c_order_code, h_k_order_code⟩ := Sh.fn_g (d := q_order_code) (p := (Sh.gA K "order_code")) (c.fn q_order_code (Sh.at_ 35 rfl)) h_b_order_code
  obtain ⟨_, _, _, _, _, _, _, _, _, h_l_order_by, h_c_order_by, h_k_order_by⟩ := Sh.fn_g (d := q_order_by) (p := (Sh.gA K "order_by")) (c.fn q_order_by (Sh.at_ 36 rfl)) h_b_order_by
  obtain ⟨_, _, _, _, _, _, _, _, _, h_l_is_code, h_c_is_code, h_k_is_code⟩ := Sh.fn_g (d := q_is_code) (p := (Sh.gA K "is_code")) (c.fn q_is_code (Sh.at_ 37 rfl)) h_b_is_code
  obtain ⟨_, _, _, _, _, _, _, _, _, h_l_many_orders, h_c_many_orders, h_k_many_orders⟩ := Sh.fn_g (d := q_many_orders) (p := (Sh.gA K "many_orders")) (c.fn q_many_orders (Sh.at_ 38 rfl)) h_b_many_orders
  obtain ⟨_, _, _, _, _, _, _, _, _, h_l_order_at, h_c_order_at, h_k_order_at⟩ := Sh.fn_g (d := q_order_at) (p := (Sh.gA K "order_at")) (c.fn q_order_at (Sh.at_ 39 rfl)) h_b_order_at
  obtain ⟨_, _, _, _, _, _, _, _, _, h_l_order_index, h_c_order_index, h_k_order_index⟩ := Sh.fn_g (d := q_order_index) (p := (Sh.gA K "order_index")) (c.fn q_order_index (Sh.at_ 40 rfl)) h_b_order_index
  obtain ⟨_, _, _, _, _, _, _, _, _, h_l_does_come, h_c_does_come, h_k_does_come⟩ := Sh.fn_g (d := q_does_come) (p := (Sh.gA K "does_come")) (c.fn q_does_come (Sh.at_ 41 rfl)) h_b_does_come
  obtain ⟨_, _, _, _, _, _, _, _, _, h_l_ends_for, h_c_ends_for, h_k_ends_for⟩ := Sh.fn_g (d := q_ends_for) (p := (Sh.gA K "ends_for")) (c.fn q_ends_for (Sh.at_ 42 rfl)) h_b_ends_for
  obtain ⟨_, _, _, _, _, _, _, _, _, h_l_ends_with, h_c_ends_with, h_k_ends_with⟩ := Sh.fn_g (d := q_ends_with) (p := (Sh.gA K "ends_with")) (c.fn q_ends_with (Sh.at_ 43 rfl)) h_b_ends_with
  obtain ⟨_, _, _, _, _, _, _, _, _, h_l__law_number, h_c__law_number, h_k__law_number⟩ := Sh.fn_g (d := q__law_number) (p := (Sh.gA K "_law_number")) (c.fn q__law_number (Sh.at_ 44 rfl)) h_b__law_number
  obtain ⟨_, _, _, _, _, _, _, _, _, h_l__law_codes, h_c__law_codes, h_k__law_codes⟩ := Sh.fn_g (d := q__law_codes) (p := (Sh.gA K "_law_codes")) (c.fn q__law_codes (Sh.at_ 45 rfl)) h_b__law_codes
  obtain ⟨_, _, _, _, _, _, _, _, _, h_l__law_entered, h_c__law_entered, h_k__law_entered⟩ := Sh.fn_g (d := q__law_entered) (p := (Sh.gA K "_law_entered")) (c.fn q__law_entered (Sh.at_ 46 rfl)) h_b__law_entered
  obtain ⟨_, _, _, _, _, _, _, _, _, h_l__law_product, h_c__law_product, h_k__law_product⟩ := Sh.fn_g (d := q__law_product) (p := (Sh.gA K "_law_product")) (c.fn q__law_product (Sh.at_ 47 rfl)) h_b__law_product
  obtain ⟨_, _, _, _, _, _, _, _, _, h_l__law_few_right, h_c__law_few_right, h_k__law_few_right⟩ := Sh.fn_g (d := q__law_few_right) (p := (Sh.gA K "_law_few_right")) (c.fn q__law_few_right (Sh.at_ 48 rfl)) h_b__law_few_right
  obtain ⟨_, _, _, _, _, _, _, _, _, h_l_law, h_c_law, h_k_law⟩ := Sh.fn_g (d := q_law) (p := (Sh.gA K "law")) (c.fn q_law (Sh.at_ 49 rfl)) h_b_law
  exact all_mk X G hfa h_aC h_aCS h_aCK h_aCM h_a_is_integer h_l_is_integer h_c_is_integer h_k_is_integer h_a_is_integer_from h_l_is_integer_from h_c_is_integer_from h_k_is_integer_from h_a_is_key h_l_is_key h_c_is_key h_k_is_key h_a_check_arms h_l_check_arms h_c_check_arms h_k_check_arms h_a_check_many h_l_check_many h_c_check_many h_k_check_many h_a_check_place h_l_check_place h_c_check_place h_k_check_place h_a_check_key h_l_check_key h_c_check_key h_k_check_key h_a_check_room h_l_check_room h_c_check_room h_k_check_room h_a_check_index h_l_check_index h_c_check_index h_k_check_index h_a_check_count h_l_check_count h_c_check_count h_k_check_count h_a_row_of h_l_row_of h_c_row_of h_k_row_of h_a_is_full h_l_is_full h_c_is_full h_k_is_full h_a_t___init__ h_i_t___init__ h_l_t___init__ h_c_t___init__ h_k_t___init__ h_w_t___init__ h_a_t_of h_r_t_of h_n_t_of h_l_t_of h_c_t_of h_k_t_of h_w_t_of h_a_t___len__ h_i_t___len__ h_n_t___len__ h_l_t___len__ h_c_t___len__ h_k_t___len__ h_a_t___iter__ h_i_t___iter__ h_n_t___iter__ h_l_t___iter__ h_c_t___iter__ h_k_t___iter__ h_a_t___getitem__ h_i_t___getitem__ h_n_t___getitem__ h_l_t___getitem__ h_c_t___getitem__ h_k_t___getitem__ h_a_t_parent h_i_t_parent h_l_t_parent h_c_t_parent h_k_t_parent h_a_t_way_to h_i_t_way_to h_l_t_way_to h_c_t_way_to h_k_t_way_to h_a_faults h_l_faults h_c_faults h_k_faults h_w_faults h_a_heap_of h_l_heap_of h_c_heap_of h_k_heap_of h_a_check_filled h_l_check_filled h_c_check_filled h_k_check_filled h_a_z___init__ h_i_z___init__ h_l_z___init__ h_c_z___init__ h_k_z___init__ h_a_sift_up h_l_sift_up h_c_sift_up h_k_sift_up h_w_sift_up h_a_sift_down h_l_sift_down h_c_sift_down h_k_sift_down h_w_sift_down h_a_least_child h_l_least_child h_c_least_child h_k_least_child h_a_push h_l_push h_c_push h_k_push h_w_push h_a_put_for h_l_put_for h_c_put_for h_k_put_for h_w_put_for h_a_e___init__ h_i_e___init__ h_l_e___init__ h_c_e___init__ h_k_e___init__ h_w_e___init__ h_a_e___len__ h_i_e___len__ h_n_e___len__ h_l_e___len__ h_c_e___len__ h_k_e___len__ h_a_e___contains__ h_i_e___contains__ h_n_e___contains__ h_l_e___contains__ h_c_e___contains__ h_k_e___contains__ h_a_e_heap h_pg_e_heap h_pt_e_heap h_pr_e_heap h_l_e_heap h_c_e_heap h_k_e_heap h_a_e_entered h_pg_e_entered h_pt_e_entered h_pr_e_entered h_l_e_entered h_c_e_entered h_k_e_entered h_a_e_see h_i_e_see h_l_e_see h_c_e_see h_k_e_see h_a_changes h_l_changes h_c_changes h_k_changes h_a_order_code h_l_order_code h_c_order_code h_k_order_code h_a_order_by h_l_order_by h_c_order_by h_k_order_by h_a_is_code h_l_is_code h_c_is_code h_k_is_code h_a_many_orders h_l_many_orders h_c_many_orders h_k_many_orders h_a_order_at h_l_order_at h_c_order_at h_k_order_at h_a_order_index h_l_order_index h_c_order_index h_k_order_index h_a_does_come h_l_does_come h_c_does_come h_k_does_come h_a_ends_for h_l_ends_for h_c_ends_for h_k_ends_for h_a_ends_with h_l_ends_with h_c_ends_with h_k_ends_with h_a__law_number h_l__law_number h_c__law_number h_k__law_number h_a__law_codes h_l__law_codes h_c__law_codes h_k__law_codes h_a__law_entered h_l__law_entered h_c__law_entered h_k__law_entered h_a__law_product h_l__law_product h_c__law_product h_k__law_product h_a__law_few_right h_l__law_few_right h_c__law_few_right h_k__law_few_right h_a_law h_l_law h_c_law h_k_law h_q_GREATEST_KEY h_q_MOST_ARMS h_q_MOST_ITEMS h_q_MOST_PLACES h_q_MOST_ROOM h_z_all h_z_bool h_z_enumerate h_z_int h_z_isinstance h_z_iter h_z_len h_z_list h_z_max h_z_min h_z_range h_z_reversed h_z_sorted h_z_sum h_z_tuple h_z_zip h_pg h_hd h_po_ h_sa h_na_nMany h_na_nArms h_na_nPl h_mk h_kc h_rd h_ga h_pgS h_hdS h_po_S h_saS h_na_nRow h_na_nWay h_na_nLooks h_mkS h_kcS h_pgK h_hdK h_po_K h_saK h_na_kRoom h_na_kArms h_na_kHeap h_na_kEnt h_na_kMark h_mkK h_kcK h_pgM h_hdM h_po_M h_saM h_oiM h_otM h_mkM h_kcM (c.em ((Sh.cdA K (Sh.gA K "least_child")), (He.tabOf K (Sh.cdA K (Sh.gA K "least_child")))) (by unfold tfs; simp)) (c.hd ((Sh.cdA K (Sh.gA K "least_child")), (He.tabOf K (Sh.cdA K (Sh.gA K "least_child")))) (by unfold tfs; simp)) (c.out ((Sh.cdA K (Sh.gA K "least_child")), (He.tabOf K (Sh.cdA K (Sh.gA K "least_child")))) (by unfold tfs; simp))
end Tw

open PySem PySem.W PySem.Calls PyProof.Rows in
set_option maxRecDepth 100000 in
set_option maxHeartbeats 0 in
theorem PySem.Challenge.cw_heaprows_k60_whole_changes_counted_holds : PySem.Challenge.rw_heaprows_k60_whole_changes_counted.Holds := by
  w_on; o_law
  refine HandSHeadRun.head_any (r := OpenLaw.row PySem.Challenge.rw_heaprows_k60_whole_changes_counted) (q := view (OpenLaw.row PySem.Challenge.rw_heaprows_k60_whole_changes_counted).prog [68]) (H := Tw.hk) (ob := Sh.obT Tw.adr Tw.fns Tw.exs Tw.tfs) (M := 20000) (loose := Tw.loose) (d := HandSHeadRun.topDef (OpenLaw.row PySem.Challenge.rw_heaprows_k60_whole_changes_counted).prog 68) (kwd := []) (Sh.obT_eq _ _ _ _)
    (by kernel_rfl) (fun s => by kernel_rfl) Tw.run (by kernel_rfl) (by kernel_rfl) (by kernel_rfl) (by rfl) (by first | assumption | decide +kernel) (by decide +kernel) ⟨rfl, rfl, rfl, rfl, rfl, by decide +kernel⟩ ?hw ?hc
  case hw => w_witness2
  case hc =>
    refine LamX.walk_ofTsE (l := PySem.Challenge.rw_heaprows_k60_whole_changes_counted) (n := 63) (k := 16) (x := "script") (CX := fun _ => L2.CX0) rfl (by decide) (by kernel_rfl) ⟨rfl, by decide, by decide⟩ ?F (fun _ _ _ _ _ z => z)
    intro w mg fa h Y G hmg0
    obtain ⟨K, KX, c⟩ := Y
    have hmg : mg ("law" : PySem.Str) = some (.ref fa) := (congrArg mg (show (HandSHeadRun.topDef (OpenLaw.row PySem.Challenge.rw_heaprows_k60_whole_changes_counted).prog 68).name = ("law" : PySem.Str) by kernel_rfl)).symm.trans hmg0
    exact ⟨K, KX, Tw.law_at KX c G hmg⟩
