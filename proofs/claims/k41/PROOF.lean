import PyProof.Rows.All
import Wide.All
import OpenK.AllK
import Wide.FinOn
import HandS.ForMost
import HandS.ForExc
import HandS.IsInst
import HandS.MakeKwOnly
import HandS.ClsMeth
import HandS.Conv
import HandS.Codes
import HandS.Walk
import HandS.Style
import HandS.Flow
import HandS.Wide
import HandS.OwnEq
import HandS.OwnIter
import HandS.IterVal
import KE.KOwnIter
import PyProof.FactsAll.tuple_iterator_1
import HandS.Deep
import HandS.SortRule
import KE.GoesMore
import KE.GoesEnum
import KE.KLam
import KE.DataMinKey
import HandS.Base
import HandS.Call
import HandS.List
import HandS.Comp
import HandS.Lambda
import HandS.Nested
import HandS.Keys
import HandS.SortInts
import PyProof.NeKinds
import HandS.SetFor
import HandS.Strs
import HandS.TupSets
import KE.SortData
import HandS.Gcd
import KE.KMathGC
import HandS.Sort
import PyProof.AutoSeq1
import KE.KTurns
import HandS.TupLe
import KE.KSortTup
import HandS.Defaults
import HandS.Zip
import HandS.TryOnly
import HandS.TupAny
import KE.DataFind
import PyProof.SumWalkG
import KE.DataMinMax
import KE.KStateDown
import HandS.Head0
import HandS.Head1
import HandS.Head2
import HandS.HeadHook4
import HandS.HeadWalk
import KE.KNestM
import HandS.EndTab
import HandS.Rev
import PySem.Challenge.RW_heaprows_k41_whole_long
set_option Elab.async false
set_option maxRecDepth 100000
set_option Elab.async false
set_option linter.all false
set_option maxRecDepth 100000
set_option maxHeartbeats 2000000
namespace Tw
open PySem PySem.Spec PyProof.Rows L2

/-! own rules: an instance with dunder methods -/
/-- a dunder method of the class at C, its def at f -/
structure Dn (K : PySem.W.Frag) (C : Addr) (m : Str) (f : Addr) : Prop where
  at_ : PySem.W.findIn K (.ref C) m = some (some (.ref f))
  fn : PySem.W.isFn K (.ref f) = true
  fi : PySem.W.fnIn K f = true


section
variable {X : Cx} {CX : CXT} {k n : Nat} {f C : Addr} {fd : FuncData} {ps : List Str} {sp : Sp} {E : XK} {o e : Expr} {pos : Pos} {ta tb : TE} {A1 : Around}
  {pins : List (Addr × Obj)} {σ : L2.St} {H : Hp} {s : Shared} {Q : VK}
theorem Sub.env0 (sb : Sub X n A1) (I : Inv X pins σ H s) : Env0 X.prog X.w X.K X.mg X.base A1 X.stack s H := by
  have q := I.env0
  exact ⟨by rw [sb.fr]; exact q.frames, q.mod, q.bs, q.bsz, q.funs, q.frf, q.hok, q.bare⟩
theorem run_sub {us : List Value} {vs : List V} (F : FnOk X.prog X.w X.K X.mg X.base CX k f fd ps sp) (sb : Sub X k A1) (hb : Binds X.K fd ps []) (hx : Passes CX X E) (I : Inv X pins σ H s) (r : Vals vs us) (h : sp vs H Q E) :
    wpAny (model X.prog X.w) A1 (call (.ref f) us) (EP X pins σ Q) X.xe s := by
  have hl : us.length = ps.length := by rw [← r.length]; exact F.len _ _ _ _ h
  have hb1 : BindsTo s fd ⟨us, []⟩ (ps.zip us) := by
    have z := hb s us I.kIn (by rw [List.append_nil]; exact hl)
    rw [List.append_nil] at z
    exact z
  refine wpAny_call (codeAny_mono (F.run A1 X.stack s H ⟨us, []⟩ us vs Q E sb.room (Sub.env0 sb I) hb1 r h) fun z s' hq => ?_)
  match z, hq with
  | .error e, hq => exact hx pins σ H s e s' I hq
  | .ok (.ret u), hq => exact I.after hq
  | .ok .next, hq => exact False.elim hq
  | .ok .brk, hq => exact False.elim hq
  | .ok .cont, hq => exact False.elim hq
theorem relR (a : Addr) : RelV (V.ref a) (Value.ref a) := rfl
theorem relB (b : Bool) : RelV (V.bl b) (Value.bool b) := rfl
theorem relI (i : Int) (t : Tok) : RelV (V.int i) (Value.int i t) := ⟨t, rfl⟩
/-- o[e] by the class's own def -/
def tGi (C : Addr) (sp : Sp) (E : XK) (ta tb : TE) : TE := fun σ H Q => ta σ H fun x H1 => tb σ H1 fun y H2 =>
  ∃ a dx fs, x = .ref a ∧ H2 a = some (.ins C dx fs) ∧ sp [.ref a, y] H2 Q E
theorem pe_gi (hd : Dn X.K C "__getitem__" f) (F : FnOk X.prog X.w X.K X.mg X.base CX k f fd ps sp) (hr : Room (k + 1) X.A) (hb : Binds X.K fd ps []) (hx : Passes CX X E) (ho : PE X o ta) (he : PE X e tb)
    (hs : ∀ v u, subscripted e true v u = runValue (.builtin "lifetime.subscript" ⟨[v, u], []⟩) := by intro _ _; with_unfolding_all rfl) :
    PE X (.Subscript o e pos) (tGi C sp E ta tb) := by
  refine ⟨fun pins s σ H Q I h => ?_⟩
  refine Subscript_ (binT ho he (R := fun x y H2 => ∃ a dx fs, x = .ref a ∧ H2 a = some (.ins C dx fs) ∧ sp [.ref a, y] H2 Q E) I h fun v u s2 x y H2 I2 rx ry ⟨a, dx, fs, ex, ha, q⟩ => ?_)
  subst ex
  obtain rfl : v = Value.ref a := rx
  obtain ⟨mA, O, rr, _, _, _⟩ := ins_get I2.hok ha
  obtain ⟨od, J, hl⟩ := O.look
  obtain ⟨m0, hF⟩ := I2.fr
  exact PySem.W.sub_K hF I2.ok.mod.kin J hd.at_ hd.fi hd.fn (run_sub F (Sub.in1 ⟨hr, rfl⟩) hb hx I2 (.cons (relR a) (.cons ry .nil)) q) (hs _ _)
/-- e in o, by the class's own def -/
def rIn (C : Addr) (sp : Sp) (E : XK) (neg : Bool) : R2 := fun x y H Q =>
  ∃ a dx fs, y = .ref a ∧ H a = some (.ins C dx fs) ∧ sp [.ref a, x] H (fun v H' => ∃ b, v = .bl b ∧ Q (.bl (if neg then !b else b)) H') E
theorem op_in_own (hd : Dn X.K C "__contains__" f) (F : FnOk X.prog X.w X.K X.mg X.base CX k f fd ps sp) (hr : Room k X.A) (hb : Binds X.K fd ps []) (hx : Passes CX X E) : OpR X (compareOp .In) (rIn C sp E false) := by
  intro pins s σ H x y v u Q I rx ry ⟨a, dx, fs, ey, ha, q⟩
  subst ey
  obtain rfl : u = Value.ref a := ry
  obtain ⟨mA, O, rr, _, _, _⟩ := ins_get I.hok ha
  obtain ⟨od, J, hl⟩ := O.look
  obtain ⟨m0, hF⟩ := I.fr
  refine PySem.W.in_K hF I.ok.mod.kin J hd.at_ hd.fn (thn (run_sub F ⟨hr, rfl⟩ hb hx I (.cons (relR a) (.cons rx .nil)) q) fun r s' ⟨z, H', I', rz, b, ez, q'⟩ => ?_)
  subst ez
  obtain rfl : r = Value.bool b := rz
  exact wpAny_truthy_bool ⟨_, _, I', relB b, q'⟩
/-- len(o) by the class's own def -/
def rLenO (C : Addr) (sp : Sp) (E : XK) : List V → Hp → VK → Prop := fun xs H Q =>
  ∃ a dx fs, xs = [.ref a] ∧ H a = some (.ins C dx fs) ∧ sp [.ref a] H (fun v H' => ∃ n : Nat, v = .int n ∧ n < 1000 ∧ Q (.int n) H') E
theorem call_len_own (hd : Dn X.K C "__len__" f) (F : FnOk X.prog X.w X.K X.mg X.base CX k f fd ps sp) (hr : Room (k + 1) X.A) (hb : Binds X.K fd ps []) (hx : Passes CX X E) : CallR X (.builtin "len") (rLenO C sp E) := by
  intro pins s σ H xs us Q I rv ⟨a, dx, fs, ex, ha, q⟩
  subst ex
  obtain ⟨u, rfl, ru⟩ := rv.one
  obtain rfl : u = Value.ref a := ru
  obtain ⟨mA, O, rr, _, _, _⟩ := ins_get I.hok ha
  obtain ⟨od, J, hl⟩ := O.look
  obtain ⟨m0, hF⟩ := I.fr
  refine PySem.W.len_K hF I.ok.mod.kin J hd.at_ hd.fn (thn (run_sub F (Sub.in1 ⟨hr, rfl⟩) hb hx I (.cons (relR a) .nil) q) fun r s' ⟨z, H', I', rz, n, ez, hn, q'⟩ => ?_)
  subst ez
  obtain ⟨t, rfl⟩ := rz
  exact ⟨⟨by omega, by omega⟩, _, _, I'.tok _, relI _ _, q'⟩
end

/-! for x in o, o an instance whose __iter__ says: return iter(self.F), F a tuple -/
def itTup (t : Addr) (i : Nat) : Obj := { cls := .type "tuple_iterator", data := .fields #[.ref t, .int (i : Nat) 0] }
def ItT (t it : Addr) (i : Nat) : HO := .ext fun h => h.get? it = some (itTup t i)
def rIterT (K : PySem.W.Frag) (n : Nat) : List V → Hp → VK → Prop := fun xs H Q => ∃ (t : Addr) (zs : List V), xs = [.ref t] ∧ SqT K H t zs ∧ ∀ it, H it = Option.none → n ≤ it → Q (.ref it) (upd H it (ItT t it 0))
section
variable {X : Cx}
theorem call_iterT : CallR X (.builtin "iter") (rIterT X.K X.s_0.heap.objs.size) := by
  intro pins s σ H xs us Q I r ⟨t, zs, e, hq, q⟩
  subst e
  obtain ⟨u, rfl, ru⟩ := r.one
  obtain rfl : u = Value.ref t := ru
  obtain ⟨its, rv, pl, hz⟩ := I.tuple hq
  refine Calls.call_function_entry (by decide +kernel) (by decide +kernel) PySem.W.kdk_entry_iter (PySem.W.kdk_args_iter _) ?_
  unfold Builtin.«iter»
  refine wpAny_bind (m := someArgs "iter" 1 2 _) (wpAny_of_eq (a := [Value.ref t]) (by first | rfl | kernel_rfl!) ?_)
  show wpAny _ _ (pyIter (.ref t) >>= _) _ _ _
  refine wpAny_bind (wpAny_pyIter_tuple (show s.heap.IsTuple t its.toArray from pl) ?_)
  have g : (s.heap.push (itTup t 0)).get? s.heap.objs.size = some (itTup t 0) := Heap.get?_push_size _ rfl
  have ok : ObjOk X.prog X.w (upd H s.heap.objs.size (ItT t s.heap.objs.size 0)) (s.heap.push (itTup t 0)) s.heap.objs.size (ItT t s.heap.objs.size 0) := ⟨g, ⟨_, g⟩, fun _ _ q k => k _ q⟩
  exact wpAny_pure ⟨_, rfl, .ref s.heap.objs.size, _, I.laid (t' := s.toks) (fun b u e => Heap.get?_push_of_some _ e) (Nat.le_refl _) ok, relR _, q _ (I.hok.fresh (Nat.le_refl _)) I.sz⟩
end

/-- a promise that may speak of how many objects there are when the def is called -/
def FnIt (P : Program) (w : World) (K : PySem.W.Frag) (mg : Str → Option Value) (base : Heap) (k : Nat) (f : Addr) (fd : FuncData) (ps : List Str) (sp : Nat → List V → Hp → VK → Prop) : Prop :=
  ∀ (A : Around) (outer : List Env) (s : Shared) (H : Hp) (us : List Value) (vs : List V) (Q : VK), Room k A → Env0 P w K mg base A outer s H → BindsTo s fd ⟨us, []⟩ (ps.zip us) → vs.length = ps.length → Vals vs us →
    sp s.heap.objs.size vs H Q → codeAny (model P w) A (.call (.ref f) ⟨us, []⟩) (CR CX0 outer P w H s Q E0) s
section
variable {P : Program} {w : World} {K : PySem.W.Frag} {mg : Str → Option Value} {base : Heap}
theorem fnIt_of {x qual : Str} {st : Stmt} {f : Addr} {fd : FuncData} {N ps : List Str} {k : Nat} {sp : Nat → List V → Hp → VK → Prop} (F : Fun K x qual st f fd) (S : FnScope N ps (defScope st))
    (hbody : ∀ (cdv : Value) (A : Around) (outer : List Env) (s : Shared) (H : Hp) (vs : List V) (Q : VK), Room k (A.deeper (envOfC qual (defScope st) s.heap.objs.size f cdv)) → sp s.heap.objs.size vs H Q →
      ∃ t, PSs (cxOf CX0 P w K mg base N qual (defScope st) f cdv A outer s H E0).nox (defBody st) t ∧ t { nx := fun _ H' => Q .non H', rt := Q } (start N vs) H) : FnIt P w K mg base (k + 1) f fd ps sp := by
  obtain ⟨oc, od, kV, doc, pm, an, cdv, ct, osl, rfl, lk, hcd⟩ := F.ex
  intro A outer s H us vs Q hr e0 hb hl r hsp
  have kin : K.In s.heap := e0.mod.kin.keeps fun b o e => (e0.bs b o e).1
  have lim : s.heap.NoLimit := e0.mod.nolimit.keeps fun b o e => (e0.bs b o e).1
  have kinds : ∀ y ∈ ps.zip us, (defScope st).names.lookup y.1 = some .local ∨ ((defScope st).names.lookup y.1 = some .cell ∧ ((cellsFrom (s.heap.objs.size + 1) (defScope st).names []).lookup y.1).isSome = true) := by
    intro y hy
    cases S.par y.1 (List.of_mem_zip (a := y.1) (b := y.2) hy).1 with
    | inl q => exact .inl q
    | inr q => exact .inr ⟨q, PySem.W.cellsFrom_some _ _ _ (.inl q)⟩
  apply codeAny_call_function hr.depth (kin _ _ lk) rfl S.co S.gen rfl (PySem.W.codeRec_of kin hcd) (hb _ _ _ _ ?_)
  apply wpAny_newFunctionEnv_cells S.kind kinds
  intro env he s1 x
  subst he
  refine ⟨lim.keeps x.toInCall.keep, codeAny_func ?_⟩
  obtain ⟨t, ht, hq⟩ := hbody cdv A outer s H vs Q (hr.deeper _) hsp
  have I := inv_start (CX := CX0) (P := P) (w := w) (E := E0) (cd := cdv) (qual := qual) (f := f) (outer := outer) S hr.hd e0 hl r x
  refine wpAny_mono (ht.nox.run [] s1 (start N vs) H _ I hq) (fun fl s' hs => ?_) fun e s' hs => hs
  match fl, hs with
  | .ret u, ⟨v, σ', H', J, rv, q⟩ => exact ⟨v, H', J.os, J.bare, J.base, J.hok, rv, q⟩
  | .next, ⟨σ', H', J, q⟩ => exact ⟨V.non, H', J.os, J.bare, J.base, J.hok, rfl, q⟩
  | .brk, ⟨_, _, _, q⟩ => exact False.elim q
  | .cont, ⟨_, _, _, q⟩ => exact False.elim q
end
/-- what such an __iter__ promises -/
def spIter (K : PySem.W.Frag) (C : Addr) (fld : Str) : Nat → List V → Hp → VK → Prop := fun n vs H Q => ∃ a dx fs t zs, vs = [.ref a] ∧ H a = some (.ins C dx fs) ∧ fs.lookup fld = some (.ref t) ∧ SqT K H t zs ∧
  ∀ it, H it = Option.none → n ≤ it → Q (.ref it) (upd H it (ItT t it 0))
/-- x in o, for a loop: o's own tuple is walked -/
def iOwn (K : PySem.W.Frag) (C : Addr) (fld : Str) (to : TE) : TI := fun σ H R => to σ H fun x H1 => ∃ a dx fs t zs, x = .ref a ∧ H1 a = some (.ins C dx fs) ∧ fs.lookup fld = some (.ref t) ∧ SqT K H1 t zs ∧ R (Itt K t) H1
section
variable {X : Cx} {k : Nat} {f C : Addr} {fd : FuncData} {fld : Str} {tg o : Expr} {to : TE} {pins : List (Addr × Obj)} {σ : L2.St} {H : Hp} {s : Shared} {A1 : Around}
theorem run_iter {a t dx : Addr} {fs : List (Str × V)} {zs : List V} (F : FnIt X.prog X.w X.K X.mg X.base k f fd ["self"] (spIter X.K C fld)) (sb : Sub X k A1) (hb : Binds X.K fd ["self"] []) (I : Inv X pins σ H s)
    (ha : H a = some (.ins C dx fs)) (hf : fs.lookup fld = some (.ref t)) (ht : SqT X.K H t zs) {E : Value → Shared → Prop} :
    wpAny (model X.prog X.w) A1 (call (.ref f) [.ref a]) (fun u s' => ∃ it, u = .ref it ∧ s.heap.objs.size ≤ it ∧ H it = Option.none ∧ Inv X pins σ (upd H it (ItT t it 0)) s') E s := by
  have hb1 : BindsTo s fd ⟨[.ref a], []⟩ ((["self"] : List Str).zip [Value.ref a]) := by
    have z := hb s [.ref a] I.kIn rfl
    exact z
  refine wpAny_call (codeAny_mono (F A1 X.stack s H [.ref a] [.ref a] (fun v H' => ∃ it, v = .ref it ∧ s.heap.objs.size ≤ it ∧ H it = Option.none ∧ H' = upd H it (ItT t it 0)) sb.room (Sub.env0 sb I) hb1 rfl (.cons (relR a) .nil)
    ⟨a, dx, fs, t, zs, rfl, ha, hf, ht, fun it h0 hn => ⟨it, rfl, hn, h0, rfl⟩⟩) fun z s' hq => ?_)
  match z, hq with
  | .error e, hq => exact hq.elim
  | .ok (.ret u), hq =>
    obtain ⟨v, H', I', rv, it, ev, hn, h0, eH⟩ := I.after hq
    subst ev
    rw [eH] at I'
    obtain rfl : u = Value.ref it := rv
    exact ⟨it, rfl, hn, h0, I'⟩
  | .ok .next, hq => exact False.elim hq
  | .ok .brk, hq => exact False.elim hq
  | .ok .cont, hq => exact False.elim hq
theorem pi_own (hd : Dn X.K C "__iter__" f) (F : FnIt X.prog X.w X.K X.mg X.base k f fd ["self"] (spIter X.K C fld)) (hr : Room k X.A) (hb : Binds X.K fd ["self"] []) (ho : PE X o to) : PI X tg o (iOwn X.K C fld to) := by
  refine ⟨fun pins s σ H R I h => ?_⟩
  refine thn (ho.run pins s σ H _ I h) fun u s1 ⟨x, H1, I1, rx, a, dx, fs, t, zs, ex, ha, hf, ht, q⟩ => ?_
  subst ex
  obtain rfl : u = Value.ref a := rx
  obtain ⟨mA, O, rr, _, _, _⟩ := ins_get I1.hok ha
  obtain ⟨od, J, hl⟩ := O.look
  obtain ⟨m0, hF⟩ := I1.fr
  refine PySem.W.owit_iter hF I1.ok.mod.kin J hd.at_ hd.fn (thn (run_iter F ⟨hr, rfl⟩ hb I1 ha hf ht) fun r s2 ⟨it, er, hn, h0, I2⟩ => ?_)
  subst er
  have e2 : upd H1 it (ItT t it 0) it = some (ItT t it 0) := upd_same
  have g : s2.heap.get? it = some (itTup t 0) := (I2.hok it _ e2).1
  have hT : s2.TypeIs (.ref it) "tuple_iterator" := ⟨_, g, rfl⟩
  have hfp := ItX.inv_fp I2 e2 (Nat.le_trans I1.sz hn)
  have I3 := ItX.inv_drop I2 e2
  rw [ItX.dropH_upd h0] at I3 hfp
  unfold PySem.W.OwitIt
  refine wpAny_specialOf (name := Str.ofString "__next__") hT PySem.F.slot_tuple_iterator_next.lookup ?_
  refine ⟨it, [it], _, _, H1, rfl, I3, turn_tuple t it, ⟨_, g, rfl, rfl⟩, fun b hb => ?_, q⟩
  rw [List.mem_singleton.mp hb]
  exact hfp
end
/-! C.m(e, .., k = v, ..), m a classmethod; cls(e, .., k = v, ..), cls a local name that holds the class -/
def tCMethK (C : Addr) (n m : Nat) (sp : Sp) (gV : List V → List V → List V) (E : XK) (ta : TE) (t tk : TA) : TE := fun σ H Q => ta σ H fun x H1 => x = .ref C ∧ t σ H1 fun vs H2 => tk σ H2 fun zs H3 => (.ref C :: vs).length = n ∧ zs.length = m ∧ sp (gV (.ref C :: vs) zs) H3 Q E
def tMakeLK (i : Nat) (C : Addr) (n m : Nat) (sp : Sp) (gV : List V → List V → List V) (E : XK) (t tk : TA) : TE := fun σ H Q => σ[i]? = some (some (.ref C)) ∧ tMakeK C n m sp gV E t tk σ H Q
section
variable {X : Cx} {CX : CXT} {k n i : Nat} {C p g f : Addr} {mc : Value} {sp : Sp} {E : XK} {o e : Expr} {es : List Expr} {kws : List Keyword} {m x : Str} {pos apos xpos : Pos} {ta : TE} {t tk : TA} {pl : Sem Bool} {fd : FuncData} {ps ks : List Str}
  {gv : List Value → List Value → List Value} {gV : List V → List V → List V}
theorem pe_cmethK (he : PE X o ta) (r : ClX.CRead X.K C mc) (c : ClX.CMet X.K C mc m p g) (F : FnOk X.prog X.w X.K X.mg X.base CX k g fd ps sp) (hr : Room k X.A) (hb : KBn X.K fd ps n ks gv gV) (hx : Passes CX X E) (ha : PA X (e :: es) t) (hkw : PK X kws tk)
    (hall : (backToKw pos (keywordEach kws X.env)).all (·.1.isSome) = true := by rfl) (hks : (backToKw pos (keywordEach kws X.env)).filterMap (·.1) = ks := by rfl)
    (hst : starEach (e :: es) X.env = (false, eval e X.env) :: starEach es X.env := by rfl) (hpl : ((backTo pos (starEach (e :: es) X.env)).any (·.1) || (backToKw pos (keywordEach kws X.env)).any (·.1.isNone)) = false := by rfl)
    (ht : eval (.Call (.Attribute o m apos) (e :: es) kws pos) X.env = (do
      let ov ← eval o X.env
      standAt apos.atName
      let (f, first) ← holding [ov] (getMethod ov m pl)
      callWith pos f first (backTo pos (starEach (e :: es) X.env)) (backToKw pos (keywordEach kws X.env))) := by rfl) :
    PE X (.Call (.Attribute o m apos) (e :: es) kws pos) (tCMethK C n ks.length sp gV E ta t tk) := by
  refine ⟨fun pins s σ H Q I h => ?_⟩
  refine PySem.W.methodCall_KW (pl := pl) (thn (he.run pins s σ H _ I h) fun u s1 ⟨x, H1, I1, rx, ex, q⟩ => ?_) ht
  subst ex
  obtain rfl : u = Value.ref C := rx
  refine ClX.getmethcm_ok I1 r c fun s2 I2 => ?_
  refine PySem.W.callWith_of (P := PySem.W.MethP X.K s1.heap.objs.size g (.ref C)) hpl (PySem.W.keeps_M c.fi) (evalArgs_kw2 hall (thn (ha.run pos _ s2 σ H1 _ I2 q) fun us s3 ⟨vs, H2, I3, rv, q2⟩ => ?_) hst)
  refine thn (hkw.run pos _ s3 σ H2 _ I3 q2) fun ws s4 ⟨zs, H3, I4, rz, l1, l2, q3⟩ => ⟨⟨ClX.pin_at I4, I4.kIn⟩, ?_⟩
  rw [hks]
  have r2 : Vals (V.ref C :: vs) (Value.ref C :: us) := .cons (relR C) rv
  have n1 : (Value.ref C :: us).length = n := r2.length.symm.trans l1
  have I5 := ClX.unpin I4
  refine wpAny_call (PySem.W.method_call (ClX.pin_at I4) (codeAny_mono (F.run X.A X.stack s4 H3 ⟨Value.ref C :: us, ks.zip ws⟩ _ _ Q E hr I5.env0 (hb.to _ (Value.ref C :: us) ws I5.kIn n1 (rz.length.symm.trans l2)) (hb.rel r2 rz) q3) fun z s' hq => ?_))
  match z, hq with
  | .error e, hq => exact hx pins σ H3 s4 e s' I5 hq
  | .ok (.ret u), hq => exact I5.after hq
  | .ok .next, hq => exact False.elim hq
  | .ok .brk, hq => exact False.elim hq
  | .ok .cont, hq => exact False.elim hq
theorem pe_makeLK (M : Mk X.K C f) (F : FnOk X.prog X.w X.K X.mg X.base CX k f fd ps sp) (hr : Room (k + 1) X.A) (hb : KBn X.K fd ps (n + 1) ks gv gV) (hx : Passes CX X E) (ha : PA X (e :: es) t) (hkw : PK X kws tk)
    (hN : X.N[i]? = some x) (hv : Vis X.env.scope x) (hd : (x == ("__debug__" : Str)) = false := by decide) (hcd : (x == ("__classdict__" : Str)) = false := by decide)
    (hall : (backToKw pos (keywordEach kws X.env)).all (·.1.isSome) = true := by rfl) (hks : (backToKw pos (keywordEach kws X.env)).filterMap (·.1) = ks := by rfl)
    (hst : starEach (e :: es) X.env = (false, eval e X.env) :: starEach es X.env := by rfl) (hpl : ((backTo pos (starEach (e :: es) X.env)).any (·.1) || (backToKw pos (keywordEach kws X.env)).any (·.1.isNone)) = false := by rfl) :
    PE X (.Call (.Name x xpos) (e :: es) kws pos) (tMakeLK i C n ks.length sp gV E t tk) := by
  refine ⟨fun pins s σ H Q I ⟨h0, h⟩ => ?_⟩
  refine wpAny_Call_Name_kw (thn ((pe_var (pos := xpos) (i := i) hN hv hd hcd).run pins s σ H (fun v H1 => v = .ref C ∧ H1 = H) I ⟨.ref C, h0, rfl, rfl⟩) fun u s1 ⟨v, H1, I1, r1, ev, eH⟩ => ?_)
  subst ev
  rw [eH] at I1
  obtain rfl : u = Value.ref C := r1
  refine PySem.W.callWith_KW (h₀ := X.base) I1.ok.mod.kin M.kp hall (thn (ha.run pos pins s1 σ H _ I1 h) fun us s2 ⟨vs, H2, I2, r, q⟩ => ?_) hpl hst
  refine thn (hkw.run pos pins s2 σ H2 _ I2 q) fun ws s3 ⟨zs, H3, I3, rz, l1, l2, q2⟩ => ⟨I3.kIn, ?_⟩
  rw [hks]
  exact run_makeK M F hr hb hx I3 r rz l1 l2 q2
end

/-! heaps that only grow -/
theorem Same.up {H : Hp} {p : Addr} {o : HO} (h : H p = Option.none) : Same H (upd H p o) := fun b u e => by
  rw [upd_ne (ne_of_none e h)]
  exact e
/-- a list under way at D, which was not there in H1 -/
structure Acc (H1 : Hp) (D : Addr) (acc : List V) (H : Hp) : Prop where
  s : Same H1 H
  n : H1 D = Option.none
  a : H D = some (.lst acc)
theorem Acc.start {H1 : Hp} {D : Addr} (n : H1 D = Option.none) : Acc H1 D [] (upd H1 D (.lst [])) := ⟨Same.up n, n, upd_same⟩
theorem Acc.same {H1 H H' : Hp} {D : Addr} {acc : List V} (h : Acc H1 D acc H) (s : Same H H') : Acc H1 D acc H' := ⟨h.s.trans s, h.n, s _ _ h.a⟩
theorem Acc.push {H1 H : Hp} {D : Addr} {acc zs : List V} (h : Acc H1 D acc H) : Acc H1 D zs (upd H D (.lst zs)) :=
  ⟨fun b o e => by rw [upd_ne (ne_of_none e h.n)]; exact h.s b o e, h.n, upd_same⟩
theorem Same.none' {H H' : Hp} (s : Same H H') {p : Addr} (h : H' p = Option.none) : H p = Option.none := s.free h
theorem Same.of_upd {H H' : Hp} {p : Addr} {o : HO} (h : H p = Option.none) (s : Same (upd H p o) H') : Same H H' := (Same.up h).trans s
/-- a list of ints as values -/
theorem ints_at {ns : List Int} {i : Nat} {x : V} (h : (ns.map V.int)[i]? = some x) : ∃ (hi : i < ns.length), x = .int ns[i] := by
  rw [List.getElem?_map] at h
  cases e : ns[i]? with
  | none => rw [e] at h; cases h
  | some u =>
    rw [e] at h
    obtain ⟨hi, rfl⟩ := List.getElem?_eq_some_iff.mp e
    exact ⟨hi, (Option.some.inj h).symm⟩

/-! comprehensions that pick -/
section
variable {α : Type} {H1 H : Hp} {D : Addr} {ks : List α} {f : α → Option V} {i : Nat} {c : α → V}
def PickI (H1 : Hp) (D : Addr) (ks : List α) (f : α → Option V) : Nat → Hp → Prop := fun i H => Acc H1 D ((ks.take i).filterMap f) H
theorem pick_start (n : H1 D = Option.none) : PickI H1 D ks f 0 (upd H1 D (.lst [])) := Acc.start n
theorem take_fm (hi : i < ks.length) : (ks.take (i + 1)).filterMap f = (ks.take i).filterMap f ++ (f ks[i]).toList := by
  rw [List.take_succ_eq_append_getElem hi, List.filterMap_append]
  cases h : f ks[i] <;> simp [h]
theorem pick_yes {H' : Hp} {y : V} (hi : i < ks.length) (hl : ks.length ≤ 1000) (e : f ks[i] = some y) (s : Same H H') (h : PickI H1 D ks f i H) :
    ∃ acc, H' D = some (.lst acc) ∧ acc.length < sizeLine ∧ PickI H1 D ks f (i + 1) (upd H' D (.lst (acc ++ [y]))) := by
  have h2 := Acc.same h s
  refine ⟨_, h2.a, small1000 ?_, ?_⟩
  · exact Nat.le_trans (Nat.le_trans (List.length_filterMap_le _ _) (List.length_take_le _ _)) (by omega)
  · unfold PickI
    rw [take_fm hi, e]
    exact h2.push
theorem pick_no {H' : Hp} (hi : i < ks.length) (e : f ks[i] = none) (s : Same H H') (h : PickI H1 D ks f i H) : PickI H1 D ks f (i + 1) H' := by
  unfold PickI
  rw [take_fm hi, e, Option.toList_none, List.append_nil]
  exact Acc.same h s
theorem pick_end {m : Nat} (hm : m = ks.length) (h : PickI H1 D ks f m H) : Acc H1 D (ks.filterMap f) H := by
  subst hm
  unfold PickI at h
  rw [List.take_length] at h
  exact h
theorem map_at {x : V} (h : (ks.map c)[i]? = some x) : ∃ hi : i < ks.length, x = c ks[i] := by
  rw [List.getElem?_map] at h
  cases e : ks[i]? with
  | none => rw [e] at h; cases h
  | some u =>
    rw [e] at h
    obtain ⟨hi, rfl⟩ := List.getElem?_eq_some_iff.mp e
    exact ⟨hi, (Option.some.inj h).symm⟩
end
end Tw

set_option Elab.async false
set_option linter.all false
set_option maxRecDepth 100000
set_option maxHeartbeats 2000000
namespace Tw
open PySem PySem.Spec PyProof.Rows L2
open PySem.W (InstAt looks_findIn looks_subIn ifBound_K cmp_K)
/-- a class with an own __eq__ and the usual != -/
structure EqC (K : PySem.W.Frag) (C f : Addr) : Prop where
  eq : PySem.W.findIn K (.ref C) "__eq__" = some (some (.ref f))
  fn : PySem.W.isFn K (.ref f) = true
  ne : PySem.W.findIn K (.ref C) "__ne__" = some (some (.builtin "object.__ne__"))
  ob : PySem.W.subIn K (.ref C) (.type "object") = some true
  ni : PySem.W.subIn K (.type "int") (.ref C) = some false
  nt : PySem.W.subIn K (.type "tuple") (.ref C) = some false

section
variable {prog : Program} {w : World} {A : Around} {E : Value → Shared → Prop} {s : Shared} {K : PySem.W.Frag} {x C L f : Addr} {h₀ : Heap} {m : Str → Option Value} {ox : Obj} {od : Option Obj} {b tb : Value}
theorem ne_entry {Q : PySem.Fin → Shared → Prop} (hu : A.units < cLine) (X : K.In s.heap) (I : InstAt s.heap x ox C od) (c : EqC K C f)
    (h : wpAny (model prog w) A (call (.ref f) [.ref x, b]) (fun v s' => ∃ r, v = .bool r ∧ Q (.done (.ret (.bool (!r)))) s') E s) :
    wpAny (model prog w) A (Builtin.«object.__ne__» ⟨[.ref x, b], []⟩) Q E s := by
  unfold Builtin.«object.__ne__»
  refine wpAny_bind (wpAny_of_eq (a := (Value.ref x, [b])) (by first | rfl | kernel_rfl!) ?_)
  refine wpAny_bind (wpAny_cRoomFor hu ?_)
  refine wpAny_bind (m := callSpecialIfBound? (.ref x) (Str.ofString "__eq__") [b]) (ifBound_K X I c.eq c.fn (wpAny_mono h (fun v s' hv => ?_) fun _ _ e => e))
  obtain ⟨r, e, q⟩ := hv
  subst e
  refine wpAny_bind (m := truthy (.bool r)) (wpAny_truthy_bool ?_)
  exact wpAny_pure q
theorem ne_call {Q : Value → Shared → Prop} (hu : A.in1.units < cLine) (X : K.In s.heap) (I : InstAt s.heap x ox C od) (c : EqC K C f)
    (h : wpAny (model prog w) A.in1 (call (.ref f) [.ref x, b]) (fun v s' => ∃ r, v = .bool r ∧ Q (.bool (!r)) s') E s) :
    wpAny (model prog w) A (call (.builtin "object.__ne__") [.ref x, b]) Q E s := by
  have t2 : PySem.W.Looks (model prog w) s.heap (isInstance (.ref x) (.type "object")) true := I.type.andThen (looks_subIn X c.ob)
  refine wpAny_call (codeAny_call_builtin F.cmp_object.ne.plain F.cmpEntry_ne (PySem.W.check_slot F.cmpKind_ne F.cmpSplit_ne t2 (F.cmpArgs_ne _ _) (ne_entry hu X I c (wpAny_mono h (fun v s' hv => ?_) fun _ _ e => e))))
  obtain ⟨r, e, q⟩ := hv
  exact ⟨r, e, q⟩
theorem ne_bound {Q : Option Value → Shared → Prop} (hu : A.in1.units < cLine) (X : K.In s.heap) (I : InstAt s.heap x ox C od) (c : EqC K C f)
    (h : wpAny (model prog w) A.in1 (call (.ref f) [.ref x, b]) (fun v s' => ∃ r, v = .bool r ∧ Q (some (.bool (!r))) s') E s) :
    wpAny (model prog w) A (callSpecialIfBound? (.ref x) "__ne__" [b]) Q E s := by
  simp only [callSpecialIfBound?, bindSpecialIfBound?]
  refine wpAny_holding (wpAny_bind (wpAny_bind (wpAny_bind (I.type.here ((looks_findIn X c.ne).here ?_)))))
  refine wpAny_bind (wpAny_askSetting (wpAny_ite ?_))
  have fin : wpAny (model prog w) A (call (.builtin "object.__ne__") ([.ref x] ++ [b]) >>= fun v => pure (some v)) Q E s :=
    wpAny_bind (ne_call hu X I c (wpAny_mono h (fun v s' ⟨r, e, q⟩ => ⟨r, e, wpAny_pure q⟩) fun _ _ e => e))
  have bd := F.cmp_object.ne.bind (.ref x)
  split
  · refine wpAny_bind ?_
    rw [bd]
    exact wpAny_pure (wpAny_pure (by exact fin))
  · refine wpAny_tryCatch (wpAny_bind ?_)
    rw [bd]
    exact wpAny_pure (wpAny_pure (by exact fin))
theorem ne_K {Q : Value → Shared → Prop} (hu : A.in1.units < cLine) (hu0 : A.units < cLine) (F : Fr h₀ L s.heap m) (X₀ : K.In h₀) (I : InstAt s.heap x ox C od) (hb : PySem.W.Looks (model prog w) s.heap (typeOf b) tb) (hn : PySem.W.notFirst K C tb = true) (c : EqC K C f)
    (h : wpAny (model prog w) A.in1 (call (.ref f) [.ref x, b]) (fun v s' => ∃ r, v = .bool r ∧ Q (.bool (!r)) s') E s) : wpAny (model prog w) A (richCompare .NotEq (.ref x) b) Q E s := by
  have X := X₀.keeps F.keep
  have one : wpAny (model prog w) A (tryCompare (.ref x) (cmpInfo .NotEq).2.1 b) (fun r s' => ∃ v, r = some v ∧ Q v s') E s := by
    unfold tryCompare
    refine wpAny_bind (ne_bound hu X I c (wpAny_mono h (fun v s' ⟨r, e, q⟩ => ⟨r, e, ?_⟩) fun _ _ e => e))
    exact wpAny_pure ⟨_, rfl, q⟩
  have two : ∀ r s', (∃ v, r = some v ∧ Q v s') → ∃ v, r = some v ∧ Q v s' := fun _ _ z => z
  unfold richCompare
  simp only [oneThing_ref]
  refine wpAny_holding (wpAny_bind (wpAny_cRoomFor hu0 ?_))
  refine wpAny_bind (I.type.here (wpAny_bind (hb.here ?_)))
  split
  · rename_i q
    have e : PySem.W.subIn K tb (.ref C) = some false := by
      rcases Bool.or_eq_true_iff.mp hn with e | e
      · rw [beq_iff_eq.mp e] at q; simp at q
      · exact beq_iff_eq.mp e
    refine wpAny_bind ((looks_subIn X e).here ?_)
    simp only [Bool.false_eq_true, if_false]
    refine wpAny_bind (wpAny_mono one (fun r s' ⟨v, ev, hq⟩ => ?_) fun _ _ e => e)
    subst ev
    exact wpAny_pure hq
  · refine wpAny_bind (wpAny_pure ?_)
    simp only [Bool.false_eq_true, if_false]
    refine wpAny_bind (wpAny_mono one (fun r s' ⟨v, ev, hq⟩ => ?_) fun _ _ e => e)
    subst ev
    exact wpAny_pure hq
end
/-! as rules -/
section
variable {X : Cx} {CX : CXT} {k : Nat} {f C : Addr} {fd : FuncData} {ps : List Str} {sp : Sp} {E : XK}
/-- the other operand: an instance of the same class, an int, a tuple -/
inductive Oth (H : Hp) (C : Addr) : V → Prop where
  | ins {a dx : Addr} {fs : List (Str × V)} (h : H a = some (.ins C dx fs)) : Oth H C (.ref a)
  | int (i : Int) : Oth H C (.int i)
  | tup {a : Addr} {xs : List V} (h : H a = some (.tup xs)) : Oth H C (.ref a)
def rEqO (C : Addr) (sp : Sp) (E : XK) (neg : Bool) : R2 := fun x y H Q =>
  ∃ a dx fs, x = .ref a ∧ H a = some (.ins C dx fs) ∧ Oth H C y ∧ sp [.ref a, y] H (fun v H' => ∃ r, v = .bl r ∧ Q (.bl (if neg then !r else r)) H') E
theorem oth_type {pins : List (Addr × Obj)} {σ : L2.St} {H : Hp} {s : Shared} {y : V} {u : Value} (I : Inv X pins σ H s) (ry : RelV y u) (c : EqC X.K C f) (o : Oth H C y) :
    ∃ tb, PySem.W.Looks (model X.prog X.w) s.heap (typeOf u) tb ∧ PySem.W.notFirst X.K C tb = true := by
  cases o with
  | @ins a dx fs h =>
    obtain rfl : u = Value.ref a := ry
    obtain ⟨mA, O, rr, _, _, _⟩ := ins_get I.hok h
    obtain ⟨od, J, hl⟩ := O.look
    exact ⟨_, J.type, by unfold PySem.W.notFirst; simp⟩
  | int i =>
    obtain ⟨t, rfl⟩ := ry
    exact ⟨.type "int", .now, by unfold PySem.W.notFirst; rw [c.ni]; simp⟩
  | @tup a xs h =>
    obtain rfl : u = Value.ref a := ry
    obtain ⟨_, _, _, ob, h1, h2, _⟩ := (show ObjOk X.prog X.w H s.heap a (.tup xs) from I.hok a _ h)
    exact ⟨.type "tuple", h2 ▸ (PySem.W.Looks.ld h1).andThen .now, by unfold PySem.W.notFirst; rw [c.nt]; simp⟩
theorem op_eq_own (c : EqC X.K C f) (F : FnOk X.prog X.w X.K X.mg X.base CX k f fd ps sp) (hr : Room k X.A) (hb : Binds X.K fd ps []) (hx : Passes CX X E) : OpR X (compareOp .Eq) (rEqO C sp E false) := by
  intro pins s σ H x y v u Q I rx ry ⟨a, dx, fs, ex, ha, o, q⟩
  subst ex
  obtain rfl : v = Value.ref a := rx
  obtain ⟨mA, O, rr, _, _, _⟩ := ins_get I.hok ha
  obtain ⟨od, J, hl⟩ := O.look
  obtain ⟨m0, hF⟩ := I.fr
  obtain ⟨tb, lk, nf⟩ := oth_type I ry c o
  show wpAny _ _ (richCompare .Eq (.ref a) u) _ _ _
  refine cmp_K hr.units0 hF I.ok.mod.kin J lk nf c.eq c.fn (thn (run_sub F ⟨hr, rfl⟩ hb hx I (.cons (relR a) (.cons ry .nil)) q) fun r s' ⟨z, H', I', rz, b, ez, q'⟩ => ?_)
  subst ez
  obtain rfl : r = Value.bool b := rz
  exact ⟨_, H', I', relB b, q'⟩
theorem op_ne_own (c : EqC X.K C f) (F : FnOk X.prog X.w X.K X.mg X.base CX k f fd ps sp) (hr : Room (k + 1) X.A) (hb : Binds X.K fd ps []) (hx : Passes CX X E) : OpR X (compareOp .NotEq) (rEqO C sp E true) := by
  intro pins s σ H x y v u Q I rx ry ⟨a, dx, fs, ex, ha, o, q⟩
  subst ex
  obtain rfl : v = Value.ref a := rx
  obtain ⟨mA, O, rr, _, _, _⟩ := ins_get I.hok ha
  obtain ⟨od, J, hl⟩ := O.look
  obtain ⟨m0, hF⟩ := I.fr
  obtain ⟨tb, lk, nf⟩ := oth_type I ry c o
  show wpAny _ _ (richCompare .NotEq (.ref a) u) _ _ _
  refine ne_K (Room.units0 hr.in1) hr.units0 hF I.ok.mod.kin J lk nf c (thn (run_sub F (Sub.in1 ⟨hr, rfl⟩) hb hx I (.cons (relR a) (.cons ry .nil)) q) fun r s' ⟨z, H', I', rz, b, ez, q'⟩ => ?_)
  subst ez
  exact ⟨b, rz, _, H', I', relB (!b), q'⟩
end
end Tw

set_option Elab.async false
set_option linter.all false
set_option maxRecDepth 100000
set_option maxHeartbeats 4000000
namespace Tw
open PySem PySem.Spec PyProof.Rows L2
/-! enumerate(t), t a tuple -/
def enO (s : Shared) : Obj := { cls := .type "enumerate", data := .fields #[.none, .bool false, .ref s.heap.objs.size, rawInt 0, .none, .none] }
theorem enum_newT (t : Addr) (items : Array Value) :
    Meets (Builtin.«enumerate.__new__» ⟨[.type "enumerate", .ref t], []⟩) (fun _ R s => s.heap.IsTuple t items ∧
      R (.ok (.ret (.ref (s.heap.push (itTup t 0)).objs.size))) { s with heap := (s.heap.push (itTup t 0)).push (enO s) }) :=
  .of_wp fun prog w A R s h => by
    obtain ⟨hp, g, d, tk, os⟩ := s
    obtain ⟨h1, h⟩ := h
    have hsub := sub_enumerate
    have q1 : ∀ {A' : Around} {E : Value → Shared → Prop} {Q : Value → Shared → Prop}, Q (.ref hp.objs.size) ⟨hp.push (itTup t 0), g, d, tk, os⟩ → wpAny (model prog w) A' (pyIter (.ref t)) Q E ⟨hp, g, d, tk, os⟩ :=
      fun q => wpAny_pyIter_tuple (s := ⟨hp, g, d, tk, os⟩) h1 q
    wp_walk using q1
    refine wpAny_stack_any fun st => wpAny_pure ?_
    split
    · rename_i c _ _ _ _ _
      cases (c == Value.type "enumerate")
      · wp_walk using q1
        exact ⟨_, rfl, h⟩
      · wp_walk using q1
        exact ⟨_, rfl, h⟩
    · wp_walk using q1
      exact ⟨_, rfl, h⟩
section
variable {prog : Program} {w : World} {A : Around} {E : Value → Shared → Prop} {s : Shared}
theorem call_enumT {t : Addr} {items : Array Value} {Q : Value → Shared → Prop} (hT : s.heap.IsTuple t items)
    (h : ∀ h', IsEnum h' (s.heap.objs.size + 1) s.heap.objs.size 0 .none → h'.IsTupleIter s.heap.objs.size t 0 → h'.objs.size = s.heap.objs.size + 2 →
      (∀ b o, s.heap.get? b = some o → h'.get? b = some o) → Q (.ref (s.heap.objs.size + 1)) { s with heap := h' }) :
    wpAny (model prog w) A (call (.type "enumerate") [.ref t]) Q E s := by
  refine callType_new F.called_enumerate (by decide) (F.typeCall_enumerate_1 _) (F.newCall_enumerate_1 _) (fun obj => F.args_object_init_2 obj _) F.entry_enumerate_new (enum_newT t items) ⟨hT, ?_⟩
  have hz : (s.heap.push (itTup t 0)).objs.size = s.heap.objs.size + 1 := Heap.size_push ..
  show _ ∧ _
  rw [hz]
  have he : IsEnum ((s.heap.push (itTup t 0)).push (enO s)) (s.heap.objs.size + 1) s.heap.objs.size 0 .none := by
    have q := Heap.get?_push_size (s.heap.push (itTup t 0)) (o := enO s) rfl
    rw [hz] at q
    exact q
  have hi : ((s.heap.push (itTup t 0)).push (enO s)).IsTupleIter s.heap.objs.size t 0 := ⟨_, Heap.get?_push_of_some _ (Heap.get?_push_size _ rfl), rfl, rfl⟩
  exact ⟨⟨_, he, rfl⟩, h _ he hi (by rw [Heap.size_push, hz]) fun b o x => Heap.get?_push_of_some _ (Heap.get?_push_of_some _ x)⟩
end
def IteT (K : PySem.W.Frag) (a : Addr) : It :=
  ⟨fun i H => ∃ (xs : List V) (x : V), SqT K H a xs ∧ xs[i]? = some x, fun i H v H' => ∃ T x, v = .ref T ∧ H T = Option.none ∧ H' = upd H T (.tup [.int (i : Nat), x]) ∧ ∀ xs, SqT K H a xs → xs[i]? = some x, fun i H => ∃ xs : List V, SqT K H a xs ∧ xs.length = i⟩
theorem turn_enumT {P : Program} {w : World} {K : PySem.W.Frag} {elts : List Expr} {kk : Nat} {tpos : Pos} (a e it : Addr) :
    Turn P w K (.Tuple elts kk tpos) (IteT K a) [e, it] e (fun i h => (∃ old, IsEnum h e it ((i : Nat) : Int) old) ∧ h.IsTupleIter it a i ∧ e ≠ it) where
  mem := by simp
  obj := fun i h st b hb => by
    obtain ⟨⟨old, he⟩, ⟨o, ho, hc, hd⟩, _⟩ := st
    rcases (show b = e ∨ b = it by simpa using hb) with rfl | rfl
    · exact ⟨_, he, fun v q => nomatch q⟩
    · exact ⟨o, ho, fun v q => by rw [hd] at q; cases q⟩
  keep := fun i h h' st k => let ⟨⟨old, he⟩, hi, hne⟩ := st; ⟨⟨old, k e (by simp) _ he⟩, hi.at fun o q => k it (by simp) o q, hne⟩
  item := by
    intro X hP hw hK hc i pins s σ H E I hf st hg
    subst hP hw hK
    obtain ⟨⟨old, he⟩, hit, hne⟩ := st
    obtain ⟨xs, x, hq, hx⟩ := hg
    obtain ⟨its, rv, p, hz⟩ := I.tuple hq
    have hil : i < xs.length := (List.getElem?_eq_some_iff.mp hx).1
    have hlen := rv.length
    have hel : e < s.heap.objs.size := Heap.lt_size he
    have hitl : it < s.heap.objs.size := by obtain ⟨_, q, _⟩ := hit; exact Heap.lt_size q
    have hae : e ≠ a := fun z => by
      obtain ⟨oo, h1, h2, _⟩ := p
      rw [← z, he] at h1
      cases h1
      injection h2 with q
      exact absurd q (by decide)
    have hia : it ≠ a := fun z => by
      obtain ⟨oo, h1, h2, _⟩ := p
      obtain ⟨o2, h3, h4, _⟩ := hit
      rw [← z, h3] at h1
      cases h1
      rw [h4] at h2
      injection h2 with q
      exact absurd q (by decide)
    have D := Draws.tuple (prog := X.prog) (w := X.w) (A := X.A.in1) (I.ok.hd hc) it a hia.symm its.toArray
    refine wpAny_pyNext_enum_itemD D he ⟨hit, p⟩ (by rw [List.size_toArray]; omega) hne (by simp [hne, hae]) fun u h' tk hu ho hst hT hsz hk => ?_
    obtain ⟨u2, hu2, ru⟩ := rv.get hx
    obtain rfl : u = u2 := by
      rw [List.getElem?_toArray] at hu
      exact Option.some.inj (hu.symm.trans hu2)
    refine ⟨_, rfl, wpAny_letOwnedTupleGo_enum (s := { s with heap := h', toks := tk + 1 }) ho fun h'' he' sb => ?_⟩
    have hT2 : h''.get? s.heap.objs.size = some { cls := .type "tuple", data := .seq #[.int i tk, u] } := (sb.2 _ (Nat.ne_of_gt hel)).trans hT
    have new : ObjOk X.prog X.w (upd H s.heap.objs.size (.tup [.int (i : Nat), x])) h'' s.heap.objs.size (.tup [.int (i : Nat), x]) :=
      ⟨by show 2 ≤ sizeLine; decide, [.int i tk, u], .cons ⟨_, rfl⟩ (.cons ru .nil), ⟨_, hT2, rfl, _, rfl⟩⟩
    have I1 : Inv X pins σ (upd H s.heap.objs.size (.tup [.int (i : Nat), x])) { s with heap := h'', toks := tk + 1 } :=
      I.turnedNew (ch := [e, it]) (fun b ob hb q => (sb.2 b (fun z => hb (by simp [z]))).trans (hk b ob (fun z => hb (by simp [z])) (fun z => hb (by simp [z])) q)) hf (Nat.le_refl _) new
    refine ⟨.ref s.heap.objs.size, _, I1, rfl, ⟨_, x, rfl, I.hok.fresh (Nat.le_refl _), rfl, fun ys hy => by rw [I.tuple_inj hy hq]; exact hx⟩, ⟨⟨u, ?_⟩, hst.1.at fun o q => (sb.2 it (Ne.symm hne)).trans q, hne⟩, fun b hb => ?_⟩
    · rw [show ((i + 1 : Nat) : Int) = (i : Int) + 1 by omega]
      exact he'
    · have hb' : b < s.heap.objs.size := by
        rcases (show b = e ∨ b = it by simpa using hb) with rfl | rfl
        · exact hel
        · exact hitl
      rw [upd_ne (Nat.ne_of_lt hb')]
      exact (hf b hb).1
  done := by
    intro X hP hw hK hc i pins s σ H E I hf st hg
    subst hP hw hK
    obtain ⟨⟨old, he⟩, hit, hne⟩ := st
    obtain ⟨xs, hq, hx⟩ := hg
    obtain ⟨its, rv, p, hz⟩ := I.tuple hq
    obtain ⟨f0, f1, f2, f3, f4, f5⟩ := hf it (by simp)
    have hlen := rv.length
    have hae : e ≠ a := fun z => by
      obtain ⟨oo, h1, h2, _⟩ := p
      rw [← z, he] at h1
      cases h1
      injection h2 with q
      exact absurd q (by decide)
    have hia : it ≠ a := fun z => by
      obtain ⟨oo, h1, h2, _⟩ := p
      obtain ⟨o2, h3, h4, _⟩ := hit
      rw [← z, h3] at h1
      cases h1
      rw [h4] at h2
      injection h2 with q
      exact absurd q (by decide)
    have D := Draws.tuple (prog := X.prog) (w := X.w) (A := X.A.in1) (I.ok.hd hc) it a hia.symm its.toArray
    have en : its.toArray.size = i := by rw [List.size_toArray]; omega
    refine wpAny_pyNext_enum_endD D he (by rw [en]; exact ⟨hit, p⟩) fun h' eb => ⟨rfl, I.turned (t' := s.toks) (fun b o hb q => eb b o hb q) f0 f1 f3 f4 f5⟩
  self := fun A i s Q E st h => let ⟨⟨_, he⟩, _⟩ := st; wpAny_pyIter_enum he h
theorem walk_enumT {K : PySem.W.Frag} {a : Addr} {xs : List V} : Walk (IteT K a) xs.length (fun H => SqT K H a xs) (YPair (fun i => some (.int (i : Nat))) (fun i => xs[i]?)) := by
  refine ⟨fun i _ hi q => ⟨xs, xs[i], q, by simp [hi]⟩, fun _ q => ⟨xs, q, rfl⟩, fun i H v H' _ q y => ?_⟩
  obtain ⟨T, x, h1, h2, h3, h4⟩ := y
  exact ⟨T, .int (i : Nat), x, h1, h2, h3, rfl, h4 xs q⟩
/-- enumerate of a list or of a tuple -/
def iEnS (K : PySem.W.Frag) (ta : TA) : TI := fun σ H R => ta σ H fun vs H1 => ∃ a xs, vs = [.ref a] ∧ ((SqL K H1 a xs ∧ R (Ite K a) H1) ∨ (SqT K H1 a xs ∧ R (IteT K a) H1))
theorem pi_enS {X : Cx} {e : Expr} {ta : TA} {p pos tpos : Pos} {elts : List Expr} {kk : Nat} (hg : Gl X "enumerate") (hm : X.mg "enumerate" = Option.none) (ha : PA X [e] ta) (hs : starEach [e] X.env = [(false, eval e X.env)] := by rfl) :
    PI X (.Tuple elts kk tpos) (.Call (.Name "enumerate" p) [e] [] pos) (iEnS X.K ta) := by
  refine ⟨fun pins s σ H R I h => ?_⟩
  refine Call_ (ld_blt I hg hm boot_enumerate (PyProof.Rows.callWith_type1 (thn (ha.run pos pins s σ H _ I h) fun us s1 ⟨vs, H1, I1, r1, a, xs, ex, q1⟩ => ?_) hs rfl))
  subst ex
  obtain ⟨u, rfl, ru⟩ := r1.one
  obtain rfl : u = Value.ref a := ru
  have fr : ∀ b ∈ [s1.heap.objs.size + 1, s1.heap.objs.size], FpOk X pins H1 b := fun b hb => by
    have hle : s1.heap.objs.size ≤ b := by
      rcases (show b = s1.heap.objs.size + 1 ∨ b = s1.heap.objs.size by simpa using hb) with z | z <;> omega
    exact I1.fpOk hle (I1.hok.fresh hle)
  rcases q1 with ⟨hq, q⟩ | ⟨hq, q⟩
  · obtain ⟨its, rv, p', hz⟩ := I1.list hq
    exact call_enumerate_list p'.isList fun h' he hit hsz hk => wpAny_pyIter_enum he ⟨_, _, _, _, H1, rfl, I1.kept (t' := s1.toks) hk, turn_enum a (s1.heap.objs.size + 1) s1.heap.objs.size, ⟨⟨.none, he⟩, hit, Nat.succ_ne_self _⟩, fr, q⟩
  · obtain ⟨its, rv, p', hz⟩ := I1.tuple hq
    exact call_enumT p' fun h' he hit hsz hk => wpAny_pyIter_enum he ⟨_, _, _, _, H1, rfl, I1.kept (t' := s1.toks) hk, turn_enumT a (s1.heap.objs.size + 1) s1.heap.objs.size, ⟨⟨.none, he⟩, hit, Nat.succ_ne_self _⟩, fr, q⟩
end Tw

set_option Elab.async false
set_option linter.all false
set_option maxRecDepth 100000
set_option maxHeartbeats 2000000
/-! own rules: min(xs, key=lambda x: ys[x]), ys a name of the def -/
namespace Cl
open PySem PySem.Spec PyProof.Rows L2 LamX
section
variable {prog : Program} {w : World} {A : Around} {E : Value → Shared → Prop} {s : Shared}
/-- what the lambda's scope must say -/
structure LSc (scope : Scope) (x y : Str) : Prop where
  kind : scope.kind = .function
  co : scope.isCoroutine = false
  gen : scope.isGenerator = false
  nocell : ∀ z ∈ scope.names, z.2 ≠ .cell
  px : scope.names.lookup x = some .local
  fy : scope.names.lookup y = some .free
/-- lambda x: y[x], called with an int -/
theorem lam_ix {f l c' ck : Addr} {q x y : Str} {params : Arguments} {p1 p2 p3 : Pos} {scope : Scope} {cl : List (Str × Addr)} {pm ctv u : Value} {vs : List Value} {i : Int} {t : Tok} {Q : Value → Shared → Prop}
    (S : LSc scope x y) (hd : A.depth < recursionLimit) (hf : s.heap.get? f = some (PySem.W.kla_obj "<lambda>" q params (.Subscript (.Name y p1) (.Name x p2) p3) scope cl pm c' ctv))
    (hbind : ∀ v : Value, bindArgs (PySem.W.kla_fn "<lambda>" q params (.Subscript (.Name y p1) (.Name x p2) p3) scope cl pm (.ref c') ctv) ⟨[v], []⟩ = pure [(x, v)])
    (hcode : ∃ (oc : Obj) (us : Array Value) (tk : Tok), s.heap.get? c' = some oc ∧ oc.data = .fields us ∧ us[1]? = some (.str q tk)) (hlim : s.heap.NoLimit)
    (hck : cl.lookup y = some ck) (hcell : s.heap.IsCell ck (some (.ref l))) (hl : s.heap.IsList l vs.toArray) (h0 : 0 ≤ i) (h1 : i < 2 ^ 63) (hi : vs[i.toNat]? = some u)
    (hdx : (x == ("__debug__" : Str)) = false) (hdy : (y == ("__debug__" : Str)) = false) (hcy : (y == ("__classdict__" : Str)) = false)
    (h : ∀ h' tk, s.toks ≤ tk → (∀ b o, s.heap.get? b = some o → h'.get? b = some o) → Q u { s with heap := h', toks := tk }) : wpAny (model prog w) A (call (.ref f) [.int i t]) Q E s := by
  obtain ⟨oc, us, tq, hoc, hdc, hvc⟩ := hcode
  refine wpAny_call (PySem.W.kla_callFunE hd hf rfl S.co S.gen rfl ⟨c', oc, us, tq, rfl, hoc, hdc, hvc⟩ ?_)
  rw [hbind]
  refine wpAny_pure (wpAny_newFunctionEnv S.nocell (fun z hz => by rw [List.mem_singleton.mp hz]; exact S.px) (fun h₁ hns hsb => ⟨hlim.fresh _ hsb, ?_⟩) S.kind)
  have kp : ∀ b o, s.heap.get? b = some o → h₁.get? b = some o := fun b o e => hsb.extBut b o (Nat.ne_of_lt (Heap.lt_size e)) (Heap.get?_push_of_some _ e)
  refine PySem.W.kla_codeExpr ?_
  refine wpAny_Subscript_Name list_getitem_lookup ?_
  refine wpAny_Name (wpAny_loadName_free S.kind S.fy hck (hcell.keeps kp) ?_ hcy) hdy
  refine wpAny_Name (wpAny_loadName_local S.kind S.px hns (v := .int i t) ?_ ?_) hdx
  · simp [List.lookup]
  · have hl' : h₁.IsList l vs.toArray := hl.at fun o e => kp _ _ e
    refine ⟨hl'.typeIs, wpAny_getItem_list hl' h0 h1 (by simpa using hi) ?_⟩
    exact h h₁ _ (by show s.toks ≤ s.toks + _; omega) kp
/-- what a lambda x: y[x] is, and what it reads -/
structure LamAt (h : Heap) (f : Addr) (x y : Str) (q : Str) (params : Arguments) (p1 p2 p3 : Pos) (scope : Scope) (cl : List (Str × Addr)) (pm ctv : Value) (c' ck l : Addr) (us : List Value) : Prop where
  fn : h.get? f = some (PySem.W.kla_obj "<lambda>" q params (.Subscript (.Name y p1) (.Name x p2) p3) scope cl pm c' ctv)
  code : ∃ (oc : Obj) (us : Array Value) (tk : Tok), h.get? c' = some oc ∧ oc.data = .fields us ∧ us[1]? = some (.str q tk)
  lim : h.NoLimit
  hck : cl.lookup y = some ck
  cell : h.IsCell ck (some (.ref l))
  lst : h.IsList l us.toArray
theorem LamAt.keeps {h h' : Heap} {f : Addr} {x y : Str} {q : Str} {params : Arguments} {p1 p2 p3 : Pos} {scope : Scope} {cl : List (Str × Addr)} {pm ctv : Value} {c' ck l : Addr} {us : List Value}
    (L : LamAt h f x y q params p1 p2 p3 scope cl pm ctv c' ck l us) (k : ∀ b o, h.get? b = some o → h'.get? b = some o) : LamAt h' f x y q params p1 p2 p3 scope cl pm ctv c' ck l us :=
  ⟨k _ _ L.fn, let ⟨oc, us, tk, a, b, c⟩ := L.code; ⟨oc, us, tk, k _ _ a, b, c⟩, L.lim.keeps k, L.hck, L.cell.keeps k, L.lst.at fun o e => k _ _ e⟩
theorem min_lam {f a l c' ck : Addr} {q x y : Str} {params : Arguments} {p1 p2 p3 : Pos} {scope : Scope} {cl : List (Str × Addr)} {pm ctv : Value} {cs us : List Value} {ns : Nat → Int} {kf : Nat → Int} {Q : Value → Shared → Prop}
    (hh : A.handled = none) (S : LSc scope x y) (hd : A.depth < recursionLimit) (L : LamAt s.heap f x y q params p1 p2 p3 scope cl pm ctv c' ck l us)
    (hbind : ∀ v : Value, bindArgs (PySem.W.kla_fn "<lambda>" q params (.Subscript (.Name y p1) (.Name x p2) p3) scope cl pm (.ref c') ctv) ⟨[v], []⟩ = pure [(x, v)])
    (hdx : (x == ("__debug__" : Str)) = false) (hdy : (y == ("__debug__" : Str)) = false) (hcy : (y == ("__classdict__" : Str)) = false)
    (ht : s.heap.IsTuple a cs.toArray) (hc : ∀ i, i < cs.length → ∃ t, cs[i]? = some (.int (ns i) t)) (hne : 0 < cs.length)
    (hk : ∀ i, i < cs.length → 0 ≤ ns i ∧ ns i < 2 ^ 63 ∧ ∃ t, us[(ns i).toNat]? = some (.int (kf i) t))
    (h : ∀ v h' tk, cs[argBest (fun i j => decide (kf i < kf j)) (cs.length - 1)]? = some v → (∀ b o, s.heap.get? b = some o → h'.get? b = some o) → Q v { s with heap := h', toks := tk }) :
    wpAny (model prog w) A (call (.builtin "min") [.ref a] [(Str.ofString "key", .ref f)]) Q E s := by
  have hd1 : A.in1.depth < recursionLimit := hd
  refine call_min_walkK (PySem.W.iter_tupleW (A := A.in1) hh ht fun s₂ e2 W st hfp hfr kp2 => ?_)
  have sz2 : s.heap.objs.size < s₂.heap.objs.size := hfp _ List.mem_cons_self
  have old : ∀ {s' : Shared}, Moved [s₂.heap.objs.size, s.heap.objs.size] (fun a b => b = a) s₂ s' → ∀ b o, s.heap.get? b = some o → s'.heap.get? b = some o := fun {s'} m b o e => by
    have lt := Heap.lt_size e
    refine m.heap b o (fun hm => ?_) (kp2 b o e)
    rcases List.mem_cons.mp hm with z | hm
    · rw [z] at lt
      exact Nat.lt_irrefl _ (Nat.lt_trans lt sz2)
    · rw [List.mem_singleton.mp hm] at lt
      exact Nat.lt_irrefl _ lt
  have szc : cs.toArray.size = cs.length := by simp
  refine ⟨s.heap.objs.size, [s.heap.objs.size, a], [s.heap.objs.size], (fun a b => b = a), cs.toArray.size, _, _, fun s' => Moved [s₂.heap.objs.size, s.heap.objs.size] (fun a b => b = a) s₂ s', fun i k _ => ∃ t, k = .int (kf i) t, fun i j => decide (kf i < kf j), rfl, W, st, hfp, by rw [szc]; exact hne, ⟨?_, ?_, ?_, ?_⟩, Moved.refl fun _ => rfl, ?_⟩
  · exact fun s1 s' J m => J.trans (fun _ _ _ h1 h2 => h2.trans h1) m
  · exact fun i k s1 s' v _ => v
  · intro i v s1 o Q' E' hi hP J stI hS cont
    rw [szc] at hi
    obtain ⟨t, ec⟩ := hc i hi
    have ev : v = .int (ns i) t := by
      have hP' : cs[i]? = some v := by simpa using hP
      rw [ec] at hP'
      exact (Option.some.inj hP').symm
    subst ev
    obtain ⟨h0, h1, tk, eu⟩ := hk i hi
    have L1 := L.keeps (old J)
    refine lam_ix S hd1 L1.fn hbind L1.code L1.lim L1.hck L1.cell L1.lst h0 h1 eu hdx hdy hcy fun h' tk' hle kp => ?_
    exact cont _ _ (J.then_heap hle fun b o _ e => kp b o e) (W.frame _ s1 h' tk' stI hle fun b _ o e => kp b o e) (kp _ _ hS) ⟨_, rfl⟩ fun j k' z => z
  · intro i j ki kj s1 Q' E' J vi vj q
    exact CmpOf.ints_lt (prog := prog) (w := w) (A := A.in1) (P := fun i v => ∃ t, v = .int (kf i) t) kf (fun i v h => h) i j ki kj s1 Q' E' vi vj q
  · intro v s' hP J
    rw [szc] at hP
    have hP' : cs[argBest (fun i j => decide (kf i < kf j)) (cs.length - 1)]? = some v := by simpa using hP
    have e : s' = { s with heap := s'.heap, toks := s'.toks } := by
      obtain ⟨hp, g, d, tk, os⟩ := s'
      subst e2
      have h1 : g = s.gens := J.gens
      have h2 : d = s.drawn := J.drawn
      have h3 : os = s.os := J.os
      subst h1 h2 h3
      rfl
    rw [e]
    exact h v s'.heap s'.toks hP' (old J)
end
/-- the first of the least -/
def FirstLeast (kf : Nat → Int) (n j : Nat) : Prop := j < n ∧ (∀ i, i < n → kf j ≤ kf i) ∧ ∀ i, i < j → kf j < kf i
theorem best_is (kf : Nat → Int) : ∀ n, FirstLeast kf (n + 1) (argBest (fun i j => decide (kf i < kf j)) n)
  | 0 => ⟨Nat.zero_lt_one, fun i h => by rw [Nat.lt_one_iff.mp h]; exact Int.le_refl _, fun i h => nomatch h⟩
  | n + 1 => by
    obtain ⟨a, b, c⟩ := best_is kf n
    show FirstLeast kf (n + 2) (if decide (kf (n + 1) < kf (argBest (fun i j => decide (kf i < kf j)) n)) = true then n + 1 else argBest (fun i j => decide (kf i < kf j)) n)
    by_cases h : kf (n + 1) < kf (argBest (fun i j => decide (kf i < kf j)) n)
    · rw [if_pos (decide_eq_true h)]
      refine ⟨by omega, fun i hi => ?_, fun i hi => ?_⟩
      · by_cases e : i = n + 1
        · rw [e]
          exact Int.le_refl _
        · have := b i (by omega)
          omega
      · have := b i (by omega)
        omega
    · rw [if_neg (fun z => h (of_decide_eq_true z))]
      refine ⟨by omega, fun i hi => ?_, c⟩
      by_cases e : i = n + 1
      · rw [e]
        omega
      · exact b i (by omega)
theorem first_one {kf : Nat → Int} {n i j : Nat} (a : FirstLeast kf n i) (b : FirstLeast kf n j) : i = j := by
  rcases Nat.lt_trichotomy i j with h | h | h
  · have h1 := b.2.2 i h
    have h2 := a.2.1 j b.1
    omega
  · exact h
  · have h1 := a.2.2 j h
    have h2 := b.2.1 i a.1
    omega
/-- the item of ns whose key in ks is the least, the first such one -/
def LeastAt (ks ns : List Int) (m : Int) : Prop := ∃ j, FirstLeast (fun i => ks.getD (ns.getD i 0).toNat 0) ns.length j ∧ m = ns.getD j 0
theorem _root_.LamX.ExtN.rd {H H' : Hp} (e : ExtN H H') {a : Addr} {u : HO} (n : ∀ ps, u ≠ .tbl ps) (h : Rd H a u) : Rd H' a u := by
  rcases h with h | ⟨o, h⟩
  · exact .inl (e _ _ h n)
  · exact .inr ⟨o, e _ _ h fun ps z => nomatch z⟩
theorem _root_.LamX.ExtN.sqL {K : PySem.W.Frag} {H H' : Hp} (e : ExtN H H') {a : Addr} {xs : List V} (h : SqL K H a xs) : SqL K H' a xs := h.elim (fun h => .inl (e.rd (fun ps z => nomatch z) h)) .inr
theorem _root_.LamX.ExtN.sqT {K : PySem.W.Frag} {H H' : Hp} (e : ExtN H H') {a : Addr} {xs : List V} (h : SqT K H a xs) : SqT K H' a xs := h.elim (fun h => .inl (e.rd (fun ps z => nomatch z) h)) .inr
section
variable {X : Cx}
def tMinLam (K : PySem.W.Frag) (T : List (Addr × Str)) (j : Nat) (te : TE) : TE := fun σ H Q => te σ H fun v H1 => ∃ (a l : Addr) (ns ks : List Int), v = .ref a ∧ SqT K H1 a (ns.map V.int) ∧ σ[j]? = some (some (.ref l)) ∧ SqL K H1 l (ks.map V.int) ∧ 0 < ns.length ∧ (∀ n ∈ ns, 0 ≤ n ∧ n < ks.length) ∧
  Tabs T H1 ∧ ∀ (m : Int) (H2 : Hp), ExtN H1 H2 → Tabs T H2 → LeastAt ks ns m → Q (.int m) H2
/-- min(e, key=lambda x: y[x]), y a name of the def that it shares with the lambda -/
theorem pe_minlam {T : List (Addr × Str)} {c P : Addr} {p p1 p2 p3 lpos kpos pos : Pos} {e : Expr} {te : TE} {x y : Str} {j : Nat} {params : Arguments} {scope : Scope}
    (hg : Gl X "min") (hm : X.mg "min" = none) (he : PE X e te) (hd : X.A.depth < recursionLimit) (hh : X.A.handled = none) (TB : TabB X.base X.mg c P) (hcode : X.env.code = .ref c) (hmT : (P, X.env.qual ++ "<lambda>") ∈ T)
    (hu : ∀ q ∈ T, q.1 = P → q.2 = X.env.qual ++ "<lambda>") (S : LSc scope x y) (hfy : X.env.scope.names.lookup y = some .cell) (hfr : ∀ z ∈ scope.names, z.2 = .free → z.1 = y) (hN : X.N[j]? = some y) (hdef : defaultsOf params X.env = ([], []))
    (hbind : ∀ (q : Str) (cl : List (Str × Addr)) (pm cv ctv v : Value), bindArgs (PySem.W.kla_fn "<lambda>" q params (.Subscript (.Name y p1) (.Name x p2) p3) scope cl pm cv ctv) ⟨[v], []⟩ = pure [(x, v)])
    (hs : starEach [e] X.env = (false, eval e X.env) :: starEach [] X.env := by rfl)
    (hdx : (x == ("__debug__" : Str)) = false := by decide) (hdy : (y == ("__debug__" : Str)) = false := by decide) (hcy : (y == ("__classdict__" : Str)) = false := by decide) :
    PE X (.Call (.Name "min" p) [e] [⟨some "key", .Lambda params (.Subscript (.Name y p1) (.Name x p2) p3) scope lpos, kpos⟩] pos) (tMinLam X.K T j te) := by
  refine ⟨fun pins s σ H Q I h => ?_⟩
  have hfree : ∀ z ∈ scope.names, z.2 = .free → ∃ c, X.env.cells.lookup z.1 = some c := fun z hz e => I.ok.has _ (.inl (by rw [hfr z hz e]; exact hfy))
  refine wpAny_Call_Name_kw (ld_blt I hg hm (u := .builtin "min") (by decide +kernel) ?_)
  refine PyProof.Rows.callWith_kw ?_ (by rw [hs]; rfl) (by rw [hs]; rfl) (by rfl) (by rfl)
  rw [hs]
  show wpAny _ _ (spliced ((false, eval e X.env) :: backTo pos (starEach [] X.env))) _ _ s
  refine Calls.spliced_cons (thn (he.run pins s σ H _ I h) fun u s1 ⟨v, H1, I1, r1, a, l, ns, ks, ev, ht, hσ, hl, hne, hin, hT, q⟩ => Calls.spliced_nil ?_)
  subst ev
  obtain rfl : u = Value.ref a := r1
  show wpAny _ _ (evalAll ((do let v ← eval (.Lambda params (.Subscript (.Name y p1) (.Name x p2) p3) scope lpos) X.env; standAt pos; pure v) :: [])) _ _ s1
  refine wpAny_evalAll_cons (wpAny_bind (lam_make2 I1 TB hcode hmT hu hT hdef hfree fun f c' pm ctv H2 s2 I2 eN T2 hf hfn hff hco => wpAny_bind (wpAny_standAt (wpAny_pure (wpAny_evalAll_nil ?_)))))
  show wpAny _ _ (call (.builtin "min") [.ref a] [(Str.ofString "key", .ref f)]) _ _ s2
  obtain ⟨cs, rc, tc, _⟩ := I2.tuple (eN.sqT ht)
  obtain ⟨us, ru, pl, hz2⟩ := I2.list (eN.sqL hl)
  obtain ⟨m, _, look⟩ := I2.loc
  obtain ⟨u0, r0, lk⟩ := look j y _ hN hσ (.inr (.inl hfy))
  obtain rfl : u0 = Value.ref l := r0
  have cellAt : ∃ ck, X.env.cells.lookup y = some ck ∧ s2.heap.IsCell ck (some (.ref l)) := by
    rcases lk with ⟨k, _⟩ | ⟨_, ck, e1, e2⟩
    · rw [show X.env.kindOf y = some .cell from hfy] at k
      cases k
    · exact ⟨ck, e1, e2⟩
  obtain ⟨ck, eck, hcell⟩ := cellAt
  obtain ⟨⟨oc, vs, tk, o1, o2, o3⟩, _, _⟩ := I2.hok c' _ hco
  have lc : cs.length = ns.length := by rw [← rc.length, List.length_map]
  have lu : us.length = ks.length := by rw [← ru.length, List.length_map]
  have nsAt : ∀ i, i < ns.length → ∃ t, cs[i]? = some (.int (ns.getD i 0) t) := fun i hi => by
    obtain ⟨z, ez, rz⟩ := rc.get (i := i) (x := V.int (ns.getD i 0)) (by rw [List.getElem?_map, List.getD_eq_getElem?_getD, List.getElem?_eq_getElem hi]; rfl)
    obtain ⟨t, rfl⟩ := rz
    exact ⟨t, ez⟩
  refine min_lam (ns := fun i => ns.getD i 0) (kf := fun i => ks.getD (ns.getD i 0).toNat 0) hh S hd ⟨hf, ⟨oc, vs, tk, o1, o2, o3⟩, I2.nolimit, NdefX.clo_has hfree (PySem.mem_of_lookup S.fy) eck, hcell, pl.isList⟩ (fun v => hbind _ _ _ _ _ v) hdx hdy hcy tc (fun i hi => nsAt i (by omega)) (by omega)
    (fun i hi => ?_) fun v h' tk2 hv kp => ?_
  · have hi' : i < ns.length := by omega
    have hmem : ns.getD i 0 ∈ ns := by rw [List.getD_eq_getElem?_getD, List.getElem?_eq_getElem hi']; exact List.getElem_mem hi'
    obtain ⟨b0, b1⟩ := hin _ hmem
    have hs63 := line63
    rw [List.length_map] at hz2
    have hk' : (ns.getD i 0).toNat < ks.length := by omega
    obtain ⟨z, ez, rz⟩ := ru.get (i := (ns.getD i 0).toNat) (x := V.int (ks.getD (ns.getD i 0).toNat 0)) (by rw [List.getElem?_map, List.getD_eq_getElem?_getD (l := ks), List.getElem?_eq_getElem hk']; rfl)
    obtain ⟨t, rfl⟩ := rz
    exact ⟨b0, by omega, t, ez⟩
  · obtain ⟨n, en⟩ : ∃ n, ns.length = n + 1 := ⟨ns.length - 1, by omega⟩
    have fl := best_is (fun i => ks.getD (ns.getD i 0).toNat 0) n
    rw [← en] at fl
    rw [lc, show ns.length - 1 = n by omega] at hv
    obtain ⟨t, et⟩ := nsAt _ fl.1
    rw [et] at hv
    cases hv
    exact ⟨.int _, H2, I2.kept kp, ⟨t, rfl⟩, q _ H2 eN T2 ⟨_, fl, rfl⟩⟩
end
end Cl

set_option Elab.async false
set_option linter.all false
set_option maxRecDepth 100000
set_option maxHeartbeats 2000000
/-! own rule: list(o), o an instance with an __iter__ over its tuple and a __len__ -/
namespace Tw
open PySem PySem.Spec PyProof.Rows L2
def rListO (K : PySem.W.Frag) (C : Addr) (fld : Str) (sp : Sp) (E : XK) : List V → Hp → VK → Prop := fun xs H Q => ∃ (a dx : Addr) (fs : List (Str × V)) (t : Addr) (zs : List V), xs = [.ref a] ∧ H a = some (.ins C dx fs) ∧ fs.lookup fld = some (.ref t) ∧ SqT K H t zs ∧ zs.length ≤ 900 ∧
  sp [.ref a] H (fun v H' => ∃ n : Nat, v = .int n ∧ n < 1000 ∧ H' = H) E ∧ ∀ q, H q = none → Q (.ref q) (upd H q (.lst zs))
theorem ty_ne {a b : String} (h : Value.type a = Value.type b) (n : decide (a = b) = false) : False := by
  injection h with h
  exact of_decide_eq_false n h
theorem if_yes {α : Type} {M : Model} {A : Around} {E : Value → Shared → Prop} {s : Shared} {c : Bool} {a b : Sem α} {Q : α → Shared → Prop} (hc : c = true) (h : wpAny M A a Q E s) : wpAny M A (if c = true then a else b) Q E s := by
  rw [hc, if_pos rfl]
  exact h
section
variable {X : Cx} {k : Nat} {f : Addr} {fd : FuncData} {ps : List Str} {sp : Sp} {A1 : Around} {pins : List (Addr × Obj)} {σ : L2.St} {H : Hp} {s : Shared} {Q : VK}
/-- a def that raises nothing, called within a built-in -/
theorem run_sub0 {us : List Value} {vs : List V} {R : Value → Shared → Prop} (F : FnOk X.prog X.w X.K X.mg X.base CX0 k f fd ps sp) (sb : Sub X k A1) (hb : L2.Binds X.K fd ps []) (I : Inv X pins σ H s) (r : Vals vs us) (h : sp vs H Q E0) :
    wpAny (model X.prog X.w) A1 (call (.ref f) us) (EP X pins σ Q) R s := by
  have hl : us.length = ps.length := by rw [← r.length]; exact F.len _ _ _ _ h
  have hb1 : BindsTo s fd ⟨us, []⟩ (ps.zip us) := by
    have z := hb s us I.kIn (by rw [List.append_nil]; exact hl)
    rw [List.append_nil] at z
    exact z
  refine wpAny_call (codeAny_mono (F.run A1 X.stack s H ⟨us, []⟩ us vs Q E0 sb.room (Sub.env0 sb I) hb1 r h) fun z s' hq => ?_)
  match z, hq with
  | .error e, hq => exact False.elim hq
  | .ok (.ret u), hq => exact I.after hq
  | .ok .next, hq => exact False.elim hq
  | .ok .brk, hq => exact False.elim hq
  | .ok .cont, hq => exact False.elim hq
end
section
variable {X : Cx} {kI k : Nat} {fi fl C : Addr} {fdI fdL : FuncData} {psL : List Str} {spL : Sp} {fld : Str}
theorem call_listO (hdI : Dn X.K C "__iter__" fi) (FI : FnIt X.prog X.w X.K X.mg X.base k fi fdI ["self"] (spIter X.K C fld)) (bI : L2.Binds X.K fdI ["self"] [])
    (hdL : Dn X.K C "__len__" fl) (FL : FnOk X.prog X.w X.K X.mg X.base CX0 k fl fdL psL spL) (bL : L2.Binds X.K fdL psL []) (hr : Room (k + 3) X.A) : CallR X (.type "list") (rListO X.K C fld spL E0) := by
  intro pins s σ H xs us Q I rv h
  obtain ⟨a, dx, fs, t, zs, rfl, ha, hf, ht, hz, hlen, q⟩ := h
  obtain ⟨u, rfl, ru⟩ := rv.one
  cases ru
  have sb1 : Sub X (k + 1) X.A.in1.in1 := Sub.in1 (Sub.in1 (⟨hr, rfl⟩ : Sub X (k + 3) X.A))
  have sb : Sub X k X.A.in1.in1 := sb1.mono (Nat.le_succ k)
  refine callType_codes (Q₁ := fun obj s₁ => obj = .ref s.heap.objs.size ∧ s₁ = { s with heap := s.heap.push { cls := .type "list", data := .seq #[] } }) PySem.F.called_list (PySem.F.typeCall_list_1 _) PySem.F.entry_list_init
    (code_list_new _ ⟨rfl, rfl⟩) fun obj s₁ h₁ => ?_
  obtain ⟨rfl, rfl⟩ := h₁
  have hS : (s.heap.push { cls := .type "list", data := .seq #[] }).get? s.heap.objs.size = some { cls := .type "list", data := .seq #[] } := Heap.get?_push_size _ rfl
  refine ⟨⟨_, hS, rfl⟩, PySem.F.args_list_init_2 _ _, ?_⟩
  have nS : H s.heap.objs.size = none := I.hok.fresh (Nat.le_refl _)
  have fS : FpOk X pins H s.heap.objs.size := I.fpOk (Nat.le_refl _) nS
  have I1 : Inv X pins σ H { s with heap := s.heap.push { cls := .type "list", data := .seq #[] } } := I.kept (t' := s.toks) fun b u e => Heap.get?_push_of_some _ e
  show wpAny _ _ (do let old ← Builtin.List.listItems (.ref s.heap.objs.size); Builtin.List.listUpdate (.ref s.heap.objs.size) (fun _ => #[]); letGo old.toList.reverse; Builtin.List.listExtendWith (.ref s.heap.objs.size) (.ref a) .none) _ _ _
  refine wpAny_bind ?_
  unfold Builtin.List.listItems
  refine wpAny_bind (wpAny_seqItems hS rfl (wpAny_pure ?_))
  show wpAny _ _ (updateSeq s.heap.objs.size (fun _ => #[]) >>= fun _ => letGo (#[] : Array Value).toList.reverse >>= fun _ => Builtin.List.listExtendWith (.ref s.heap.objs.size) (.ref a) .none) _ _ _
  refine wpAny_bind (wpAny_updateSeq hS rfl ?_)
  have hS2 := Heap.get?_update_self (h := s.heap.push { cls := .type "list", data := .seq #[] }) (f := Obj.mapSeq fun _ => #[]) hS rfl
  have I2 := I1.turnedL (h' := (s.heap.push { cls := .type "list", data := .seq #[] }).update s.heap.objs.size (Obj.mapSeq fun _ => #[])) (t' := s.toks) (ch := [s.heap.objs.size]) (fun b o hb e => (Heap.get?_update_other _ _ (fun z => hb (by simp [z]))).trans e) (fun b hb => by rw [List.mem_singleton.mp hb]; exact fS)
  refine wpAny_bind (wpAny_letGo ?_)
  generalize hSa : s.heap.objs.size = S at *
  generalize hh2 : (s.heap.push { cls := .type "list", data := .seq #[] }).update S (Obj.mapSeq fun _ => #[]) = h2 at *
  have szS : S < h2.objs.size := Heap.lt_size hS2
  obtain ⟨mA, O, rr, _, _, _⟩ := ins_get I2.hok ha
  obtain ⟨od, J, hl⟩ := O.look
  obtain ⟨m0, hF⟩ := I2.fr
  have hne : S ≠ a := fun z => by rw [← z] at ha; rw [nS] at ha; cases ha
  have h1 : Builtin.List.listSameRef (.ref S) (.ref a) = false := by simp [Builtin.List.listSameRef, hne]
  unfold Builtin.List.listExtendWith
  refine wpAny_bind (J.type.here ?_)
  have n2 : (Value.ref C == Value.type "list") = false := rfl
  have n3 : (Value.ref C == Value.type "tuple") = false := rfl
  simp only [h1, n2, n3, Bool.or_false, Bool.false_eq_true, if_false]
  have I2p := I2.pinned (fp := [S]) (fun b hb => by rw [List.mem_singleton.mp hb]; exact fS) (fun b hb => by rw [List.mem_singleton.mp hb]; exact ⟨_, hS2, fun v z => nomatch z⟩)
  refine wpAny_bind (PySem.W.owit_iter hF I2.ok.mod.kin J hdI.at_ hdI.fn (thn (run_iter FI sb bI I2p ha hf ht) fun r s3 ⟨it, er, hn, h0, I3⟩ => ?_))
  subst er
  have e2 : upd H it (ItT t it 0) it = some (ItT t it 0) := upd_same
  have g : s3.heap.get? it = some (itTup t 0) := (I3.hok it _ e2).1
  have hS3 := (I3.pin (S, _) (List.mem_append_right _ (List.mem_append_right _ (mem_pinsAt (List.mem_singleton.mpr rfl) hS2)))).1
  have hTy : s3.TypeIs (.ref it) "tuple_iterator" := ⟨_, g, rfl⟩
  have fIt := ItX.inv_fp I3 e2 (Nat.le_trans I2.sz hn)
  have I4 := ItX.inv_drop I3 e2
  rw [ItX.dropH_upd h0] at I4 fIt
  unfold PySem.W.OwitIt
  refine wpAny_specialOf (name := Str.ofString "__next__") hTy PySem.F.slot_tuple_iterator_next.lookup ?_
  have I5 := I4.pinned (fp := [it]) (fun b hb => by rw [List.mem_singleton.mp hb]; exact fIt) (fun b hb => by rw [List.mem_singleton.mp hb]; exact ⟨_, g, fun v z => nomatch z⟩)
  show wpAny _ X.A.in1.in1 (holding [.ref it] (Builtin.List.listLengthHint (.ref a)) >>= _) _ _ s3
  obtain ⟨mA5, O5, rr5, _, _, _⟩ := ins_get I5.hok ha
  obtain ⟨od5, J5, hl5⟩ := O5.look
  obtain ⟨m5, hF5⟩ := I5.fr
  refine wpAny_bind (wpAny_holding ?_)
  have lenOk : ∀ {R : Value → Shared → Prop}, wpAny (model X.prog X.w) X.A.in1.in1 (call (.builtin "len") [.ref a]) (fun r s' => ∃ (n : Nat) (tk : Tok), r = .int n tk ∧ n < 1000 ∧ Inv X (pins ++ pinsAt [S] h2 ++ pinsAt [it] s3.heap) σ H s') R s3 := by
    intro R
    refine PySem.W.len_K hF5 I5.ok.mod.kin J5 hdL.at_ hdL.fn (thn (run_sub0 FL (Sub.in1 (Sub.mono sb1 (Nat.le_refl _))) bL I5 (.cons (relR a) .nil) hlen) fun r s' ⟨z, H', I', rz, n, ez, hn, eH⟩ => ?_)
    subst ez
    rw [eH] at I'
    obtain ⟨tk, rfl⟩ := rz
    exact ⟨⟨by omega, by omega⟩, n, _, rfl, hn, I'.tok _⟩
  unfold Builtin.List.listLengthHint
  refine wpAny_bind (wpAny_bind (J5.type.here ((PySem.W.looks_findIn I5.kIn hdL.at_).here ?_)))
  refine PySem.W.KFB.if_not rfl ?_
  refine if_yes rfl ?_
  refine wpAny_bind (wpAny_rule ?_)
  refine wpAny_bind (wpAny_attempt (thn lenOk fun r s6 ⟨n, tk, er, hn6, I6⟩ => ?_))
  subst er
  refine wpAny_bind (wpAny_of_eq (a := some ((n : Nat) : Int)) (by rfl) ?_)
  refine PySem.W.KFB.if_not (by unfold Builtin.List.listTooLong; exact decide_eq_false (by rw [sizeLine_eq, Int.toNat_natCast]; omega)) ?_
  refine wpAny_pure ?_
  -- the loop
  have I7 : Inv X pins σ H s6 := I6.unpinned.unpinned
  have hS6 := (I6.pin (S, _) (List.mem_append_right _ (List.mem_append_left _ (List.mem_append_right _ (mem_pinsAt (List.mem_singleton.mpr rfl) hS2))))).1
  have g6 := (I6.pin (it, _) (List.mem_append_right _ (List.mem_append_right _ (mem_pinsAt (List.mem_singleton.mpr rfl) g)))).1
  have fIt2 : FpOk X pins H it := ⟨fIt.1, fIt.2.1, fIt.2.2.1, fIt.2.2.2.1, fIt.2.2.2.2.1, fun p hp => fIt.2.2.2.2.2 p ((List.mem_append.mp hp).elim (fun z => List.mem_append_left _ z) fun z => List.mem_append_right _ (List.mem_append_left _ z))⟩
  have Sne' : S ≠ it := fun z => by
    rw [z, g6] at hS6
    exact ty_ne (show Value.type "tuple_iterator" = Value.type "list" from congrArg Obj.cls (Option.some.inj hS6)) (by decide +kernel)
  have loop : ∀ (s7 : Shared) (c : Nat), Inv X pins σ H s7 → s7.heap.get? S = some { cls := .type "list", data := .seq #[] c } → s7.heap.get? it = some (itTup t 0) →
      codeAny (model X.prog X.w) X.A.in1 (.builtin "list.extend.loop" ⟨[.ref S, .ref it, .none], []⟩) (wants (fun r s₂ => r = .none ∧ EP X pins σ Q (.ref S) s₂) X.xe) s7 := by
    intro s7 c J7 hS7 g7
    obtain ⟨its, rz, pl, hz2⟩ := J7.tuple ht
    have tne : t ≠ it := fun z => by
      obtain ⟨o, e1, e2, _⟩ := pl
      rw [z, g7] at e1
      rw [← Option.some.inj e1] at e2
      exact ty_ne (show Value.type "tuple_iterator" = Value.type "tuple" from e2) (by decide +kernel)
    have Sne : S ≠ it := fun z => by
      rw [z, g7] at hS7
      exact ty_ne (show Value.type "tuple_iterator" = Value.type "list" from congrArg Obj.cls (Option.some.inj hS7)) (by decide +kernel)
    have St : S ≠ t := fun z => by
      obtain ⟨o, e1, e2, _⟩ := pl
      rw [← z, hS7] at e1
      rw [← Option.some.inj e1] at e2
      exact ty_ne (show Value.type "list" = Value.type "tuple" from e2) (by decide +kernel)
    have li : its.length = zs.length := rz.length.symm
    have W := (PySem.Walks.tuple (prog := X.prog) (w := X.w) (A := X.A.in1.in1) sb1.room.hd it t tne its.toArray).toS
    refine PySem.codeAny_extend_loopS (A := X.A.in1) W (by rw [List.size_toArray, sizeLine_eq]; omega) S (fun z => ?_) .none _ 0 s7 #[] c rfl (Nat.zero_le _) ⟨⟨_, g7, rfl, rfl⟩, pl⟩ hS7 (PySem.ItemsOf.nil _) fun s8 acc c8 m hS8 hit => ?_
    · rcases List.mem_cons.mp z with z | z
      · exact Sne z
      · exact St (List.mem_singleton.mp z)
    have eacc : acc = its.toArray := by
      refine Array.ext_getElem? fun j => ?_
      by_cases hj : j < acc.size
      · rw [Array.getElem?_eq_getElem hj]
        exact (hit.2 j _ (Array.getElem?_eq_getElem hj)).symm
      · rw [Array.getElem?_eq_none (by omega), Array.getElem?_eq_none (by rw [← hit.1]; omega)]
    subst eacc
    have J8 := J7.turnedL (h' := s8.heap) (t' := s8.toks) (ch := [S, it]) (fun b o hb e => m.heap b o hb e) (fun b hb => by
      rcases List.mem_cons.mp hb with z | z
      · rw [z]; exact fS
      · rw [List.mem_singleton.mp z]; exact fIt2)
    have J9 := J8.take (h' := s8.heap) (t' := s8.toks) (it := S) (o := .lst zs) (fun _ _ _ e => e) fS ⟨by rw [sizeLine_eq]; omega, its, c8, rz, hS8⟩
    have e8 : s8 = { s7 with heap := s8.heap, toks := s8.toks } := Moved.eq_with m
    rw [e8]
    exact ⟨rfl, .ref S, _, J9, rfl, q S nS⟩
  refine wpAny_ite_split (fun _ => ?_) (fun _ => wpAny_pure ⟨plainId_quiet PySem.F.plain_extend_loop _, loop s6 _ I7 hS6 g6⟩)
  refine wpAny_bind (wpAny_rule ?_)
  refine wpAny_bind ?_
  show wpAny _ _ (updateSeq S (·.push .none) >>= fun _ => updateSeq S (·.pop)) _ _ _
  refine wpAny_bind (wpAny_updateSeq hS6 rfl ?_)
  have e9 := Heap.get?_update_self (h := s6.heap) (f := Obj.mapSeq (·.push Value.none)) hS6 rfl
  refine wpAny_updateSeq e9 rfl ?_ (by show 1 ≤ sizeLine; rw [sizeLine_eq]; decide) (by show 0 ≤ sizeLine + 1; exact Nat.zero_le _)
  have e10 := Heap.get?_update_self (h := s6.heap.update S (Obj.mapSeq (·.push Value.none))) (f := Obj.mapSeq (·.pop)) e9 rfl
  have J := I7.turnedL (h' := (s6.heap.update S (Obj.mapSeq (·.push Value.none))).update S (Obj.mapSeq (·.pop))) (t' := s6.toks) (ch := [S]) (fun b o hb e => (Heap.get?_update_other _ _ (fun z => hb (by simp [z]))).trans ((Heap.get?_update_other _ _ (fun z => hb (by simp [z]))).trans e)) (fun b hb => by rw [List.mem_singleton.mp hb]; exact fS)
  refine wpAny_pure ⟨plainId_quiet PySem.F.plain_extend_loop _, loop _ _ J e10 ?_⟩
  exact (Heap.get?_update_other _ _ Sne').trans ((Heap.get?_update_other _ _ Sne').trans g6)
end
end Tw

set_option Elab.async false
set_option linter.all false
set_option maxRecDepth 100000
set_option maxHeartbeats 2000000
/-! own rule: sorted(t), t a tuple of whole numbers -/
namespace Tw
open PySem PySem.Spec PyProof.Rows L2
section
variable {prog : Program} {w : World} {A : Around} {E : Value → Shared → Prop} {s : Shared}
/-- a tuple's items, gathered: they are met as a list's are -/
theorem gather_tup {t : Addr} {vs : List Value} {Q : List Value → Shared → Prop} (ht : s.heap.IsTuple t vs.toArray)
    (h : Q vs { s with heap := (s.heap.push (seqObj "list" #[] 0)).update s.heap.objs.size (Obj.mapSeq (· ++ vs.toArray)) }) (hz : vs.length ≤ sizeLine) :
    wpAny (model prog w) A (collect (.ref t)) Q E s := by
  obtain ⟨o, ho, hc, n, hd⟩ := ht
  unfold collect
  refine wpAny_bind (wpAny_runValue (codeAny_builtin entry_proto_collect' ?_))
  show wpAny _ _ (do again (.builtin "list.__iadd__" ⟨[← newList [], .ref t], []⟩)) _ _ s
  refine wpAny_bind (wpAny_newList (wpAny_pure ⟨Code.quiet_builtin _ (by decide +kernel), codeAny_builtin entry_list_iadd' ?_⟩))
  show wpAny _ _ (Builtin.List.listExtendWith (.ref s.heap.objs.size) (.ref t) (.ref s.heap.objs.size)) _ _ { s with heap := s.heap.push (seqObj "list" #[] 0) }
  have ho2 : (s.heap.push (seqObj "list" #[] 0)).get? t = some o := Heap.get?_push_of_some _ ho
  unfold Builtin.List.listExtendWith
  refine wpAny_bind (wpAny_typeOf (T := "tuple") ⟨o, ho2, hc⟩ ?_)
  have tt : (Value.type "tuple" == Value.type "tuple") = true := by rfl
  rw [if_pos (by rw [tt]; simp)]
  refine wpAny_bind (listItems_at ho2 hd ?_)
  refine wpAny_bind (listItems_at (xs := #[]) (n := 0) (Heap.get?_push_size _ rfl) rfl ?_)
  rw [if_neg (by simp)]
  refine wpAny_bind (listUpdate_at (xs := #[]) (n := 0) (Heap.get?_push_size _ rfl) rfl ?_ (Nat.zero_le _) (by show (#[] ++ vs.toArray).size ≤ sizeLine + 1; simp only [Array.size_append, List.size_toArray, List.length_nil]; omega))
  refine wpAny_pure ?_
  refine wpAny_bind (wpAny_load (get?_update_seq (Heap.get?_push_size _ rfl) _) ?_)
  show wpAny _ _ (pure ((#[] : Array Value) ++ vs.toArray).toList) Q E _
  rw [show ((#[] : Array Value) ++ vs.toArray).toList = vs by simp]
  exact wpAny_pure h
end
def rSortedTu (K : PySem.W.Frag) : List V → Hp → VK → Prop := fun vs H Q => ∃ (a : Addr) (ns : List Int), vs = [V.ref a] ∧ SqT K H a (ns.map V.int) ∧
  ∀ (ns' : List Int) (p : Addr), ns'.Perm ns → ns'.Pairwise (· ≤ ·) → H p = none → Q (.ref p) (upd H p (.lst (ns'.map V.int)))
section
variable {X : Cx}
theorem cr_sortedTu : CallR X (.builtin "sorted") (rSortedTu X.K) := by
  intro pins s σ H vs us Q I r h
  obtain ⟨a, ns, rfl, hs, q⟩ := h
  obtain ⟨its, rv, hl, hz⟩ := I.tuple hs
  rw [Vals.ref1 r]
  have hi := rv.ints
  have hzi : its.length ≤ sizeLine := by rw [← rv.length]; exact hz
  refine Calls.call_function_entry kind_sorted plain_sorted entry_sorted (args_sorted1 _) ?_
  unfold Builtin.«sorted»
  refine wpAny_bind (m := checkCount "sorted" 1 1 _) (wpAny_pure ?_)
  refine wpAny_bind (gather_tup hl ?_ hzi)
  refine wpAny_bind (wpAny_newList ?_ hzi)
  have hsz : ((s.heap.push (seqObj "list" #[] 0)).update s.heap.objs.size (Obj.mapSeq (· ++ its.toArray))).objs.size = s.heap.objs.size + 1 := by
    rw [Heap.size_update, size_push']
  have hoL : (((s.heap.push (seqObj "list" #[] 0)).update s.heap.objs.size (Obj.mapSeq (· ++ its.toArray))).push (seqObj "list" its.toArray 0)).get? (s.heap.objs.size + 1) = some (seqObj "list" its.toArray 0) := by
    rw [← hsz]
    exact Heap.get?_push_size _ rfl
  show wpAny _ _ _ _ _ { s with heap := ((s.heap.push (seqObj "list" #[] 0)).update s.heap.objs.size (Obj.mapSeq (· ++ its.toArray))).push (seqObj "list" its.toArray 0) }
  rw [hsz]
  refine wpAny_bind (wpAny_holding (wpAny_call_entry slot_list_sort ⟨_, hoL, rfl⟩ entry_list_sort (SrtO.list_sort_ord SrtO.swo_int hoL hzi (fun h2 => SrtO.ints_sortable hi h2) fun out h1 h2 => ⟨_, rfl, ?_⟩) (args_list_sort _)))
  refine wpAny_pure ⟨_, rfl, ?_⟩
  obtain ⟨k1, k2, k3⟩ := SrtO.ints_out hi h1 h2
  obtain ⟨ep, he'⟩ := PyProof.Rows.sortedAll_at s.heap its out.toArray
  have hlen : ((out.map SrtO.iv).map V.int).length ≤ sizeLine := by
    rw [List.length_map, k2.length_eq]
    rw [List.length_map] at hz
    exact hz
  exact ⟨.ref _, upd H (s.heap.objs.size + 1) (.lst ((out.map SrtO.iv).map V.int)), I.laid (t' := s.toks) (fun _ _ => PyProof.Rows.sortedAll_old) (Nat.le_succ _) ⟨hlen, out, ep, vals_of_ints k1, he'⟩, rfl, q _ _ k2 k3 (I.hok.fresh (Nat.le_succ _))⟩
end
end Tw

set_option Elab.async false
set_option linter.all false
set_option maxRecDepth 100000
set_option maxHeartbeats 1000000
/-! != of two tuples of two things, equal ones in turn -/
namespace Cq
open PySem PySem.SeqAt
open AutoSeq1 (wpAny_loadPart')
open MeetsSeq MeetsSeq2 MeetsSeq3 SeqRoads2
theorem pairs_ne {prog : Program} {w : World} {A : Around} {R : Result → Shared → Prop} {p q : Addr} {a b c e : Value} {k k2 : Nat} {u u2 : Option Addr} {z z2 : Array (Option Value)} {s : Shared}
    (hp : s.heap.get? p = some { cls := .type "tuple", dict := u, data := .seq #[a, b] k, slots := z }) (hq : s.heap.get? q = some { cls := .type "tuple", dict := u2, data := .seq #[c, e] k2, slots := z2 })
    (h : wpAny (model prog w) A.in1 (eqBool a c) (fun r s1 => r = true ∧ wpAny (model prog w) A.in1 (eqBool b e) (fun r s2 => r = true ∧ R (.ok (.ret (.bool false))) s2) (fun x s2 => R (.error x) s2) s1) (fun x s1 => R (.error x) s1) s) :
    wpAny (model prog w) A.in1 (Builtin.«tuple.__ne__» ⟨[.ref p, .ref q], []⟩) (GQ.FinOf prog w A R) (fun x s1 => R (.error x) s1) s := by
  have sub2 := AutoSeq1.sub_tuple_tuple
  obtain ⟨hh, gg, dd, tk, os⟩ := s
  wp_walk using wpAny_loadPart' hp, wpAny_loadPart' hq, wpAny_forIn_list _ (fun rest t s1 => t.1 = none ∧ ((rest = [(a, c), (b, e)] ∧ wpAny (model prog w) A.in1 (eqBool a c) (fun r s1 => r = true ∧ wpAny (model prog w) A.in1 (eqBool b e) (fun r s2 => r = true ∧ R (.ok (.ret (.bool false))) s2) (fun x s2 => R (.error x) s2) s1) (fun x s1 => R (.error x) s1) s1) ∨
    (rest = [(b, e)] ∧ wpAny (model prog w) A.in1 (eqBool b e) (fun r s2 => r = true ∧ R (.ok (.ret (.bool false))) s2) (fun x s2 => R (.error x) s2) s1) ∨ (rest = [] ∧ R (.ok (.ret (.bool false))) s1))) _
  case turn =>
    rintro ⟨y, x⟩ rest t s1 ⟨ht, ⟨e1, h1⟩ | ⟨e1, h1⟩ | ⟨e1, _⟩⟩
    · injection e1 with e1 e2
      injection e1 with e3 e4
      subst e3 e4 e2
      refine wpAny_bind (wpAny_mono h1 (fun r s2 g => ?_) fun _ _ g => g)
      obtain ⟨rfl, g⟩ := g
      wp_walk
      exact ⟨rfl, .inr (.inl ⟨rfl, g⟩)⟩
    · injection e1 with e1 e2
      injection e1 with e3 e4
      subst e3 e4 e2
      refine wpAny_bind (wpAny_mono h1 (fun r s2 g => ?_) fun _ _ g => g)
      obtain ⟨rfl, g⟩ := g
      wp_walk
      exact ⟨rfl, .inr (.inr ⟨rfl, g⟩)⟩
    · cases e1
  case fin =>
    rintro ⟨t1, t2⟩ s1 ⟨ht, ⟨e1, _⟩ | ⟨e1, _⟩ | ⟨_, h1⟩⟩
    · cases e1
    · cases e1
    · simp only at ht
      subst ht
      wp_walk
      simpa [Builtin.Tuple.tupleCompareSizes] using h1
  case h => exact ⟨rfl, .inl ⟨rfl, h⟩⟩
end Cq
namespace L2
open PySem PySem.Spec PyProof.Rows
theorem vals_two {a b : V} {l : List Value} (r : Vals [a, b] l) : ∃ x y, l = [x, y] ∧ RelV a x ∧ RelV b y := by
  cases r with
  | cons ra r =>
    cases r with
    | cons rb r =>
      cases r
      exact ⟨_, _, rfl, ra, rb⟩
def DPair (K : PySem.W.Frag) (D1 D2 : Eqv) : Eqv := fun x y H => ∃ (p q : Addr) (a b c e : V), x = .ref p ∧ y = .ref q ∧ SqT K H p [a, b] ∧ SqT K H q [c, e] ∧ D1 a c H ∧ D2 b e H
def rNeP (D : Eqv) : R2 := fun x y H Q => D x y H ∧ ∀ H', Ext H H' → Q (.bl false) H'
theorem op_neP {X : Cx} {n : Nat} {D1 D2 : Eqv} (g1 : EqG X n D1) (g2 : EqG X n D2) (m2 : Mon D2) (hr : Room (n + 1) X.A) : OpR X (compareOp .NotEq) (rNeP (DPair X.K D1 D2)) := by
  intro pins s σ H x y v u Q I rx ry ⟨⟨p, q, a, b, c, e, ex, ey, hp, hq, d1, d2⟩, k⟩
  subst ex ey
  cases rx
  cases ry
  have sb : Sub X (n + 1) X.A := ⟨hr, rfl⟩
  obtain ⟨its, r, e1, _⟩ := I.tuple hp
  obtain ⟨its2, r2, e2, _⟩ := I.tuple hq
  obtain ⟨va, vb, ei, ra, rb⟩ := vals_two r
  obtain ⟨vc, ve, ei2, rc, re⟩ := vals_two r2
  subst ei ei2
  obtain ⟨⟨cl, u1, da, z1⟩, o1, c1, n1, w1⟩ := id e1
  obtain ⟨⟨cl2, u2, da2, z2⟩, o2, c2, n2, w2⟩ := id e2
  dsimp only at c1 w1 c2 w2
  subst c1 w1 c2 w2
  show wpAny (model X.prog X.w) X.A (richCompare .NotEq (.ref p) (.ref q)) (EP X pins σ Q) X.xe s
  refine wpAny_richCompare_same_room (op := .NotEq) ⟨_, o1, rfl⟩ ⟨_, o2, rfl⟩ F.slot_tuple_ne (GQ.call_here F.slot_tuple_ne ⟨_, o1, rfl⟩ F.entry_tuple_ne (F.args_tuple_ne_2 _ _) ?_) hr.units0
  refine Cq.pairs_ne (R := wants (fun v s' => v ≠ .notImplemented ∧ EP X pins σ Q v s') X.xe) o1 o2 ?_
  refine wpAny_mono (g1 X.A.in1 pins s σ H _ _ va vc sb.in1 I ra rc d1) (fun t s1 ⟨ht, H1, I1, x1⟩ => ⟨ht, ?_⟩) fun _ _ g => g
  refine wpAny_mono (g2 X.A.in1 pins s1 σ H1 _ _ vb ve sb.in1 I1 rb re (m2 _ _ _ _ x1 d2)) (fun t s2 ⟨ht, H2, I2, x2⟩ => ⟨ht, ?_⟩) fun _ _ g => g
  exact ⟨(fun g => nomatch g), .bl false, H2, I2, rfl, k H2 (x1.trans x2)⟩
end L2


set_option Elab.async false
set_option linter.all false
set_option maxRecDepth 100000
set_option maxHeartbeats 4000000
/-! set(xs), xs a list of ints, as a value -/
namespace L2
open PySem PySem.Spec PyProof.Rows
section
variable {P : Program} {w : World} {A : Around} {E : Value → Shared → Prop}
/-- the set that is there at first -/
abbrev eS (w : World) : Obj := { cls := .type "set", dict := none, data := .set #[] 0 (.fresh 0 0 (!w.params.followText "set-order")) }
theorem init_over {z : Shared} {D l : Addr} {items : Array Value} {ns : List Int} {R : Result → Shared → Prop} (hh : A.handled = none) (hD : z.heap.get? D = some (eS w)) (hl : z.heap.IsList l items) (hit : IntsAre items.toList ns) (hb : ns.length + 1 < scanBound) (hne : l ≠ D)
    (q : ∀ (h' : Heap) (tk c : Nat), SetR w h' D (fun j => decide (j ∈ ns)) c → c ≤ ns.length → (∀ b o, b ≠ D → z.heap.get? b = some o → h'.get? b = some o) → R (.ok (.ret .none)) { z with heap := h', toks := tk }) :
    codeAny (model P w) A (.call (.builtin "set.__init__") ⟨[.ref D, .ref l], []⟩) R z := by
  have hn : items.size = ns.length := by
    have e := IntsAre.length hit
    rw [Array.length_toList] at e
    exact e
  have hT : Shared.TypeIs z (.ref D) "set" := ⟨_, hD, rfl⟩
  have lD : D < z.heap.objs.size := Heap.lt_size hD
  obtain ⟨⟨oc, od, oa, os⟩, hol, hcl, nl, hdl⟩ := id hl
  have ll : l < z.heap.objs.size := Heap.lt_size hol
  dsimp only at hcl hdl
  subst hcl hdl
  have no1 := F.sub_list_set
  have no2 := F.sub_list_frozenset
  have no3 : (Value.type "list" == Value.type "dict") = false := by decide
  refine codeAny_call_builtin F.called_set.init.plain F.entry_set_init (check_set_init_1 hT ?_)
  unfold Builtin.«set.__init__» noKeywords Builtin.Frozenset.updateFrom
  generalize hPI : pyIter = PI
  wp_walk
  subst hPI
  refine wpAny_pyIter_list hl ?_
  refine wpAny_bind (wpAny_runValue ?_)
  have free3 : A.in1.in1.handled = none := by simp [hh]
  have apart : l ≠ z.heap.objs.size := Nat.ne_of_lt ll
  have offS : D ∉ [z.heap.objs.size, l] := fun m => by
    rcases List.mem_cons.mp m with y | y
    · exact absurd y (Nat.ne_of_lt lD)
    · exact hne (List.mem_singleton.mp y).symm
  have each : ∀ (i : Nat) (v : Value), items[i]? = some v → ∃ k t, ns[i]? = some k ∧ v = .int k t := fun i v e => by
    have hi : i < ns.length := hn ▸ (Array.getElem?_eq_some_iff.mp e).1
    obtain ⟨t, e2⟩ := IntsAre.int_at hit i v (by rw [Array.getElem?_toList]; exact e)
    exact ⟨ns[i], t, List.getElem?_eq_getElem hi, by rw [e2, List.getD_eq_getElem?_getD, List.getElem?_eq_getElem hi]; rfl⟩
  refine set_update_ints ((Walks.list free3 _ l apart items).toS) D offS ns hn hb each (items.size - 0) 0 _ (by omega) (Nat.zero_le _) ?_ ⟨0, Nat.le_refl 0, ?_⟩ ?_
  · exact ⟨⟨_, Heap.get?_push_size _ rfl, rfl, rfl⟩, hl.push _⟩
  · exact setR_new_at (Heap.get?_push_of_some _ hD)
  rintro ⟨h', gens', drawn', tk', os'⟩ c moved hc new
  obtain rfl : gens' = z.gens := moved.gens
  obtain rfl : drawn' = z.drawn := moved.drawn
  obtain rfl : os' = z.os := moved.os
  show wpAny _ _ _ _ _ _
  refine wpAny_pure ?_
  show wpAny _ _ (ret Value.none) _ _ _
  refine wpAny_pure (q h' tk' c new (by omega) fun b o hbD e => ?_)
  have lb : b < z.heap.objs.size := Heap.lt_size e
  refine moved.heap b o (fun m => ?_) (Heap.get?_push_of_some _ e)
  rcases List.mem_cons.mp m with y | y
  · exact hbD y
  · exact absurd (List.mem_singleton.mp y) (Nat.ne_of_lt lb)
theorem set_over {z : Shared} {l : Addr} {items : Array Value} {ns : List Int} {Q : Value → Shared → Prop} (hh : A.handled = none) (hl : z.heap.IsList l items) (hit : IntsAre items.toList ns) (hb : ns.length + 1 < scanBound)
    (q : ∀ (h' : Heap) (tk c : Nat), SetR w h' z.heap.objs.size (fun j => decide (j ∈ ns)) c → c ≤ ns.length → (∀ b o, z.heap.get? b = some o → h'.get? b = some o) → Q (.ref z.heap.objs.size) { z with heap := h', toks := tk }) :
    wpAny (model P w) A (call (.type "set") [.ref l]) Q E z := by
  obtain ⟨c0, t0, mro0⟩ := F.called_set.mro
  have m1 := F.called_set.made
  have m2 := F.called_set.sub
  have m3 := F.called_set.notType
  have m4 := F.called_set.canCreate
  have m5 := F.typeCall_set_1 (.ref l)
  have ll : l < z.heap.objs.size := by
    obtain ⟨o, ho, _⟩ := id hl
    exact Heap.lt_size ho
  refine wpAny_call (codeAny_of_tree ?_)
  show wpAny _ _ (callAny (.type "set") _) _ _ _
  refine wpAny_pure ⟨Code.quiet_builtin _ (by decide +kernel), codeAny_builtin F.entry_type_call ?_⟩
  rw [Around.under_plain (weight_type_call_type "set" [.ref l] []) rfl]
  repeat any_goals first | assumption | wp_step
  have new1 : (z.heap.push (eS w)).get? z.heap.objs.size = some (eS w) := Heap.get?_push_size _ rfl
  refine codeAny_mono (code_set_led1 (.ref l) (E := E) (Q₁ := fun v y => v = .ref z.heap.objs.size ∧ y = { z with heap := z.heap.push (eS w) }) ⟨rfl, rfl⟩) fun r y hr => ?_
  cases r with
  | error e => exact hr
  | ok fl =>
    cases fl with
    | ret v =>
      obtain ⟨rfl, rfl⟩ := hr
      have hT : Shared.TypeIs { z with heap := z.heap.push (eS w) } (.ref z.heap.objs.size) "set" := ⟨_, new1, rfl⟩
      have i1 := F.called_set.init.lookup
      have i2 := F.called_set.init.bind (.ref z.heap.objs.size)
      repeat any_goals first | assumption | wp_step
      refine init_over (A := A.in1) (z := { z with heap := z.heap.push (eS w) }) (D := z.heap.objs.size) (by simp [hh]) new1 (hl.push _) hit hb (Nat.ne_of_lt ll) fun h' tk c S hc k => ?_
      show wpAny _ _ (pure (some Value.none)) _ _ _
      repeat any_goals first | assumption | wp_step
      exact q h' tk c S hc fun b o e => k b o (Nat.ne_of_lt (Heap.lt_size e)) (Heap.get?_push_of_some _ e)
    | _ => exact hr.elim
end
section
variable {X : Cx}
/-- set(xs) -/
def rSetLI (K : PySem.W.Frag) (w : World) : List V → Hp → VK → Prop := fun xs H Q => ∃ (l : Addr) (ns : List Int), xs = [V.ref l] ∧ SqL K H l (ns.map V.int) ∧ ns.length ≤ 1000 ∧ ∀ p n, n ≤ ns.length → H p = none → Q (.ref p) (upd H p (SetO w p (fun j => decide (j ∈ ns)) n))
theorem cr_setLI (hc : X.calm = true) : CallR X (.type "set") (rSetLI X.K X.w) := by
  intro pins s σ H xs us Q I r h
  obtain ⟨l, ns, rfl, hl, h1, q⟩ := h
  obtain ⟨its, rv, pl, _⟩ := I.list hl
  rw [Vals.ref1 r]
  refine set_over (I.ok.hd hc) pl.isList (ns := ns) (by simpa using rv.ints) (by unfold scanBound; omega) fun h' tk c R hc k => ?_
  exact ⟨.ref _, upd H s.heap.objs.size (SetO X.w s.heap.objs.size (fun j => decide (j ∈ ns)) c), I.laid (t' := tk) k (Nat.le_refl _) (setO_new R), rfl, q _ c hc (I.hok.fresh (Nat.le_refl _))⟩
end
end L2

set_option Elab.async false
set_option linter.all false
set_option maxRecDepth 100000
set_option maxHeartbeats 4000000
/-! sorted(xs), xs a list of tuples of ints, as long as a list may be -/
namespace L2
open PySem PySem.Spec PyProof.Rows PySem.W
abbrev tupE (ns : List Int) : PyData := .tuple (ns.map .int)
theorem tupE_le : dataLe false tupE = fun p q => decide (p ≤ q) := by
  funext p q
  show (!dataLt (.tuple (q.map .int)) (.tuple (p.map .int))) = _
  rw [dataLt_tuple]
  show (!rowLt (q.map .int) (p.map .int)) = _
  rw [dataLt_ints]
  by_cases h : q < p
  · have h' : ¬ p ≤ q := fun r => List.not_lt.mpr r h
    simp [h, h']
  · have h' : p ≤ q := List.not_lt.mp h
    simp [h, h']
section
variable {X : Cx} {pins : List (Addr × Obj)} {σ : St} {H : Hp} {s : Shared}
abbrev TupV (K : PySem.W.Frag) (H : Hp) (u : Value) (ns : List Int) : Prop := ∃ t, u = .ref t ∧ SqT K H t (ns.map V.int)
theorem tupV_of : ∀ {xs : List V} {bs : List (List Int)} {us : List Value}, Paired (TupI X.K H) xs bs → Vals xs us → EachIs (TupV X.K H) us bs
  | _, _, _, .nil, .nil => .nil
  | _, _, _, .cons ⟨t, e, h⟩ p, .cons r v => by
    subst e
    cases r
    exact .cons ⟨t, rfl, h⟩ (tupV_of p v)
theorem tupV_to : ∀ {bs : List (List Int)} {us : List Value}, EachIs (TupV X.K H) us bs → Paired (TupI X.K H) (us.map bkV) bs ∧ ∀ u ∈ us, ∃ a, u = Value.ref a
  | _, _, .nil => ⟨.nil, fun u hu => absurd hu (by simp)⟩
  | _, _, .cons ⟨t, e, h⟩ p => by
    subst e
    obtain ⟨h1, h2⟩ := tupV_to p
    refine ⟨.cons ⟨t, rfl, h⟩ h1, fun u hu => ?_⟩
    rcases List.mem_cons.mp hu with e | hu
    · exact ⟨t, e⟩
    · exact h2 u hu
theorem tupV_reads (I : Inv X pins σ H s) {u : Value} {ns : List Int} (h : TupV X.K H u ns) : ∃ as, Reads s.heap u (tupE ns) as := by
  obtain ⟨t, rfl, ht⟩ := h
  obtain ⟨its, rv, hT, _⟩ := I.tuple ht
  exact ⟨_, reads_tuple_ints hT (by simpa using rv.ints)⟩
/-- sorted(xs): the items ascending as tuples are -/
def rSortTA (K : PySem.W.Frag) : List V → Hp → VK → Prop := fun vs H Q => ∃ (a : Addr) (xs : List V) (bs : List (List Int)), vs = [V.ref a] ∧ SqL K H a xs ∧ Paired (TupI K H) xs bs ∧ (∀ b ∈ bs, b ≠ []) ∧
  ∀ (ys : List V) (p : Addr), Paired (TupI K H) ys (bs.mergeSort fun p q => decide (p ≤ q)) → H p = none → Q (.ref p) (upd H p (.lst ys))
theorem cr_sortTA (hu : X.A.units + 65 < cLine) : CallR X (.builtin "sorted") (rSortTA X.K) := by
  intro pins s σ H vs us Q I r h
  obtain ⟨a, xs, bs, rfl, hs, hp, hne, q⟩ := h
  obtain ⟨its, rv, hl, hz⟩ := I.list hs
  rw [Vals.ref1 r]
  have e0 : EachIs (TupV X.K H) its bs := tupV_of hp rv
  have hlen : bs.length = xs.length := (Paired.length hp).symm
  refine sorted_data (A := X.A) (R := TupV X.K H) (enc := tupE) hl.isList e0 (e0.mono fun u ns h => tupV_reads I h) (AllAlike.of fun b b' => by simp [alike, alike_ints]) (.inl fun d hd => ?_) (by rw [hlen]; exact hz) (fun b _ => ?_) fun out ho eo => ?_
  · obtain ⟨b, hb, rfl⟩ := List.mem_map.mp hd
    match b, hne b hb with
    | x :: r, _ => exact ⟨_, _, rfl⟩
  · have : (tupE b).depth ≤ 1 := by simp [PyData.depth, depth_ints]
    omega
  · rw [tupE_le] at eo
    obtain ⟨e1, e2⟩ := tupV_to eo
    obtain ⟨ep, he'⟩ := PyProof.Rows.sortedAll_at s.heap its out.toArray
    have hz2 : (out.map bkV).length ≤ sizeLine := by
      rw [List.length_map, ho, hlen]
      exact hz
    exact ⟨.ref _, upd H (s.heap.objs.size + 1) (.lst (out.map bkV)), I.laid (t' := s.toks) (fun _ _ => PyProof.Rows.sortedAll_old) (Nat.le_succ _) ⟨hz2, out, ep, bkV_vals e2, he'⟩, rfl, q _ _ e1 (I.hok.fresh (Nat.le_succ _))⟩
end
end L2

set_option Elab.async false
set_option linter.all false
set_option maxRecDepth 100000
set_option maxHeartbeats 4000000
/-! math.factorial -/
namespace L2
open PySem PySem.Spec PyProof.Rows
section
variable {X : Cx}
abbrev facN (n : Nat) : Nat := PySem.Builtin.Math.factorialNat n
def rFac : List V → Hp → VK → Prop := fun vs H Q => ∃ n : Nat, vs = [.int n] ∧ n ≤ 20000 ∧ Q (.int (facN n : Nat)) H
theorem cr_fac : CallR X (.builtin "math.factorial") rFac := by
  intro pins s σ H vs us Q I r h
  obtain ⟨n, rfl, hn, q⟩ := h
  cases r with
  | cons r1 r2 =>
    cases r2
    obtain ⟨t, rfl⟩ := r1
    exact PySem.W.mc_factorial (by omega) (by omega) fun _ => ⟨.int _, H, I.tok _, ⟨_, rfl⟩, q⟩
end
end L2

set_option Elab.async false
set_option linter.all false
set_option maxRecDepth 100000
set_option maxHeartbeats 4000000
/-! sorted(xs), xs a list of one item at most, whatever it is -/
namespace L2
open PySem PySem.Spec PyProof.Rows PySem.W
section
variable {X : Cx}
def rSort1 (K : PySem.W.Frag) : List V → Hp → VK → Prop := fun vs H Q => ∃ (a : Addr) (xs : List V), vs = [V.ref a] ∧ SqL K H a xs ∧ xs.length ≤ 1 ∧
  ∀ p : Addr, H p = none → Q (.ref p) (upd H p (.lst xs))
theorem cr_sort1 : CallR X (.builtin "sorted") (rSort1 X.K) := by
  intro pins s σ H vs us Q I r h
  obtain ⟨a, xs, rfl, hs, h1, q⟩ := h
  obtain ⟨its, rv, hl, hz⟩ := I.list hs
  rw [Vals.ref1 r]
  have hlen : xs.length = its.length := rv.length
  refine Srt.sorted_any hl.isList (by omega) (fun h2 => by omega) fun out hp => ?_
  have e : out = its := by
    match its, hlen with
    | [], _ => exact List.Perm.eq_nil hp
    | [x], _ => exact List.perm_singleton.mp hp
    | _ :: _ :: _, hl => simp only [List.length_cons] at hl; omega
  subst e
  obtain ⟨ep, he'⟩ := PyProof.Rows.sortedAll_at s.heap out out.toArray
  exact ⟨.ref _, upd H (s.heap.objs.size + 1) (.lst xs), I.laid (t' := s.toks) (fun _ _ => PyProof.Rows.sortedAll_old) (Nat.le_succ _) ⟨hz, out, ep, rv, he'⟩, rfl, q _ (I.hok.fresh (Nat.le_succ _))⟩
end
end L2

set_option Elab.async false
set_option linter.all false
set_option maxRecDepth 100000
set_option maxHeartbeats 4000000
/-! xs.extend(t), t a tuple -/
namespace PySem
open PySem PySem.W PySem.AutoSeq1
theorem ext_tup {l b : Addr} {items items2 : Array Value} {n n2 : Nat} {dc : Option Addr} {sl : Array (Option Value)} (hs0 : ¬(!items.isEmpty && Builtin.List.listTooLong (items.size + items2.size)) = true) (hs1 : items.size ≤ sizeLine) (hs2 : items.size + items2.size ≤ sizeLine + 1) :
    Meets (Builtin.«list.extend» ⟨[.ref l, .ref b], []⟩) (fun _ R s => s.heap.get? l = some { cls := .type "list", dict := none, data := .seq items n, slots := #[] } ∧ s.heap.get? b = some { cls := .type "tuple", dict := dc, data := .seq items2 n2, slots := sl } ∧
      R (.ok (.ret Value.none)) { s with heap := s.heap.update l (Obj.mapSeq fun x => x ++ items2), toks := s.toks }) :=
  .of_wp fun prog w A R s h => by
    obtain ⟨hp, g, d, tk, os⟩ := s
    obtain ⟨hl, hb, h⟩ := h
    have f1 := idx_int
    have f2 := sub_tuple_tuple
    have f3 := sub_list_list
    have f4 := sub_tuple_list
    have f5 := sub_list_tuple
    have hz' : (items ++ items2).size ≤ sizeLine + 1 := by rw [Array.size_append]; exact hs2
    wp_walk using (wpAny_updateSeq hl rfl (hz := hs1) (_hz' := hz')), wpAny_loadPart' hl, wpAny_loadPart' hb
    exact ⟨_, rfl, h⟩
end PySem
namespace L2
open PySem PySem.Spec PyProof.Rows PySem.W
section
variable {X : Cx}
def rExtT (K : PySem.W.Frag) : V → List V → Hp → VK → Prop := fun x vs H Q => ∃ (l b : Addr) (xs zs : List V), x = .ref l ∧ vs = [.ref b] ∧ H l = some (.lst xs) ∧ SqT K H b zs ∧ xs.length + zs.length ≤ sizeLine ∧
  Q .non (upd H l (.lst (xs ++ zs)))
theorem mt_extendT : MtM X "list.extend" (rExtT X.K) := by
  intro pins s σ H x vs v us Q I rx rv h
  obtain ⟨l, b, xs, zs, rfl, rfl, hH, hB, hz, q⟩ := h
  cases rx
  obtain ⟨u, rfl, ru⟩ := rv.one
  cases ru
  obtain ⟨z, its, n, r, hl, e⟩ := I.lstM hH
  obtain ⟨its2, r2, ⟨ob, eb, hc, n2, hd⟩, hl2⟩ := I.tuple hB
  obtain ⟨cls, dc, data, sl⟩ := ob
  dsimp only at hc hd
  subst hc hd
  have h1 := r.length
  have h2 := r2.length
  have hsz : its.toArray.size + its2.toArray.size ≤ sizeLine := by rw [List.size_toArray, List.size_toArray]; omega
  have hlong : ¬ (!its.toArray.isEmpty && Builtin.List.listTooLong (its.toArray.size + its2.toArray.size)) = true := by
    rw [notLongL hsz, Bool.and_false]
    exact Bool.false_ne_true
  refine call_meets F.slot_list_extend ⟨_, e, rfl⟩ F.entry_list_extend (F.args_list_extend_2 _ _) (PySem.ext_tup hlong (by rw [List.size_toArray]; omega) (by omega)) ⟨e, eb, ?_⟩
  refine ⟨.non, _, I.lset (its' := its ++ its2) hH e (by simp) (r.append r2) ?_, rfl, q⟩
  rw [List.length_append]
  omega
end
end L2

set_option Elab.async false
set_option linter.all false
set_option maxRecDepth 100000
set_option maxHeartbeats 4000000
/-! set(xs), xs a tuple of ints, as a value -/
namespace L2
open PySem PySem.Spec PyProof.Rows
section
variable {P : Program} {w : World} {A : Around} {E : Value → Shared → Prop}
theorem sub_tup_set : isSubtype (.type "tuple") (.type "set") = pure false := by rw [isSubtype_type]; kernel_rfl
theorem sub_tup_frz : isSubtype (.type "tuple") (.type "frozenset") = pure false := by rw [isSubtype_type]; kernel_rfl
theorem init_overT {z : Shared} {D l : Addr} {items : Array Value} {ns : List Int} {R : Result → Shared → Prop} (hh : A.handled = none) (hD : z.heap.get? D = some (eS w)) (hl : z.heap.IsTuple l items) (hit : IntsAre items.toList ns) (hb : ns.length + 1 < scanBound) (hne : l ≠ D)
    (q : ∀ (h' : Heap) (tk c : Nat), SetR w h' D (fun j => decide (j ∈ ns)) c → c ≤ ns.length → (∀ b o, b ≠ D → z.heap.get? b = some o → h'.get? b = some o) → R (.ok (.ret .none)) { z with heap := h', toks := tk }) :
    codeAny (model P w) A (.call (.builtin "set.__init__") ⟨[.ref D, .ref l], []⟩) R z := by
  have hn : items.size = ns.length := by
    have e := IntsAre.length hit
    rw [Array.length_toList] at e
    exact e
  have hT : Shared.TypeIs z (.ref D) "set" := ⟨_, hD, rfl⟩
  have lD : D < z.heap.objs.size := Heap.lt_size hD
  obtain ⟨⟨oc, od, oa, os⟩, hol, hcl, nl, hdl⟩ := id hl
  have ll : l < z.heap.objs.size := Heap.lt_size hol
  dsimp only at hcl hdl
  subst hcl hdl
  have no1 := sub_tup_set
  have no2 := sub_tup_frz
  have no3 : (Value.type "tuple" == Value.type "dict") = false := by decide
  refine codeAny_call_builtin F.called_set.init.plain F.entry_set_init (check_set_init_1 hT ?_)
  unfold Builtin.«set.__init__» noKeywords Builtin.Frozenset.updateFrom
  generalize hPI : pyIter = PI
  wp_walk
  subst hPI
  refine wpAny_pyIter_tuple hl ?_
  refine wpAny_bind (wpAny_runValue ?_)
  have free3 : A.in1.in1.handled = none := by simp [hh]
  have apart : l ≠ z.heap.objs.size := Nat.ne_of_lt ll
  have offS : D ∉ [z.heap.objs.size, l] := fun m => by
    rcases List.mem_cons.mp m with y | y
    · exact absurd y (Nat.ne_of_lt lD)
    · exact hne (List.mem_singleton.mp y).symm
  have each : ∀ (i : Nat) (v : Value), items[i]? = some v → ∃ k t, ns[i]? = some k ∧ v = .int k t := fun i v e => by
    have hi : i < ns.length := hn ▸ (Array.getElem?_eq_some_iff.mp e).1
    obtain ⟨t, e2⟩ := IntsAre.int_at hit i v (by rw [Array.getElem?_toList]; exact e)
    exact ⟨ns[i], t, List.getElem?_eq_getElem hi, by rw [e2, List.getD_eq_getElem?_getD, List.getElem?_eq_getElem hi]; rfl⟩
  refine set_update_ints ((Walks.tuple free3 _ l apart items).toS) D offS ns hn hb each (items.size - 0) 0 _ (by omega) (Nat.zero_le _) ?_ ⟨0, Nat.le_refl 0, ?_⟩ ?_
  · exact ⟨⟨_, Heap.get?_push_size _ rfl, rfl, rfl⟩, hl.push _⟩
  · exact setR_new_at (Heap.get?_push_of_some _ hD)
  rintro ⟨h', gens', drawn', tk', os'⟩ c moved hc new
  obtain rfl : gens' = z.gens := moved.gens
  obtain rfl : drawn' = z.drawn := moved.drawn
  obtain rfl : os' = z.os := moved.os
  show wpAny _ _ _ _ _ _
  refine wpAny_pure ?_
  show wpAny _ _ (ret Value.none) _ _ _
  refine wpAny_pure (q h' tk' c new (by omega) fun b o hbD e => ?_)
  have lb : b < z.heap.objs.size := Heap.lt_size e
  refine moved.heap b o (fun m => ?_) (Heap.get?_push_of_some _ e)
  rcases List.mem_cons.mp m with y | y
  · exact hbD y
  · exact absurd (List.mem_singleton.mp y) (Nat.ne_of_lt lb)
theorem set_overT {z : Shared} {l : Addr} {items : Array Value} {ns : List Int} {Q : Value → Shared → Prop} (hh : A.handled = none) (hl : z.heap.IsTuple l items) (hit : IntsAre items.toList ns) (hb : ns.length + 1 < scanBound)
    (q : ∀ (h' : Heap) (tk c : Nat), SetR w h' z.heap.objs.size (fun j => decide (j ∈ ns)) c → c ≤ ns.length → (∀ b o, z.heap.get? b = some o → h'.get? b = some o) → Q (.ref z.heap.objs.size) { z with heap := h', toks := tk }) :
    wpAny (model P w) A (call (.type "set") [.ref l]) Q E z := by
  obtain ⟨c0, t0, mro0⟩ := F.called_set.mro
  have m1 := F.called_set.made
  have m2 := F.called_set.sub
  have m3 := F.called_set.notType
  have m4 := F.called_set.canCreate
  have m5 := F.typeCall_set_1 (.ref l)
  have ll : l < z.heap.objs.size := by
    obtain ⟨o, ho, _⟩ := id hl
    exact Heap.lt_size ho
  refine wpAny_call (codeAny_of_tree ?_)
  show wpAny _ _ (callAny (.type "set") _) _ _ _
  refine wpAny_pure ⟨Code.quiet_builtin _ (by decide +kernel), codeAny_builtin F.entry_type_call ?_⟩
  rw [Around.under_plain (weight_type_call_type "set" [.ref l] []) rfl]
  repeat any_goals first | assumption | wp_step
  have new1 : (z.heap.push (eS w)).get? z.heap.objs.size = some (eS w) := Heap.get?_push_size _ rfl
  refine codeAny_mono (code_set_led1 (.ref l) (E := E) (Q₁ := fun v y => v = .ref z.heap.objs.size ∧ y = { z with heap := z.heap.push (eS w) }) ⟨rfl, rfl⟩) fun r y hr => ?_
  cases r with
  | error e => exact hr
  | ok fl =>
    cases fl with
    | ret v =>
      obtain ⟨rfl, rfl⟩ := hr
      have hT : Shared.TypeIs { z with heap := z.heap.push (eS w) } (.ref z.heap.objs.size) "set" := ⟨_, new1, rfl⟩
      have i1 := F.called_set.init.lookup
      have i2 := F.called_set.init.bind (.ref z.heap.objs.size)
      repeat any_goals first | assumption | wp_step
      refine init_overT (A := A.in1) (z := { z with heap := z.heap.push (eS w) }) (D := z.heap.objs.size) (by simp [hh]) new1 (hl.push _) hit hb (Nat.ne_of_lt ll) fun h' tk c S hc k => ?_
      show wpAny _ _ (pure (some Value.none)) _ _ _
      repeat any_goals first | assumption | wp_step
      exact q h' tk c S hc fun b o e => k b o (Nat.ne_of_lt (Heap.lt_size e)) (Heap.get?_push_of_some _ e)
    | _ => exact hr.elim
end
section
variable {X : Cx}
/-- set(xs) -/
def rSetTI (K : PySem.W.Frag) (w : World) : List V → Hp → VK → Prop := fun xs H Q => ∃ (l : Addr) (ns : List Int), xs = [V.ref l] ∧ SqT K H l (ns.map V.int) ∧ ns.length ≤ 1000 ∧ ∀ p n, n ≤ ns.length → H p = none → Q (.ref p) (upd H p (SetO w p (fun j => decide (j ∈ ns)) n))
theorem cr_setTI (hc : X.calm = true) : CallR X (.type "set") (rSetTI X.K X.w) := by
  intro pins s σ H xs us Q I r h
  obtain ⟨l, ns, rfl, hl, h1, q⟩ := h
  obtain ⟨its, rv, pl, _⟩ := I.tuple hl
  rw [Vals.ref1 r]
  refine set_overT (I.ok.hd hc) pl (ns := ns) (by simpa using rv.ints) (by unfold scanBound; omega) fun h' tk c R hc k => ?_
  exact ⟨.ref _, upd H s.heap.objs.size (SetO X.w s.heap.objs.size (fun j => decide (j ∈ ns)) c), I.laid (t' := tk) k (Nat.le_refl _) (setO_new R), rfl, q _ c hc (I.hok.fresh (Nat.le_refl _))⟩
end
end L2

set_option Elab.async false
set_option linter.all false
set_option maxRecDepth 100000
set_option maxHeartbeats 4000000
/-! t > u, both tuples of ints -/
namespace L2
open PySem PySem.Spec PyProof.Rows
abbrev gtB (ns ms : List Int) : Bool := Ob.lexAt (fun j => decide (ns.getD j 0 = ms.getD j 0)) (fun j => decide (ms.getD j 0 < ns.getD j 0)) (decide (ms.length < ns.length)) 0 (min ns.length ms.length)
def rGtT (K : PySem.W.Frag) : R2 := fun x y H Q => ∃ (t1 t2 : Addr) (ns ms : List Int), (x = .ref t1 ∧ y = .ref t2) ∧ (SqT K H t1 (ns.map V.int) ∧ SqT K H t2 (ms.map V.int)) ∧ Q (.bl (gtB ns ms)) H
theorem op_gtT {X : Cx} (few : X.A.units < cLine) : OpR X (compareOp .Gt) (rGtT X.K) := by
  rintro pins s σ H x y v u Q I rx ry ⟨t1, t2, ns, ms, ⟨rfl, rfl⟩, ⟨h1, h2⟩, q⟩
  cases rx; cases ry
  obtain ⟨us, va, pa, _⟩ := I.tuple h1
  obtain ⟨ws, vb, pb, _⟩ := I.tuple h2
  have item : ∀ {zs : List Value} {ks : List Int}, IntsAre zs ks → ∀ j (h : j < zs.toArray.size), ∃ t, zs.toArray[j] = .int (ks.getD j 0) t := fun ii j h =>
    PyProof.Rows.IntsAre.int_at ii _ _ (by simp at h; simp [h])
  have size : ∀ {zs : List Value} {ks : List Int}, IntsAre zs ks → zs.toArray.size = ks.length := fun ii => by rw [List.size_toArray]; exact ii.length
  have beq : ∀ a b : Int, decide (a = b) = (a == b) := fun a b => by
    by_cases c : a = b
    · subst c; simp
    · rw [decide_eq_false c]; exact (beq_eq_false_iff_ne.mpr c).symm
  have main := Ob.RcOp.tuples_gt (A := X.A) (s := s) (e := fun j => decide (ns.getD j 0 = ms.getD j 0)) (r := fun j => decide (ms.getD j 0 < ns.getD j 0)) pa pb few
    (fun j i1 i2 => by
      obtain ⟨k1, g1⟩ := item va.ints j i1
      obtain ⟨k2, g2⟩ := item vb.ints j i2
      rw [g1, g2, beq]
      exact SeqAt.EqAt.int_int _ _ _ _)
    (fun j i1 i2 _ => by
      obtain ⟨k1, g1⟩ := item va.ints j i1
      obtain ⟨k2, g2⟩ := item vb.ints j i2
      rw [g1, g2]
      exact Ob.RcOp.gt_int _ _ _ _)
  rw [size va.ints, size vb.ints] at main
  exact main X.prog X.w X.xe (EP X pins σ Q) ⟨.bl _, H, I, rfl, q⟩
end L2

set_option Elab.async false
set_option linter.all false
set_option maxRecDepth 100000
set_option maxHeartbeats 4000000
/-! sorted(xs), xs a list of tuples of ints, the first of which has no item -/
namespace PySem.W
open PySem PySem.Calls PyProof.Rows PySem.SeqAt
section
variable {prog : Program} {w : World} {A : Around} {E : Value → Shared → Prop} {s : Shared}
theorem call_tuple_ltZ {Q : Value → Shared → Prop} {l b : Addr} {items items2 : Array Value} {e r : Nat → Bool} (hl : s.heap.IsTuple l items) (hb : s.heap.IsTuple b items2)
    (he : ∀ j (h1 : j < items.size) (h2 : j < items2.size), EqAt A.in1 s items[j] items2[j] (e j)) (hr : ∀ j (h1 : j < items.size) (h2 : j < items2.size), e j = false → RcLt A.in1 s items[j] items2[j] (r j))
    (h : Q (.bool (firstLt e r (decide (items.size < items2.size)) (List.range (min items.size items2.size)))) s) : wpAny (model prog w) A (call (.builtin "tuple.__lt__") [.ref l, .ref b]) Q E s := by
  obtain ⟨⟨cls, dd, data, sl⟩, ho, hc, n, hd⟩ := id hl
  obtain ⟨⟨cls2, dd2, data2, sl2⟩, ho2, hc2, n2, hd2⟩ := id hb
  simp only at hc hd hc2 hd2
  subst hc hd hc2 hd2
  exact call_meets F.slot_tuple_lt ⟨_, ho, rfl⟩ F.entry_tuple_lt (F.args_tuple_lt_2 _ _) (tuple_ltAt l b items items2 n n2 dd dd2 sl sl2 e r) ⟨ho, ho2, he, hr, h⟩
theorem oneLt_tupZ {xs ys : List PyData} {a b : Value} {as bs : List Addr} {Q : Bool → Shared → Prop} (ra : Reads s.heap a (.tuple xs) as) (rb : Reads s.heap b (.tuple ys) bs) (hal : alikeAll xs ys = true)
    (hu : A.units + min (PyData.tuple xs).depth (PyData.tuple ys).depth < cLine) (hq : Q (dataLt (.tuple xs) (.tuple ys)) s) : wpAny (model prog w) A (oneLt' true a b) Q E s := by
  cases ra with
  | @tuple l o vs n _ as₁ h1 h2 h3 h4 =>
    cases rb with
    | @tuple l' o' vs' n' _ bs₁ k1 k2 k3 k4 =>
      have n1 : vs.size = xs.length := by simpa using ReadsAll.length _ _ _ h4
      have n2 : vs'.size = ys.length := by simpa using ReadsAll.length _ _ _ k4
      rw [dataLt_tuple, ← firstLt_toks xs ys hal, ← n1, ← n2] at hq
      rw [oneLt'_eq]
      simp only [if_true]
      refine wpAny_bind (wpAny_cRoomFor (room_here hu) ?_)
      refine wpAny_bind (wpAny_callSpecialIfBound?_slot (T := "tuple") ⟨_, h1, h2⟩ F.slot_tuple_lt (call_tuple_ltZ (e := pairEq xs ys) (r := fun j => dataLt (xs.getD j .none) (ys.getD j .none)) ⟨_, h1, h2, _, h3⟩ ⟨_, k1, k2, _, k3⟩ (fun j j1 j2 => ?_) (fun j j1 j2 hj => ?_) ?_))
      · have := eqAt_alikeAll xs ys A.in1 s vs.toList vs'.toList _ _ h4 k4 hal (room_in hu) j (by simpa using j1) (by simpa using j2)
        simpa using this
      · have := rcLt_alikeAll xs ys A.in1 s vs.toList vs'.toList _ _ h4 k4 hal (room_in hu) j (by simpa using j1) (by simpa using j2) hj
        simpa using this
      · exact wpAny_truthy_bool hq
end
section
variable {M : Model} {A : Around} {E : Value → Shared → Prop} {s : Shared}
def TupAt (h : Heap) (v : Value) (xs : Array Value) : Prop := ∃ a o n, v = .ref a ∧ h.get? a = some o ∧ o.cls = .type "tuple" ∧ o.data = .seq xs n
theorem first_tupZ {v : Value} {xs : Array Value} {Q : Option Value → Shared → Prop} (t : TupAt s.heap v xs) (h : Q xs[0]? s) : wpAny M A (firstOfTuple' v) Q E s := by
  obtain ⟨a, o, n, rfl, ho, hc, hd⟩ := t
  rw [kas_first_eq]
  refine wpAny_bind (Looks.here (show Looks M s.heap (typeOf (.ref a)) o.cls from (Looks.ld ho).andThen .now) ?_)
  rw [hc, if_neg (by first | decide | simp)]
  exact wpAny_bind (listItems_at ho hd (wpAny_pure h))
theorem firsts_anyZ : ∀ (vs : List Value), (∀ v ∈ vs, ∃ xs, TupAt s.heap v xs) → ∃ rs : List (Option Value), ∀ {Q : List (Option Value) → Shared → Prop}, Q rs s → wpAny M A (vs.mapM firstOfTuple') Q E s
  | [], _ => ⟨[], fun h => by rw [List.mapM_nil]; exact wpAny_pure h⟩
  | v :: vs, t => by
    obtain ⟨xs, hx⟩ := t v (.head _)
    obtain ⟨rs, hr⟩ := firsts_anyZ vs fun v hv => t v (.tail _ hv)
    refine ⟨xs[0]? :: rs, fun {Q} h => ?_⟩
    rw [List.mapM_cons]
    exact wpAny_bind (first_tupZ hx (wpAny_bind (hr (Q := fun bs s' => wpAny M A (pure (xs[0]? :: bs)) Q E s') (wpAny_pure h))))
theorem kind_tupZ {v₁ : Value} {rest : List Value} {Q : SortKind → Shared → Prop} (h1 : TupAt s.heap v₁ #[]) (hT : ∀ v ∈ rest, ∃ xs, TupAt s.heap v xs) (h : Q oneType' s) : wpAny M A (keyKind' (v₁ :: rest).toArray) Q E s := by
  obtain ⟨rs, hr⟩ := firsts_anyZ (M := M) (A := A) (E := E) rest hT
  rw [keyKind'_eq, List.mapM_toArray, map_eq_pure_bind]
  refine wpAny_bind (wpAny_bind ?_)
  rw [List.mapM_cons]
  refine wpAny_bind (first_tupZ h1 (wpAny_bind (hr ?_)))
  refine wpAny_pure (wpAny_pure ?_)
  rw [if_neg (by simp), if_neg (by simp)]
  rw [oneTypeOnly'_eq, List.mapM_toArray, map_eq_pure_bind]
  have hty : ∀ v ∈ v₁ :: rest, ∀ (Q' : Value → Shared → Prop), Q' (.type "tuple") s → wpAny M A (typeOf v) Q' E s := fun v hv Q' hq => by
    have ht : ∃ xs, TupAt s.heap v xs := by
      rcases List.mem_cons.mp hv with rfl | hv
      · exact ⟨_, h1⟩
      · exact hT v hv
    obtain ⟨xs, a, o, n, rfl, ho, hc, hd⟩ := ht
    refine Looks.here (show Looks M s.heap (typeOf (.ref a)) o.cls from (Looks.ld ho).andThen .now) ?_
    rw [hc]
    exact hq
  refine wpAny_bind (wpAny_bind (wpAny_bind (kas_mapM (r := .type "tuple") _ hty (wpAny_pure ?_))))
  have hall : ((List.map (fun _ => Value.type "tuple") (v₁ :: rest)).toArray.all fun x => x == Value.type "tuple") = true := by
    simp only [List.all_toArray, List.all_map, List.all_eq_true]
    intro _ _
    rfl
  have h0 : (List.map (fun _ => Value.type "tuple") (v₁ :: rest)).toArray[0]? = some (Value.type "tuple") := by simp
  rw [h0]
  simp only [hall, if_true]
  exact wpAny_pure (wpAny_pure h)
end
section
variable {prog : Program} {w : World} {A : Around} {E : Value → Shared → Prop} {s : Shared}
theorem reads_tupZ {v : Value} {r : List PyData} {as : List Addr} (h : Reads s.heap v (.tuple r) as) : ∃ xs, TupAt s.heap v xs := by
  cases h with
  | @tuple l o vs n _ as₁ h1 h2 h3 h4 => exact ⟨_, l, o, n, rfl, h1, h2, h3⟩
theorem reads_tup0Z {v : Value} {as : List Addr} (h : Reads s.heap v (.tuple []) as) : TupAt s.heap v #[] := by
  cases h with
  | @tuple l o vs n _ as₁ h1 h2 h3 h4 =>
    have n1 : vs.size = 0 := by simpa using ReadsAll.length _ _ _ h4
    obtain rfl : vs = #[] := Array.eq_empty_of_size_eq_zero n1
    exact ⟨l, o, n, rfl, h1, h2, h3⟩
theorem SortsAt.tupZ {vs : List Value} {ds : List PyData} (e : EachIs (fun v d => ∃ as, Reads s.heap v d as) vs (.tuple [] :: ds)) (hal : AllAlike (.tuple [] :: ds)) (ht : ∀ d, d ∈ ds → ∃ r, d = .tuple r) (hu : ∀ d, d ∈ PyData.tuple [] :: ds → A.units + d.depth < cLine) :
    SortsAt prog w A s (dataKind s.heap (.tuple [] :: ds)) vs := by
  have ht2 : ∀ d, d ∈ PyData.tuple [] :: ds → ∃ r, d = .tuple r := fun d hd => by
    rcases List.mem_cons.mp hd with rfl | hd
    · exact ⟨_, rfl⟩
    · exact ht d hd
  refine ⟨fun v hv => ?_, oneType', ?_, fun h2 E Q hq => ?_⟩
  · obtain ⟨d, hd, as, r⟩ := e.left v hv
    exact ⟨_, dataKind_some hal hd r⟩
  · intro E x y a b Q ha hb hq
    obtain ⟨d, as, hd, ra, rfl⟩ := dataKind_inv ha
    obtain ⟨d', as', hd', rb, rfl⟩ := dataKind_inv hb
    have hdd := hal d hd d' hd'
    have hroom : A.units + min d.depth d'.depth < cLine := Nat.lt_of_le_of_lt (Nat.add_le_add_left (Nat.min_le_left _ _) _) (hu d hd)
    obtain ⟨r1, rfl⟩ := ht2 d hd
    obtain ⟨r2, rfl⟩ := ht2 d' hd'
    rw [keyLt'_oneType]
    exact oneLt_tupZ ra rb (by simpa [alike] using hdd) hroom hq
  · cases e with
    | @cons v₁ _ vs _ r1 r2 =>
      obtain ⟨as, r1⟩ := r1
      refine kind_tupZ (reads_tup0Z r1) (fun v hv => ?_) hq
      obtain ⟨d, hd, as, r⟩ := r2.left v hv
      obtain ⟨r', rfl⟩ := ht d hd
      exact reads_tupZ r
end
end PySem.W
namespace PySem.W
open PySem PySem.Calls PyProof.Rows PySem.SeqAt
section
variable {prog : Program} {w : World} {A : Around} {E : Value → Shared → Prop} {s : Shared} {β : Type} {R : Value → β → Prop} {enc : β → PyData} {b0 : β} {bs : List β} {vs : List Value}
theorem sorted_tupZ {l : Addr} {Q : Value → Shared → Prop} (h0 : enc b0 = .tuple []) (ht : ∀ b, b ∈ bs → ∃ r, enc b = .tuple r) (hl : s.heap.IsList l vs.toArray) (e : EachIs R vs (b0 :: bs)) (er : EachIs (fun v b => ∃ as, Reads s.heap v (enc b) as) vs (b0 :: bs)) (hal : AllAlike ((b0 :: bs).map enc)) (hL : (b0 :: bs).length ≤ sizeLine)
    (hu : ∀ b, b ∈ b0 :: bs → A.units + 2 + (enc b).depth < cLine) (h : ∀ out, out.length = (b0 :: bs).length → EachIs R out ((b0 :: bs).mergeSort (dataLe false enc)) → Q (.ref (s.heap.objs.size + 1)) { s with heap := sortedAll s.heap vs (List.toArray out) }) :
    wpAny (model prog w) A (call (.builtin "sorted") [.ref l]) Q E s := by
  have er' : EachIs (fun v b => ∃ as, Reads (sortingHeap (copyHeap s.heap vs) (s.heap.objs.size + 1) vs) v (enc b) as) vs (b0 :: bs) := er.mono fun _ _ ⟨as, r⟩ => ⟨as, PyProof.Rows.Reads.keeps (fun _ _ => sorting_copy_old) r⟩
  have em := each_map (R := fun v d => ∃ as, Reads (sortingHeap (copyHeap s.heap vs) (s.heap.objs.size + 1) vs) v d as) enc er'
  have bm := bound_map (A := A.in1.in1) (enc := enc) (bs := b0 :: bs) hu
  have hal2 := hal
  rw [List.map_cons, h0] at em bm hal2
  refine sorted_vals (κ := dataKind (sortingHeap (copyHeap s.heap vs) (s.heap.objs.size + 1) vs) ((b0 :: bs).map enc)) hl ?_ (by rw [e.length]; exact hL) (h _ (by rw [sortVals_length false rfl]; exact e.length) (sortVals_data false e er' hal))
  rw [List.map_cons, h0]
  refine SortsAt.tupZ (s := { s with heap := sortingHeap (copyHeap s.heap vs) (s.heap.objs.size + 1) vs }) em hal2 (fun d hd => ?_) bm
  obtain ⟨b, hb, rfl⟩ := List.mem_map.mp hd
  exact ht b hb
end
end PySem.W
namespace L2
open PySem PySem.Spec PyProof.Rows PySem.W
section
variable {X : Cx} {pins : List (Addr × Obj)} {σ : St} {H : Hp} {s : Shared}
/-- sorted(xs): the items ascending as tuples are -/
def rSortT0 (K : PySem.W.Frag) : List V → Hp → VK → Prop := fun vs H Q => ∃ (a : Addr) (xs : List V) (bs : List (List Int)), vs = [V.ref a] ∧ SqL K H a xs ∧ Paired (TupI K H) xs ([] :: bs) ∧
  ∀ (ys : List V) (p : Addr), Paired (TupI K H) ys (([] :: bs).mergeSort fun p q => decide (p ≤ q)) → H p = none → Q (.ref p) (upd H p (.lst ys))
theorem cr_sortT0 (hu : X.A.units + 65 < cLine) : CallR X (.builtin "sorted") (rSortT0 X.K) := by
  intro pins s σ H vs us Q I r h
  obtain ⟨a, xs, bs, rfl, hs, hp, q⟩ := h
  obtain ⟨its, rv, hl, hz⟩ := I.list hs
  rw [Vals.ref1 r]
  have e0 : EachIs (TupV X.K H) its ([] :: bs) := tupV_of hp rv
  have hlen : ([] :: bs).length = xs.length := (Paired.length hp).symm
  refine sorted_tupZ (A := X.A) (R := TupV X.K H) (enc := tupE) rfl (fun b _ => ⟨_, rfl⟩) hl.isList e0 (e0.mono fun u ns h => tupV_reads I h) (AllAlike.of fun b b' => by simp [alike, alike_ints]) (by rw [hlen]; exact hz) (fun b _ => ?_) fun out ho eo => ?_
  · have : (tupE b).depth ≤ 1 := by simp [PyData.depth, depth_ints]
    omega
  · rw [tupE_le] at eo
    obtain ⟨e1, e2⟩ := tupV_to eo
    obtain ⟨ep, he'⟩ := PyProof.Rows.sortedAll_at s.heap its out.toArray
    have hz2 : (out.map bkV).length ≤ sizeLine := by
      rw [List.length_map, ho, hlen]
      exact hz
    exact ⟨.ref _, upd H (s.heap.objs.size + 1) (.lst (out.map bkV)), I.laid (t' := s.toks) (fun _ _ => PyProof.Rows.sortedAll_old) (Nat.le_succ _) ⟨hz2, out, ep, bkV_vals e2, he'⟩, rfl, q _ _ e1 (I.hok.fresh (Nat.le_succ _))⟩
end
end L2

set_option Elab.async false
set_option linter.all false
set_option maxRecDepth 100000
set_option maxHeartbeats 4000000
/-! o.m(e, .., k = v, ..); an expression read in one of two ways -/
namespace L2
open PySem PySem.Spec PyProof.Rows PySem.W
/-- a method with keywords -/
def tMethN (C : Addr) (m : Str) (n j : Nat) (sp : Sp) (gV : List V → List V → List V) (E : XK) (ta : TE) (t tk : TA) : TE := fun σ H Q => ta σ H fun x H1 => ∃ a dx fs, x = .ref a ∧ H1 a = some (.ins C dx fs) ∧ fs.lookup m = none ∧
  t σ H1 fun vs H2 => tk σ H2 fun zs H3 => vs.length = n ∧ zs.length = j ∧ sp (gV (x :: vs) zs) H3 Q E
section
variable {X : Cx} {CX : CXT} {k n : Nat} {f C : Addr} {fd : FuncData} {ps ks : List Str} {sp : Sp} {E : XK} {m : Str} {pos apos : Pos} {e o : Expr} {es : List Expr} {kws : List Keyword} {ta : TE} {t tk : TA} {g : List Value → List Value → List Value} {gV : List V → List V → List V}
theorem pe_methN {pl : Sem Bool} (he : PE X o ta) (c : Cls X.K C) (hm : Meth X.K C m f) (F : FnOk X.prog X.w X.K X.mg X.base CX k f fd ps sp) (hr : Room k X.A) (hb : KBn X.K fd ps (n + 1) ks g gV) (hx : Passes CX X E) (ha : PA X (e :: es) t) (hkw : PK X kws tk)
    (hall : (backToKw pos (keywordEach kws X.env)).all (·.1.isSome) = true := by rfl) (hks : (backToKw pos (keywordEach kws X.env)).filterMap (·.1) = ks := by rfl)
    (hst : starEach (e :: es) X.env = (false, eval e X.env) :: starEach es X.env := by rfl) (hpl : ((backTo pos (starEach (e :: es) X.env)).any (·.1) || (backToKw pos (keywordEach kws X.env)).any (·.1.isNone)) = false := by rfl)
    (ht : eval (.Call (.Attribute o m apos) (e :: es) kws pos) X.env = (do
      let ov ← eval o X.env
      standAt apos.atName
      let (f, first) ← holding [ov] (getMethod ov m pl)
      callWith pos f first (backTo pos (starEach (e :: es) X.env)) (backToKw pos (keywordEach kws X.env))) := by rfl) :
    PE X (.Call (.Attribute o m apos) (e :: es) kws pos) (tMethN C m n ks.length sp gV E ta t tk) := by
  refine ⟨fun pins s σ H Q I h => ?_⟩
  refine PySem.W.methodCall_KW (pl := pl) (thn (he.run pins s σ H _ I h) fun u s1 ⟨x, H1, I1, rx, a, dx, fs, ex, ea, l, q⟩ => ?_) ht
  subst ex
  obtain rfl : u = Value.ref a := rx
  refine getmeth_ok I1 ea c hm l ?_
  refine PySem.W.callWith_KW (first := [.ref a]) (h₀ := X.base) I.ok.mod.kin hm.kp hall (thn (ha.run pos pins s1 σ H1 _ I1 q) fun us s2 ⟨vs, H2, I2, r, q2⟩ => ?_) hpl hst
  refine thn (hkw.run pos pins s2 σ H2 _ I2 q2) fun ws s3 ⟨zs, H3, I3, rz, l1, l2, q3⟩ => ⟨I3.kIn, ?_⟩
  rw [hks]
  exact run_fnN (us := .ref a :: us) (vs := .ref a :: vs) F hr hb hx I3 (.cons rfl r) rz (by rw [List.length_cons, l1]) l2 q3
/-- an expression that may be read in two ways -/
theorem pe_two {a : Expr} {t1 t2 : TE} (h1 : PE X a t1) (h2 : PE X a t2) : PE X a (fun σ H Q => t1 σ H Q ∨ t2 σ H Q) :=
  ⟨fun pins s σ H Q I h => h.elim (h1.run pins s σ H Q I) (h2.run pins s σ H Q I)⟩
end
end L2

set_option Elab.async false
set_option linter.all false
set_option maxRecDepth 100000
set_option maxHeartbeats 4000000
/-! zip over two tuples, as a walk; != of own objects of two classes -/
namespace L2
open PySem PySem.Spec PyProof.Rows
theorem walk_zipT {K : PySem.W.Frag} {a b : Addr} {xs ys : List V} {n : Nat} (hn : n = min xs.length ys.length) : Walk (RZ.ItzT K a b) n (fun H => SqT K H a xs ∧ SqT K H b ys) (YPair (fun i => xs[i]?) (fun i => ys[i]?)) := by
  subst hn
  refine ⟨fun i _ hi q => ?_, fun _ q => ⟨xs, ys, q.1, q.2, by omega⟩, fun i H v H' _ q y => ?_⟩
  · have h1 : i < xs.length := by omega
    have h2 : i < ys.length := by omega
    exact ⟨xs, ys, xs[i], ys[i], q.1, q.2, by simp [h1], by simp [h2]⟩
  · obtain ⟨T, x, z, h1, h2, h3, h4, h5⟩ := y
    exact ⟨T, x, z, h1, h2, h3, h4 xs q.1, h5 ys q.2⟩
end L2
namespace Tw
open PySem PySem.Spec PyProof.Rows L2
open PySem.W (InstAt looks_findIn looks_subIn ifBound_K cmp_K)
section
variable {X : Cx} {CX : CXT} {k : Nat} {f C D : Addr} {fd : FuncData} {ps : List Str} {sp : Sp} {E : XK}
/-- != where the other one is an object of another class -/
def rNeD (C D : Addr) (sp : Sp) (E : XK) : R2 := fun x y H Q =>
  ∃ a dx fs b dy gs, x = .ref a ∧ H a = some (.ins C dx fs) ∧ y = .ref b ∧ H b = some (.ins D dy gs) ∧ sp [.ref a, y] H (fun v H' => ∃ r, v = .bl r ∧ Q (.bl (!r)) H') E
theorem op_ne_two (c : EqC X.K C f) (hd : PySem.W.notFirst X.K C (.ref D) = true) (F : FnOk X.prog X.w X.K X.mg X.base CX k f fd ps sp) (hr : Room (k + 1) X.A) (hb : Binds X.K fd ps []) (hx : Passes CX X E) : OpR X (compareOp .NotEq) (rNeD C D sp E) := by
  intro pins s σ H x y v u Q I rx ry ⟨a, dx, fs, b, dy, gs, ex, ha, ey, hb2, q⟩
  subst ex
  subst ey
  obtain rfl : v = Value.ref a := rx
  obtain rfl : u = Value.ref b := ry
  obtain ⟨mA, O, rr, _, _, _⟩ := ins_get I.hok ha
  obtain ⟨od, J, hl⟩ := O.look
  obtain ⟨mB, OB, rrB, _, _, _⟩ := ins_get I.hok hb2
  obtain ⟨odB, JB, hlB⟩ := OB.look
  obtain ⟨m0, hF⟩ := I.fr
  show wpAny _ _ (richCompare .NotEq (.ref a) (.ref b)) _ _ _
  refine ne_K (Room.units0 hr.in1) hr.units0 hF I.ok.mod.kin J JB.type hd c (thn (run_sub F (Sub.in1 ⟨hr, rfl⟩) hb hx I (.cons (relR a) (.cons (relR b) .nil)) q) fun r s' ⟨z, H', I', rz, b2, ez, q'⟩ => ?_)
  subst ez
  exact ⟨b2, rz, _, H', I', relB (!b2), q'⟩
end
end Tw

set_option Elab.async false
set_option linter.all false
set_option maxRecDepth 100000
set_option maxHeartbeats 2000000
/-! own rules: xs.count(k), t.count(k) (whole numbers); sum(d.values()) -/
namespace L2
open PySem PySem.Spec PyProof.Rows L2
theorem plain_ints : ∀ ns : List Int, PyData.plainAll (ns.map PyData.int) = true
  | [] => rfl
  | n :: ns => by
    simp only [List.map_cons, PyData.plainAll, plain_ints ns]
    rfl
theorem count_ints (k : Int) : ∀ ns : List Int, (ns.map PyData.int).countP (fun y => PyData.eqv y (.int k)) = ns.count k
  | [] => rfl
  | n :: ns => by
    rw [List.map_cons, List.countP_cons, count_ints k ns, List.count_cons]
    have e : PyData.eqv (.int n) (.int k) = (n == k) := rfl
    rw [e]
theorem dpAll_ints (K : PySem.W.Frag) (H : Hp) : ∀ ns : List Int, DpAll K H (ns.map V.int) (ns.map PyData.int)
  | [] => .nil
  | n :: ns => .cons (.int n) (dpAll_ints K H ns)
section
variable {X : Cx}
def rCountL (K : PySem.W.Frag) : V → List V → Hp → VK → Prop := fun x vs H Q => ∃ (a : Addr) (ns : List Int) (k : Int), x = .ref a ∧ vs = [.int k] ∧ SqL K H a (ns.map V.int) ∧ Q (.int (ns.count k : Nat)) H
def rCountT (K : PySem.W.Frag) : V → List V → Hp → VK → Prop := fun x vs H Q => ∃ (a : Addr) (ns : List Int) (k : Int), x = .ref a ∧ vs = [.int k] ∧ SqT K H a (ns.map V.int) ∧ Q (.int (ns.count k : Nat)) H
theorem mt_countL (hu : X.A.units + 65 < cLine) : MtR X "list.count" (rCountL X.K) := by
  intro pins s σ H x xs v us Q I rx rxs h
  obtain ⟨a, ns, k, rfl, rfl, hl, q⟩ := h
  cases rx
  cases rxs with
  | cons ry rt =>
    rename_i uy ut
    cases rt
    obtain ⟨its, rv, pl, hlen⟩ := I.list hl
    obtain ⟨as, h4⟩ := Dp.readsAll I (ns.map PyData.int) _ its (dpAll_ints _ _ ns) rv
    obtain ⟨bs, r1⟩ := Dp.reads I (.int k) _ uy (.int k) ry
    refine PySem.SeqAt.count_list_data (xs := ns.map PyData.int) (d := .int k) pl.isList h4 r1 (plain_ints ns) rfl (Nat.lt_of_le_of_lt (Nat.add_le_add_left (Nat.min_le_right _ _) _) (by simp only [PyData.depth]; omega)) ?_
    rw [count_ints]
    exact ⟨.int _, H, I.tok _, ⟨_, rfl⟩, q⟩
theorem mt_countT (hu : X.A.units + 65 < cLine) : MtR X "tuple.count" (rCountT X.K) := by
  intro pins s σ H x xs v us Q I rx rxs h
  obtain ⟨a, ns, k, rfl, rfl, hl, q⟩ := h
  cases rx
  cases rxs with
  | cons ry rt =>
    rename_i uy ut
    cases rt
    obtain ⟨its, rv, pl, hlen⟩ := I.tuple hl
    obtain ⟨as, h4⟩ := Dp.readsAll I (ns.map PyData.int) _ its (dpAll_ints _ _ ns) rv
    obtain ⟨bs, r1⟩ := Dp.reads I (.int k) _ uy (.int k) ry
    refine PySem.SeqAt.count_tuple_data (xs := ns.map PyData.int) (d := .int k) pl h4 r1 (plain_ints ns) rfl (Nat.lt_of_le_of_lt (Nat.add_le_add_left (Nat.min_le_right _ _) _) (by simp only [PyData.depth]; omega)) ?_
    rw [count_ints]
    exact ⟨.int _, H, I.tok _, ⟨_, rfl⟩, q⟩
theorem preSum_list : ∀ (is : List Int) (n : Nat), preSum (fun i => is.getD i 0) n = (is.take n).sum := by
  intro is n
  induction n with
  | zero => rfl
  | succ n ih =>
    rw [preSum, ih]
    by_cases h : n < is.length
    · rw [← List.take_append_getElem h, List.sum_append, List.getD_eq_getElem?_getD, List.getElem?_eq_getElem h]
      simp
    · rw [List.take_of_length_le (by omega), List.take_of_length_le (by omega), List.getD_eq_getElem?_getD, List.getElem?_eq_none (by omega)]
      simp
/-- sum(o.values()), a dict with int values -/
def tSumVals (td : TE) : TE := fun σ H Q => td σ H fun x H1 => ∃ (a : Addr) (kvs : List (Key × V)) (is : List Int), x = V.ref a ∧ H1 a = some (.dK kvs) ∧ kvs.map (·.2) = is.map V.int ∧ Q (.int is.sum) H1
variable {o : Expr} {p pos apos mpos : Pos} {td : TE}
theorem pe_sumVals (hc : X.calm = true) (hg : Gl X "sum") (hm : X.mg "sum" = none) (hd : PE X o td) (hbase : attributeBase o "values" X.env (eval o X.env) = eval o X.env := by rfl) (hline : (apos.endLine == mpos.line) = true := by rfl)
    (hse : starEach [Expr.Call (.Attribute o "values" apos) [] [] mpos] X.env = [(false, eval (Expr.Call (.Attribute o "values" apos) [] [] mpos) X.env)] := by rfl) :
    PE X (.Call (.Name "sum" p) [.Call (.Attribute o "values" apos) [] [] mpos] [] pos) (tSumVals td) := by
  refine ⟨fun pins s σ H Q I h => ?_⟩
  refine wpAny_Call_Name_kw (ld_blt I hg hm (u := .builtin "sum") (by first | rfl | decide +kernel) ?_ (by first | decide +kernel | decide) (by first | decide +kernel | decide))
  rw [hse]
  refine PySem.callWith_builtin1 (wpAny_Call_method0_late hbase hline (thn (hd.run pins s σ H _ I h) fun v s1 ⟨x, H1, I1, r1, a, kvs, is, ex, ha, hv, q⟩ => ?_))
  subst ex
  obtain rfl : v = Value.ref a := r1
  obtain ⟨_, hsys, vs, rel, dof⟩ := dk_of I1.hok ha
  obtain ⟨ep, dat⟩ := dof.dictAt
  have dat' := dat
  obtain ⟨ob, es, ho, ex, hdat, hko, hpr, hnd⟩ := dat'
  refine ⟨"dict", "dict.values", F.plainAttrs_dict, F.slot_dict_values, F.type_dict_values, ⟨ob, ho, ex.1⟩, fun b e => ?_, Calls.callWith_builtin rfl (PySem.evalArgs_none ?_)⟩
  · cases e
    exact ⟨ob, ho, ex.2.1⟩
  refine call_meetsIn F.slot_dict_values ⟨ob, ho, ex.1⟩ F.entry_dict_values (F.args_dict_values_1 _) (meets_dict_values (mixKind X.prog X.w) a hsys) ⟨⟨vs, dof⟩, ?_⟩
  have k1 : ∀ b u, s1.heap.get? b = some u → (s1.heap.push { cls := .type "dict_values", data := .fields #[.ref a] }).get? b = some u := fun b u e => Heap.get?_push_of_some _ e
  have dat1 : (s1.heap.push { cls := .type "dict_values", data := .fields #[.ref a] }).DictAt (mixKind X.prog X.w) a vs ep := dat.keep k1
  have hlv : vs.length = is.length := by
    have e1 := congrArg List.length hv
    rw [List.length_map, List.length_map] at e1
    rw [← e1]
    exact (KV.length rel).symm
  have hval : ∀ (i : Nat) (v : Value), (∃ k, vs[i]? = some (k, v)) → ∃ t, v = Value.int (is.getD i 0) t := fun i v ⟨k, hk⟩ => by
    obtain ⟨x, h1, h2⟩ := KV.at' rel hk
    have e1 : (kvs.map (·.2))[i]? = some x := by rw [List.getElem?_map, h1] <;> rfl
    rw [hv, List.getElem?_map] at e1
    obtain ⟨j, hj, e2⟩ := Option.map_eq_some_iff.mp e1
    subst e2
    obtain ⟨t, e3⟩ := h2
    refine ⟨t, ?_⟩
    rw [e3, List.getD_eq_getElem?_getD, hj] <;> rfl
  refine call_sum_walkG (wpAny_pyIter_values (v := s1.heap.objs.size) (d := a) ⟨_, Heap.get?_push_size _ rfl, rfl, rfl⟩ dat1 ?_)
  have hlt : a < s1.heap.objs.size := Heap.lt_size ho
  have hsz : (s1.heap.push { cls := .type "dict_values", data := .fields #[.ref a] }).objs.size = s1.heap.objs.size + 1 := Heap.size_push _ _
  refine ⟨_, _, _, _, _, _, fun i => is.getD i 0, rfl, Walks.dictValues (knd := mixKind X.prog X.w) (A := X.A.in1) (I.ok.hd hc) (s1.heap.push { cls := .type "dict_values", data := .fields #[.ref a] }).objs.size a (by rw [hsz]; exact Nat.ne_of_lt (Nat.lt_succ_of_lt hlt)) vs ep,
    ⟨⟨_, Heap.get?_push_size _ rfl, rfl, rfl⟩, dat1.keep fun b u e => Heap.get?_push_of_some _ e⟩, fun b hb => ?_, hval, fun h' tk t' hk => ?_⟩
  · show b < ((s1.heap.push _).push _).objs.size
    rw [Heap.size_push, Heap.size_push]
    rw [hsz] at hb
    rcases List.mem_cons.mp hb with e | hb
    · rw [e]
      exact Nat.lt_succ_self _
    · have e : b = a := List.mem_singleton.mp hb
      rw [e]
      exact Nat.lt_succ_of_lt (Nat.lt_succ_of_lt hlt)
  · rw [preSum_list, hlv, List.take_length]
    refine ⟨.int _, H1, I1.kept (t' := tk) fun b u e => hk b u (fun hmem => ?_) (Heap.get?_push_of_some _ (k1 b u e)), ⟨t', rfl⟩, q⟩
    have e1 : b = (s1.heap.push { cls := .type "dict_values", data := .fields #[.ref a] }).objs.size := List.mem_singleton.mp hmem
    have e2 := Heap.lt_size e
    rw [hsz] at e1
    rw [e1] at e2
    exact absurd e2 (Nat.not_lt.mpr (Nat.le_succ _))
end
/-- a dict by a comprehension, over any walk -/
theorem dc_it {J : It} {n : Nat} {G : Hp → Prop} {Y : Nat → Hp → V → Hp → Prop} (w : Walk J n G Y) {g : TG} {tt : TT} {tk tv : TE} {vs : List Nat} {σ : St} {H1 : Hp} {D : Addr} {Qd : Hp → Prop} (Pv : Nat → Hp → Prop) (h0 : Pv 0 (upd H1 D (.dK []))) (hG : ∀ i H, i ≤ n → Pv i H → G H)
    (hs : ∀ i x H H', i < n → Pv i H → Y i H x H' → g x (wipe σ vs) H' fun σ2 H2 => wipe σ2 vs = wipe σ vs ∧ tt σ2 H2 fun b H3 =>
      if b = true then tk σ2 H3 fun y H4 => tv σ2 H4 fun z H5 => ∃ kvs k, y = kV k ∧ H5 D = some (.dK kvs) ∧ kvs.length < sizeLine ∧ Pv (i + 1) (upd H5 D (.dK (putK kvs k z))) else Pv (i + 1) H3) (hd : ∀ H, Pv n H → Qd H) :
    ∃ W : Nat → Nat → Hp → Prop, (∃ m, W 0 m (upd H1 D (.dK []))) ∧ ∀ i m H, W i m H →
      (J.stop i H ∧ Qd H) ∨ (J.go i H ∧ ∃ Nx : Hp → Prop, (∀ H', Nx H' → ∃ m', m' < m ∧ W (i + 1) m' H') ∧ ∀ x H', J.yld i H x H' → g x (wipe σ vs) H' fun σ2 H2 => wipe σ2 vs = wipe σ vs ∧ tt σ2 H2 fun b H3 =>
        if b = true then tk σ2 H3 fun y H4 => tv σ2 H4 fun z H5 => ∃ kvs k, y = kV k ∧ H5 D = some (.dK kvs) ∧ kvs.length < sizeLine ∧ Nx (upd H5 D (.dK (putK kvs k z))) else Nx H3) := by
  refine ⟨fun i m H => m = n - i ∧ i ≤ n ∧ Pv i H, ⟨n, by simp, Nat.zero_le _, h0⟩, ?_⟩
  rintro i m H ⟨rfl, hi, p⟩
  have q := hG i H hi p
  by_cases hlt : i < n
  · refine .inr ⟨w.goes i H hlt q, Pv (i + 1), fun H' p' => ⟨n - (i + 1), by omega, rfl, hlt, p'⟩, fun x H' y => hs i x H H' hlt p (w.yields i H x H' hlt q y)⟩
  · have e : i = n := by omega
    subst e
    exact .inl ⟨w.stops H q, hd H p⟩
/-- what stays while a thing is locked stays behind -/
theorem same_lock {H H' : Hp} {d : Addr} {u v : HO} (h : H d = some u) (s : Same (upd H d v) H') : Same H (upd H' d u) := fun b o e => by
  by_cases hb : b = d
  · subst hb
    rw [upd_same, ← h, e]
  · rw [upd_ne hb]
    exact s b o (by rw [upd_ne hb]; exact e)
theorem ite_b {b c : Bool} {A B : Prop} (h : b = c) (k : if c = true then A else B) : if b = true then A else B := h ▸ k
/-- set(xs), xs a list or a tuple of whole numbers -/
def rSetSq (K : PySem.W.Frag) (w : World) : List V → Hp → VK → Prop := fun xs H Q => ∃ (l : Addr) (ns : List Int), xs = [V.ref l] ∧ (SqL K H l (ns.map V.int) ∨ SqT K H l (ns.map V.int)) ∧ ns.length ≤ 1000 ∧ ∀ p n, n ≤ ns.length → H p = none → Q (.ref p) (upd H p (SetO w p (fun j => decide (j ∈ ns)) n))
theorem cr_setSq {X : Cx} (hc : X.calm = true) : CallR X (.type "set") (rSetSq X.K X.w) := by
  intro pins s σ H vs us Q I rv ⟨l, ns, e, h, hl, q⟩
  rcases h with h | h
  · exact cr_setLI hc pins s σ H vs us Q I rv ⟨l, ns, e, h, hl, q⟩
  · exact cr_setTI hc pins s σ H vs us Q I rv ⟨l, ns, e, h, hl, q⟩
end L2

set_option Elab.async false
set_option linter.all false
set_option maxRecDepth 100000
set_option maxHeartbeats 2000000
/-! own rules: tuples of which it is known that they have no dict of their own: their methods -/
namespace L2
open PySem PySem.Spec PyProof.Rows L2
/-- a tuple that was made by tuple(..), with the object that it is -/
def TupF (H : Hp) (a : Addr) (xs : List V) : Prop := ∃ o : Obj, H a = some (.frz o (.tup xs)) ∧ o.dict = none
theorem TupF.same {H H' : Hp} {a : Addr} {xs : List V} (h : TupF H a xs) (s : Same H H') : TupF H' a xs := let ⟨o, e, d⟩ := h; ⟨o, s _ _ e, d⟩
theorem TupF.sq {K : PySem.W.Frag} {H : Hp} {a : Addr} {xs : List V} (h : TupF H a xs) : SqT K H a xs := let ⟨o, e, _⟩ := h; .inl (.inr ⟨o, e⟩)
section
variable {X : Cx}
/-- tuple(xs) of a list; of such a tuple itself -/
def rTupF (K : PySem.W.Frag) : List V → Hp → VK → Prop := fun xs H Q => ∃ p ys, xs = [V.ref p] ∧ ((SqL K H p ys ∧ ∀ l o, H l = none → o.dict = none → Q (.ref l) (upd H l (.frz o (.tup ys)))) ∨ (SqT K H p ys ∧ Q (.ref p) H))
theorem call_tupF : CallR X (.type "tuple") (rTupF X.K) := by
  intro pins s σ H xs us Q I r h
  obtain ⟨p, ys, rfl, h⟩ := h
  rcases h with ⟨hq, q⟩ | ⟨hq, q⟩
  · obtain ⟨u, rfl, rx⟩ := vals1 r
    cases rx
    obtain ⟨its, r', pl, hz⟩ := I.list hq
    have hlen := r'.length
    refine call_tuple_list pl.isList (fun h' kp => ?_) (by simp only [List.size_toArray] <;> omega)
    have I1 : Inv X pins σ H { s with heap := h' } := I.kept (t' := s.toks) kp
    have I2 : Inv X pins σ (upd H h'.objs.size (.frz { cls := .type "tuple", data := .seq its.toArray } (.tup ys))) { s with heap := h'.push { cls := .type "tuple", data := .seq its.toArray } } :=
      I1.laid (t' := s.toks) (fun b o e => Heap.get?_push_of_some _ e) (Nat.le_refl _) (show ObjOk X.prog X.w _ _ _ (.frz _ (.tup ys)) from ⟨Heap.get?_push_size _ rfl, hz, its, r', IsTup.new _ _⟩)
    exact ⟨.ref h'.objs.size, _, I2, rfl, q _ _ (I1.hok.fresh (Nat.le_refl _)) rfl⟩
  · exact call_tuple_of pins s σ H _ us Q I r ⟨p, ys, rfl, .inr ⟨hq, q⟩⟩
def tBMF (r : V → List V → Hp → VK → Prop) (to : TE) (t : TA) : TE := fun σ H Q => to σ H fun x H1 => (∃ a xs, x = .ref a ∧ TupF H1 a xs) ∧ t σ H1 fun xs H2 => r x xs H2 Q
variable {o e : Expr} {es : List Expr} {to : TE} {t : TA} {name : Str} {apos cpos : Pos} {T id : String} {r : V → List V → Hp → VK → Prop}
theorem pe_bmF (slot : Slot "tuple" name id) (hty : typeOf (.builtin id) = pure (.type "method_descriptor")) (hm : MtR X id r) (ho : PE X o to) (ha : PA X (e :: es) t)
    (hbase : attributeBase o name X.env (eval o X.env) = eval o X.env := by rfl)
    (hfew : ((backTo cpos (starEach (e :: es) X.env)).all (fun x => !x.1) && (backToKw cpos (keywordEach [] X.env)).all (fun x => x.1.isSome)
      && decide ((e :: es).length + ([] : List Keyword).length + (if ([] : List Keyword).isEmpty then 0 else 1) < 30)) = true := by rfl)
    (hline : (apos.endLine == cpos.line) = true := by rfl) (hs : starEach (e :: es) X.env = (false, eval e X.env) :: starEach es X.env := by rfl) (hplain : (backTo cpos (starEach es X.env)).any (·.1) = false := by rfl) :
    PE X (.Call (.Attribute o name apos) (e :: es) [] cpos) (tBMF r to t) := by
  refine ⟨fun pins s σ H Q I h => ?_⟩
  refine wpAny_Call_method_late hbase hfew hline rfl (thn (ho.run pins s σ H _ I h) fun v s1 ⟨x, H1, I1, r1, ty, q1⟩ => ?_)
  obtain ⟨a, xs, rfl, oo, ho2, hd⟩ := ty
  cases r1
  obtain ⟨g1, g2⟩ := I1.hok a _ ho2
  obtain ⟨hz, its, rv, hit⟩ := g2
  obtain ⟨o2, e2, hc, n2, hdat⟩ := hit
  rw [g1] at e2
  cases e2
  refine ⟨"tuple", id, F.plainAttrs_tuple, slot, hty, ⟨_, g1, hc⟩, fun b eb => ?_, ?_⟩
  · cases eb
    exact ⟨_, g1, hd⟩
  have hA := ha.run cpos pins s1 σ H1 _ I1 q1
  rw [hs] at hA ⊢
  refine Calls.callWith_builtin (by show (false || (backTo cpos (starEach es X.env)).any (·.1)) = false; rw [hplain] <;> rfl) (Calls.evalArgs_plain ?_)
  exact thn hA fun us s2 ⟨vs, H2, I2, r2, q2⟩ => hm pins s2 σ H2 (.ref a) vs _ us Q I2 (show RelV (.ref a) (Value.ref a) from rfl) r2 q2
theorem lay_ints : ∀ ns : List Int, PyData.canLayAll0 (ns.map PyData.int) = true
  | [] => rfl
  | n :: ns => by
    rw [List.map_cons, PyData.canLayAll0, lay_ints ns]
    rfl
/-- t.index(k), whole numbers, k there -/
def rIndexT (K : PySem.W.Frag) : V → List V → Hp → VK → Prop := fun x vs H Q => ∃ (a : Addr) (ns : List Int) (k : Int) (j : Nat), x = .ref a ∧ vs = [.int k] ∧ SqT K H a (ns.map V.int) ∧ ns[j]? = some k ∧ (∀ m, m < j → ns[m]? ≠ some k) ∧ Q (.int (j : Nat)) H
theorem mt_indexTI (hu : X.A.units + 65 < cLine) : MtR X "tuple.index" (rIndexT X.K) := by
  intro pins s σ H x xs v us Q I rx rxs h
  obtain ⟨a, ns, k, j, rfl, rfl, hl, hj, hno, q⟩ := h
  cases rx
  cases rxs with
  | cons ry rt =>
    rename_i uy ut
    cases rt
    obtain ⟨its, rv, pl, hlen⟩ := I.tuple hl
    obtain ⟨as, h4⟩ := Dp.readsAll I (ns.map PyData.int) _ its (dpAll_ints _ _ ns) rv
    obtain ⟨bs, r1⟩ := Dp.reads I (.int k) _ uy (.int k) ry
    have hjl := (List.getElem?_eq_some_iff.mp hj).1
    have hvl := rv.length
    rw [List.length_map] at hvl hlen
    obtain ⟨⟨cls, dd, data, sl⟩, ho, hc, n, hd'⟩ := id pl
    simp only at hc hd'
    subst hc hd'
    have hxs : PyData.canLayAll0 (ns.map PyData.int) = true := lay_ints ns
    have hmap : its.map (SeqAt.readOf s.heap) = ns.map PyData.int := SeqAt.readsAll_map _ its as hxs h4
    have at_ : ∀ (m : Nat) (hm : m < its.toArray.size) (z : Int), ns[m]? = some z → SeqAt.readOf s.heap its.toArray[m] = .int z := by
      intro m hm z hz
      have hml : m < its.length := by simpa using hm
      have e1 : (its.map (SeqAt.readOf s.heap))[m]? = some (.int z) := by rw [hmap, List.getElem?_map, hz]; rfl
      rw [List.getElem?_map, List.getElem?_eq_getElem hml] at e1
      have e2 : SeqAt.readOf s.heap its[m] = .int z := Option.some.inj e1
      simpa using e2
    have hj2 : j < its.toArray.size := by simp only [List.size_toArray]; omega
    refine call_meets F.slot_tuple_index ⟨_, ho, rfl⟩ F.entry_tuple_index (F.args_tuple_index_2 _ _)
      (TI.tuple_indexAt a its.toArray n dd sl uy (fun u => PyData.eqv (SeqAt.readOf s.heap u) (.int k)) j hj2 ?_ ?_) ⟨ho, SeqAt.items_eqAt (vs := its.toArray) (show ReadsAll s.heap its.toArray.toList (ns.map PyData.int) as from h4) r1 hxs rfl (Nat.lt_of_le_of_lt (Nat.add_le_add_left (Nat.min_le_right _ _) _) (by simp only [PyData.depth]; omega)), ?_⟩
    · show PyData.eqv (SeqAt.readOf s.heap its.toArray[j]) (.int k) = true
      rw [at_ j hj2 k hj]
      show (k == k) = true
      exact beq_self_eq_true k
    · intro m hm hmj
      have hmn : m < ns.length := by simp only [List.size_toArray] at hm; omega
      have hz : ns[m]? = some ns[m] := List.getElem?_eq_getElem hmn
      show PyData.eqv (SeqAt.readOf s.heap its.toArray[m]) (.int k) = false
      rw [at_ m hm _ hz]
      show (ns[m] == k) = false
      exact beq_eq_false_iff_ne.mpr fun z => hno m hmj (by rw [hz, z])
    · exact ⟨.int (j : Nat), H, I.tok _, ⟨_, rfl⟩, q⟩
/-- x.count(y), two names, x a list or a known tuple of whole numbers -/
def tCnt (K : PySem.W.Frag) (i j : Nat) : TE := fun σ H Q => ∃ (a : Addr) (ns : List Int) (k : Int), σ[i]? = some (some (.ref a)) ∧ σ[j]? = some (some (.int k)) ∧ (SqL K H a (ns.map V.int) ∨ TupF H a (ns.map V.int)) ∧ Q (.int (ns.count k : Nat)) H
theorem pe_cnt {e : Expr} {i j : Nat} (h1 : PE X e (tBM X.K "list" (rCountL X.K) (tVar i) (tCons (tVar j) tNil))) (h2 : PE X e (tBMF (rCountT X.K) (tVar i) (tCons (tVar j) tNil))) : PE X e (tCnt X.K i j) := by
  refine ⟨fun pins s σ H Q I h => ?_⟩
  obtain ⟨a, ns, k, e1, e2, h, q⟩ := h
  rcases h with h | h
  · exact h1.run pins s σ H Q I ⟨_, e1, .inl ⟨rfl, _, h⟩, _, e2, a, ns, k, rfl, rfl, h, q⟩
  · exact h2.run pins s σ H Q I ⟨_, e1, ⟨a, _, rfl, h⟩, _, e2, a, ns, k, rfl, rfl, h.sq, q⟩
end
/-- two promises of one def -/
theorem FnOk.or {P : Program} {w : World} {K : PySem.W.Frag} {mg : Str → Option Value} {base : Heap} {CX : CXT} {k : Nat} {f : Addr} {fd : FuncData} {ps : List Str} {s1 s2 : Sp} (F1 : FnOk P w K mg base CX k f fd ps s1) (F2 : FnOk P w K mg base CX k f fd ps s2) :
    FnOk P w K mg base CX k f fd ps (fun vs H Q E => s1 vs H Q E ∨ s2 vs H Q E) := by
  refine ⟨fun vs H Q E h => h.elim (F1.len vs H Q E) (F2.len vs H Q E), ?_⟩
  intro A outer s H args us vs Q E hr e b
  have h1 := F1.run A outer s H args us vs Q E hr e b
  have h2 := F2.run A outer s H args us vs Q E hr e b
  intros
  first
    | (rename_i h; exact h.elim (fun z => h1 (by assumption) z) (fun z => h2 (by assumption) z))
    | (rename_i h; exact h.elim h1 h2)
end L2

set_option Elab.async false
set_option linter.all false
set_option maxRecDepth 100000
set_option maxHeartbeats 2000000
/-! own rules: tuple(xs), xs a list or a tuple, in one reading -/
namespace L2
open PySem PySem.Spec PyProof.Rows L2
def rTupU : List V → Hp → VK → Prop := fun xs H Q => ∃ p ys, xs = [V.ref p] ∧ (H p = some (.lst ys) ∨ H p = some (.tup ys)) ∧ ∀ t H', Same H H' → H' t = some (.tup ys) → Q (.ref t) H'
theorem call_tupU {X : Cx} : CallR X (.type "tuple") rTupU := by
  intro pins s σ H xs us Q I r ⟨p, ys, e, h, q⟩
  rcases h with h | h
  · exact call_tuple_of pins s σ H xs us Q I r ⟨p, ys, e, .inl ⟨SqL.of h, fun l nl => q l _ (fun b o e => by rw [upd_ne (ne_of_none e nl)]; exact e) upd_same⟩⟩
  · exact call_tuple_of pins s σ H xs us Q I r ⟨p, ys, e, .inr ⟨SqT.of h, q p H (Same.refl _) h⟩⟩
def rCatU : R2 := fun x y H Q => ∃ a b xs ys, x = .ref a ∧ y = .ref b ∧ H a = some (.tup xs) ∧ H b = some (.tup ys) ∧ xs.length + ys.length ≤ sizeLine ∧ ∀ t H', Same H H' → H' t = some (.tup (xs ++ ys)) → Q (.ref t) H'
theorem op_catU {X : Cx} : OpR X (binaryOp .Add) rCatU := by
  intro pins s σ H x y v u Q I rx ry h
  obtain ⟨a, b, xs, ys, ex, ey, ha, hb, hz, q⟩ := h
  refine op_catA pins s σ H x y v u Q I rx ry ⟨a, b, xs, ys, ex, ey, SqT.of ha, SqT.of hb, hz, fun e => ?_, fun _ e => ?_, fun _ _ p np => q p _ (fun b o e => by rw [upd_ne (ne_of_none e np)]; exact e) upd_same⟩
  · exact q b H (fun _ _ e => e) (by rw [e]; exact hb)
  · exact q a H (fun _ _ e => e) (by rw [e, List.append_nil]; exact ha)
def rSlU : V → Option Int → Option Int → Hp → VK → Prop := fun x lo hi H Q => ∃ a xs, x = .ref a ∧ H a = some (.tup xs) ∧ ∀ (p : Addr) (H' : Hp), Same H H' → H' p = some (.tup (cutV xs lo hi)) → Q (.ref p) H'
theorem sl_tupU {X : Cx} : SlR X rSlU := by
  intro pins s σ H x v vl vu lo hi sl Q I rx hs pl pu h
  obtain ⟨a, xs, ex, hx, q⟩ := h
  refine sl_tupA pins s σ H x v vl vu lo hi sl Q I rx hs pl pu ⟨a, xs, ex, SqT.of hx, fun y => ?_, fun _ p np => q p _ (fun b o e => by rw [upd_ne (ne_of_none e np)]; exact e) upd_same⟩
  refine q a H (fun _ _ e => e) ?_
  have : cutV xs lo hi = xs := by
    unfold cutV
    rw [y.1, y.2, List.drop_zero, Nat.sub_zero, List.take_length]
  rw [this]
  exact hx
end L2
namespace Tw
open PySem PySem.Spec PyProof.Rows L2 PySem.W
section
variable {X : Cx} {CX : CXT} {k : Nat} {f C D : Addr} {fd : FuncData} {ps : List Str} {sp : Sp} {E : XK}
theorem op_eq_two (c : EqC X.K C f) (hd : PySem.W.notFirst X.K C (.ref D) = true) (F : FnOk X.prog X.w X.K X.mg X.base CX k f fd ps sp) (hr : Room k X.A) (hb : Binds X.K fd ps []) (hx : Passes CX X E) : OpR X (compareOp .Eq) (fun x y H Q =>
  ∃ a dx fs b dy gs, x = .ref a ∧ H a = some (.ins C dx fs) ∧ y = .ref b ∧ H b = some (.ins D dy gs) ∧ sp [.ref a, y] H (fun v H' => ∃ r, v = .bl r ∧ Q (.bl r) H') E) := by
  intro pins s σ H x y v u Q I rx ry ⟨a, dx, fs, b, dy, gs, ex, ha, ey, hb2, q⟩
  subst ex
  subst ey
  obtain rfl : v = Value.ref a := rx
  obtain rfl : u = Value.ref b := ry
  obtain ⟨mA, O, rr, _, _, _⟩ := ins_get I.hok ha
  obtain ⟨od, J, hl⟩ := O.look
  obtain ⟨mB, OB, rrB, _, _, _⟩ := ins_get I.hok hb2
  obtain ⟨odB, JB, hlB⟩ := OB.look
  obtain ⟨m0, hF⟩ := I.fr
  show wpAny _ _ (richCompare .Eq (.ref a) (.ref b)) _ _ _
  refine cmp_K hr.units0 hF I.ok.mod.kin J JB.type hd c.eq c.fn (thn (run_sub F ⟨hr, rfl⟩ hb hx I (.cons (relR a) (.cons (relR b) .nil)) q) fun r s' ⟨z, H', I', rz, b2, ez, q'⟩ => ?_)
  subst ez
  obtain rfl : r = Value.bool b2 := rz
  exact ⟨_, H', I', relB b2, q'⟩
end
end Tw

set_option Elab.async false
set_option linter.all false
set_option maxRecDepth 100000
set_option maxHeartbeats 2000000
/-! own rules: min(xs, key=lambda x: ys[x]), ys a tuple, a name of the def; t[::-1], t a tuple -/
namespace Cl
open PySem PySem.Spec PyProof.Rows L2 LamX
theorem tuple_getitem_lookup : typeLookup (Value.type "tuple") (Str.ofString "__getitem__") = pure (some (Value.builtin "tuple.__getitem__")) := rfl
section
variable {prog : Program} {w : World} {A : Around} {E : Value → Shared → Prop} {s : Shared}
theorem seqT {i : Int} {vs : List Value} {u : Value} (h0 : 0 ≤ i) (h : vs[i.toNat]? = some u) : seqIndex? i vs.toArray.size = some i.toNat := by
  have hl := (List.getElem?_eq_some_iff.mp h).1
  unfold seqIndex?
  have e : vs.toArray.size = vs.length := by simp
  rw [e, if_neg (show ¬ i < 0 by omega)]
  show (if (decide (0 ≤ i) && decide (i < (vs.length : Int))) = true then some i.toNat else none) = _
  rw [decide_eq_true h0, decide_eq_true (show i < (vs.length : Int) by omega)]
  rfl
/-- lambda x: y[x], called with an int -/
theorem lam_ixT {f l c' ck : Addr} {q x y : Str} {params : Arguments} {p1 p2 p3 : Pos} {scope : Scope} {cl : List (Str × Addr)} {pm ctv u : Value} {vs : List Value} {i : Int} {t : Tok} {Q : Value → Shared → Prop}
    (S : LSc scope x y) (hd : A.depth < recursionLimit) (hf : s.heap.get? f = some (PySem.W.kla_obj "<lambda>" q params (.Subscript (.Name y p1) (.Name x p2) p3) scope cl pm c' ctv))
    (hbind : ∀ v : Value, bindArgs (PySem.W.kla_fn "<lambda>" q params (.Subscript (.Name y p1) (.Name x p2) p3) scope cl pm (.ref c') ctv) ⟨[v], []⟩ = pure [(x, v)])
    (hcode : ∃ (oc : Obj) (us : Array Value) (tk : Tok), s.heap.get? c' = some oc ∧ oc.data = .fields us ∧ us[1]? = some (.str q tk)) (hlim : s.heap.NoLimit)
    (hck : cl.lookup y = some ck) (hcell : s.heap.IsCell ck (some (.ref l))) (hl : IsTup s.heap l vs.toArray) (h0 : 0 ≤ i) (h1 : i < 2 ^ 63) (hi : vs[i.toNat]? = some u)
    (hdx : (x == ("__debug__" : Str)) = false) (hdy : (y == ("__debug__" : Str)) = false) (hcy : (y == ("__classdict__" : Str)) = false)
    (h : ∀ h' tk, s.toks ≤ tk → (∀ b o, s.heap.get? b = some o → h'.get? b = some o) → Q u { s with heap := h', toks := tk }) : wpAny (model prog w) A (call (.ref f) [.int i t]) Q E s := by
  obtain ⟨oc, us, tq, hoc, hdc, hvc⟩ := hcode
  refine wpAny_call (PySem.W.kla_callFunE hd hf rfl S.co S.gen rfl ⟨c', oc, us, tq, rfl, hoc, hdc, hvc⟩ ?_)
  rw [hbind]
  refine wpAny_pure (wpAny_newFunctionEnv S.nocell (fun z hz => by rw [List.mem_singleton.mp hz]; exact S.px) (fun h₁ hns hsb => ⟨hlim.fresh _ hsb, ?_⟩) S.kind)
  have kp : ∀ b o, s.heap.get? b = some o → h₁.get? b = some o := fun b o e => hsb.extBut b o (Nat.ne_of_lt (Heap.lt_size e)) (Heap.get?_push_of_some _ e)
  refine PySem.W.kla_codeExpr ?_
  refine wpAny_Subscript_Name tuple_getitem_lookup ?_
  refine wpAny_Name (wpAny_loadName_free S.kind S.fy hck (hcell.keeps kp) ?_ hcy) hdy
  refine wpAny_Name (wpAny_loadName_local S.kind S.px hns (v := .int i t) ?_ ?_) hdx
  · simp [List.lookup]
  · have hl' : IsTup h₁ l vs.toArray := hl.keeps kp
    refine ⟨hl'.typeIs, getItem_tuple hl' (by omega) h1 (j := i.toNat) (seqT h0 hi) (by simpa using hi) ?_⟩
    exact h h₁ _ (by show s.toks ≤ s.toks + _; omega) kp
/-- what a lambda x: y[x] is, and what it reads -/
structure LamAtT (h : Heap) (f : Addr) (x y : Str) (q : Str) (params : Arguments) (p1 p2 p3 : Pos) (scope : Scope) (cl : List (Str × Addr)) (pm ctv : Value) (c' ck l : Addr) (us : List Value) : Prop where
  fn : h.get? f = some (PySem.W.kla_obj "<lambda>" q params (.Subscript (.Name y p1) (.Name x p2) p3) scope cl pm c' ctv)
  code : ∃ (oc : Obj) (us : Array Value) (tk : Tok), h.get? c' = some oc ∧ oc.data = .fields us ∧ us[1]? = some (.str q tk)
  lim : h.NoLimit
  hck : cl.lookup y = some ck
  cell : h.IsCell ck (some (.ref l))
  lst : IsTup h l us.toArray
theorem LamAtT.keeps {h h' : Heap} {f : Addr} {x y : Str} {q : Str} {params : Arguments} {p1 p2 p3 : Pos} {scope : Scope} {cl : List (Str × Addr)} {pm ctv : Value} {c' ck l : Addr} {us : List Value}
    (L : LamAtT h f x y q params p1 p2 p3 scope cl pm ctv c' ck l us) (k : ∀ b o, h.get? b = some o → h'.get? b = some o) : LamAtT h' f x y q params p1 p2 p3 scope cl pm ctv c' ck l us :=
  ⟨k _ _ L.fn, let ⟨oc, us, tk, a, b, c⟩ := L.code; ⟨oc, us, tk, k _ _ a, b, c⟩, L.lim.keeps k, L.hck, L.cell.keeps k, L.lst.keeps k⟩
theorem min_lamT {f a l c' ck : Addr} {q x y : Str} {params : Arguments} {p1 p2 p3 : Pos} {scope : Scope} {cl : List (Str × Addr)} {pm ctv : Value} {cs us : List Value} {ns : Nat → Int} {kf : Nat → Int} {Q : Value → Shared → Prop}
    (hh : A.handled = none) (S : LSc scope x y) (hd : A.depth < recursionLimit) (L : LamAtT s.heap f x y q params p1 p2 p3 scope cl pm ctv c' ck l us)
    (hbind : ∀ v : Value, bindArgs (PySem.W.kla_fn "<lambda>" q params (.Subscript (.Name y p1) (.Name x p2) p3) scope cl pm (.ref c') ctv) ⟨[v], []⟩ = pure [(x, v)])
    (hdx : (x == ("__debug__" : Str)) = false) (hdy : (y == ("__debug__" : Str)) = false) (hcy : (y == ("__classdict__" : Str)) = false)
    (ht : s.heap.IsTuple a cs.toArray) (hc : ∀ i, i < cs.length → ∃ t, cs[i]? = some (.int (ns i) t)) (hne : 0 < cs.length)
    (hk : ∀ i, i < cs.length → 0 ≤ ns i ∧ ns i < 2 ^ 63 ∧ ∃ t, us[(ns i).toNat]? = some (.int (kf i) t))
    (h : ∀ v h' tk, cs[argBest (fun i j => decide (kf i < kf j)) (cs.length - 1)]? = some v → (∀ b o, s.heap.get? b = some o → h'.get? b = some o) → Q v { s with heap := h', toks := tk }) :
    wpAny (model prog w) A (call (.builtin "min") [.ref a] [(Str.ofString "key", .ref f)]) Q E s := by
  have hd1 : A.in1.depth < recursionLimit := hd
  refine call_min_walkK (PySem.W.iter_tupleW (A := A.in1) hh ht fun s₂ e2 W st hfp hfr kp2 => ?_)
  have sz2 : s.heap.objs.size < s₂.heap.objs.size := hfp _ List.mem_cons_self
  have old : ∀ {s' : Shared}, Moved [s₂.heap.objs.size, s.heap.objs.size] (fun a b => b = a) s₂ s' → ∀ b o, s.heap.get? b = some o → s'.heap.get? b = some o := fun {s'} m b o e => by
    have lt := Heap.lt_size e
    refine m.heap b o (fun hm => ?_) (kp2 b o e)
    rcases List.mem_cons.mp hm with z | hm
    · rw [z] at lt
      exact Nat.lt_irrefl _ (Nat.lt_trans lt sz2)
    · rw [List.mem_singleton.mp hm] at lt
      exact Nat.lt_irrefl _ lt
  have szc : cs.toArray.size = cs.length := by simp
  refine ⟨s.heap.objs.size, [s.heap.objs.size, a], [s.heap.objs.size], (fun a b => b = a), cs.toArray.size, _, _, fun s' => Moved [s₂.heap.objs.size, s.heap.objs.size] (fun a b => b = a) s₂ s', fun i k _ => ∃ t, k = .int (kf i) t, fun i j => decide (kf i < kf j), rfl, W, st, hfp, by rw [szc]; exact hne, ⟨?_, ?_, ?_, ?_⟩, Moved.refl fun _ => rfl, ?_⟩
  · exact fun s1 s' J m => J.trans (fun _ _ _ h1 h2 => h2.trans h1) m
  · exact fun i k s1 s' v _ => v
  · intro i v s1 o Q' E' hi hP J stI hS cont
    rw [szc] at hi
    obtain ⟨t, ec⟩ := hc i hi
    have ev : v = .int (ns i) t := by
      have hP' : cs[i]? = some v := by simpa using hP
      rw [ec] at hP'
      exact (Option.some.inj hP').symm
    subst ev
    obtain ⟨h0, h1, tk, eu⟩ := hk i hi
    have L1 := L.keeps (old J)
    refine lam_ixT S hd1 L1.fn hbind L1.code L1.lim L1.hck L1.cell L1.lst h0 h1 eu hdx hdy hcy fun h' tk' hle kp => ?_
    exact cont _ _ (J.then_heap hle fun b o _ e => kp b o e) (W.frame _ s1 h' tk' stI hle fun b _ o e => kp b o e) (kp _ _ hS) ⟨_, rfl⟩ fun j k' z => z
  · intro i j ki kj s1 Q' E' J vi vj q
    exact CmpOf.ints_lt (prog := prog) (w := w) (A := A.in1) (P := fun i v => ∃ t, v = .int (kf i) t) kf (fun i v h => h) i j ki kj s1 Q' E' vi vj q
  · intro v s' hP J
    rw [szc] at hP
    have hP' : cs[argBest (fun i j => decide (kf i < kf j)) (cs.length - 1)]? = some v := by simpa using hP
    have e : s' = { s with heap := s'.heap, toks := s'.toks } := by
      obtain ⟨hp, g, d, tk, os⟩ := s'
      subst e2
      have h1 : g = s.gens := J.gens
      have h2 : d = s.drawn := J.drawn
      have h3 : os = s.os := J.os
      subst h1 h2 h3
      rfl
    rw [e]
    exact h v s'.heap s'.toks hP' (old J)
end
section
variable {X : Cx}
def tMinLamT (K : PySem.W.Frag) (T : List (Addr × Str)) (j : Nat) (te : TE) : TE := fun σ H Q => te σ H fun v H1 => ∃ (a l : Addr) (ns ks : List Int), v = .ref a ∧ SqT K H1 a (ns.map V.int) ∧ σ[j]? = some (some (.ref l)) ∧ SqT K H1 l (ks.map V.int) ∧ 0 < ns.length ∧ (∀ n ∈ ns, 0 ≤ n ∧ n < ks.length) ∧
  Tabs T H1 ∧ ∀ (m : Int) (H2 : Hp), ExtN H1 H2 → Tabs T H2 → LeastAt ks ns m → Q (.int m) H2
/-- min(e, key=lambda x: y[x]), y a name of the def that it shares with the lambda -/
theorem pe_minlamT {T : List (Addr × Str)} {c P : Addr} {p p1 p2 p3 lpos kpos pos : Pos} {e : Expr} {te : TE} {x y : Str} {j : Nat} {params : Arguments} {scope : Scope}
    (hg : Gl X "min") (hm : X.mg "min" = none) (he : PE X e te) (hd : X.A.depth < recursionLimit) (hh : X.A.handled = none) (TB : TabB X.base X.mg c P) (hcode : X.env.code = .ref c) (hmT : (P, X.env.qual ++ "<lambda>") ∈ T)
    (hu : ∀ q ∈ T, q.1 = P → q.2 = X.env.qual ++ "<lambda>") (S : LSc scope x y) (hfy : X.env.scope.names.lookup y = some .cell) (hfr : ∀ z ∈ scope.names, z.2 = .free → z.1 = y) (hN : X.N[j]? = some y) (hdef : defaultsOf params X.env = ([], []))
    (hbind : ∀ (q : Str) (cl : List (Str × Addr)) (pm cv ctv v : Value), bindArgs (PySem.W.kla_fn "<lambda>" q params (.Subscript (.Name y p1) (.Name x p2) p3) scope cl pm cv ctv) ⟨[v], []⟩ = pure [(x, v)])
    (hs : starEach [e] X.env = (false, eval e X.env) :: starEach [] X.env := by rfl)
    (hdx : (x == ("__debug__" : Str)) = false := by decide) (hdy : (y == ("__debug__" : Str)) = false := by decide) (hcy : (y == ("__classdict__" : Str)) = false := by decide) :
    PE X (.Call (.Name "min" p) [e] [⟨some "key", .Lambda params (.Subscript (.Name y p1) (.Name x p2) p3) scope lpos, kpos⟩] pos) (tMinLamT X.K T j te) := by
  refine ⟨fun pins s σ H Q I h => ?_⟩
  have hfree : ∀ z ∈ scope.names, z.2 = .free → ∃ c, X.env.cells.lookup z.1 = some c := fun z hz e => I.ok.has _ (.inl (by rw [hfr z hz e]; exact hfy))
  refine wpAny_Call_Name_kw (ld_blt I hg hm (u := .builtin "min") (by decide +kernel) ?_)
  refine PyProof.Rows.callWith_kw ?_ (by rw [hs]; rfl) (by rw [hs]; rfl) (by rfl) (by rfl)
  rw [hs]
  show wpAny _ _ (spliced ((false, eval e X.env) :: backTo pos (starEach [] X.env))) _ _ s
  refine Calls.spliced_cons (thn (he.run pins s σ H _ I h) fun u s1 ⟨v, H1, I1, r1, a, l, ns, ks, ev, ht, hσ, hl, hne, hin, hT, q⟩ => Calls.spliced_nil ?_)
  subst ev
  obtain rfl : u = Value.ref a := r1
  show wpAny _ _ (evalAll ((do let v ← eval (.Lambda params (.Subscript (.Name y p1) (.Name x p2) p3) scope lpos) X.env; standAt pos; pure v) :: [])) _ _ s1
  refine wpAny_evalAll_cons (wpAny_bind (lam_make2 I1 TB hcode hmT hu hT hdef hfree fun f c' pm ctv H2 s2 I2 eN T2 hf hfn hff hco => wpAny_bind (wpAny_standAt (wpAny_pure (wpAny_evalAll_nil ?_)))))
  show wpAny _ _ (call (.builtin "min") [.ref a] [(Str.ofString "key", .ref f)]) _ _ s2
  obtain ⟨cs, rc, tc, _⟩ := I2.tuple (eN.sqT ht)
  obtain ⟨us, ru, pl, hz2⟩ := I2.tuple (eN.sqT hl)
  obtain ⟨m, _, look⟩ := I2.loc
  obtain ⟨u0, r0, lk⟩ := look j y _ hN hσ (.inr (.inl hfy))
  obtain rfl : u0 = Value.ref l := r0
  have cellAt : ∃ ck, X.env.cells.lookup y = some ck ∧ s2.heap.IsCell ck (some (.ref l)) := by
    rcases lk with ⟨k, _⟩ | ⟨_, ck, e1, e2⟩
    · rw [show X.env.kindOf y = some .cell from hfy] at k
      cases k
    · exact ⟨ck, e1, e2⟩
  obtain ⟨ck, eck, hcell⟩ := cellAt
  obtain ⟨⟨oc, vs, tk, o1, o2, o3⟩, _, _⟩ := I2.hok c' _ hco
  have lc : cs.length = ns.length := by rw [← rc.length, List.length_map]
  have lu : us.length = ks.length := by rw [← ru.length, List.length_map]
  have nsAt : ∀ i, i < ns.length → ∃ t, cs[i]? = some (.int (ns.getD i 0) t) := fun i hi => by
    obtain ⟨z, ez, rz⟩ := rc.get (i := i) (x := V.int (ns.getD i 0)) (by rw [List.getElem?_map, List.getD_eq_getElem?_getD, List.getElem?_eq_getElem hi]; rfl)
    obtain ⟨t, rfl⟩ := rz
    exact ⟨t, ez⟩
  refine min_lamT (ns := fun i => ns.getD i 0) (kf := fun i => ks.getD (ns.getD i 0).toNat 0) hh S hd ⟨hf, ⟨oc, vs, tk, o1, o2, o3⟩, I2.nolimit, NdefX.clo_has hfree (PySem.mem_of_lookup S.fy) eck, hcell, pl⟩ (fun v => hbind _ _ _ _ _ v) hdx hdy hcy tc (fun i hi => nsAt i (by omega)) (by omega)
    (fun i hi => ?_) fun v h' tk2 hv kp => ?_
  · have hi' : i < ns.length := by omega
    have hmem : ns.getD i 0 ∈ ns := by rw [List.getD_eq_getElem?_getD, List.getElem?_eq_getElem hi']; exact List.getElem_mem hi'
    obtain ⟨b0, b1⟩ := hin _ hmem
    have hs63 := line63
    rw [List.length_map] at hz2
    have hk' : (ns.getD i 0).toNat < ks.length := by omega
    obtain ⟨z, ez, rz⟩ := ru.get (i := (ns.getD i 0).toNat) (x := V.int (ks.getD (ns.getD i 0).toNat 0)) (by rw [List.getElem?_map, List.getD_eq_getElem?_getD (l := ks), List.getElem?_eq_getElem hk']; rfl)
    obtain ⟨t, rfl⟩ := rz
    exact ⟨b0, by omega, t, ez⟩
  · obtain ⟨n, en⟩ : ∃ n, ns.length = n + 1 := ⟨ns.length - 1, by omega⟩
    have fl := best_is (fun i => ks.getD (ns.getD i 0).toNat 0) n
    rw [← en] at fl
    rw [lc, show ns.length - 1 = n by omega] at hv
    obtain ⟨t, et⟩ := nsAt _ fl.1
    rw [et] at hv
    cases hv
    exact ⟨.int _, H2, I2.kept kp, ⟨t, rfl⟩, q _ H2 eN T2 ⟨_, fl, rfl⟩⟩
end
end Cl
namespace L2
open PySem PySem.Spec PyProof.Rows L2
section
variable {prog : Program} {w : World} {A : Around} {E : Value → Shared → Prop} {s : Shared}
theorem pick_rev (items : Array Value) : (List.filterMap (fun (k : Nat) => items[((items.size : Int) - 1 + ↑k * -1).toNat]?) (List.range items.size)) = items.toList.reverse := by
  obtain ⟨l⟩ := items
  simp only [List.size_toArray, List.getElem?_toArray]
  have h : ∀ m, m ≤ l.length → List.filterMap (fun (k : Nat) => l[((l.length : Int) - 1 + ↑k * -1).toNat]?) (List.range m) = (l.drop (l.length - m)).reverse := by
    intro m
    induction m with
    | zero => intro _; simp
    | succ m ih =>
      intro hm
      rw [List.range_succ, List.filterMap_append, ih (by omega)]
      have hi : l.length - (m + 1) < l.length := by omega
      have e1 : List.filterMap (fun (k : Nat) => l[((l.length : Int) - 1 + ↑k * -1).toNat]?) [m] = [l[l.length - (m + 1)]] := by
        rw [List.filterMap_cons]
        rw [show (((l.length : Int) - 1 + ((m : Nat) : Int) * -1).toNat) = l.length - (m + 1) by omega, List.getElem?_eq_getElem hi]
        rfl
      have e2 : l.drop (l.length - (m + 1)) = l[l.length - (m + 1)] :: l.drop (l.length - m) := by
        rw [List.drop_eq_getElem_cons hi, show l.length - (m + 1) + 1 = l.length - m by omega]
      rw [e1, e2, List.reverse_cons]
  rw [h _ (Nat.le_refl _), Nat.sub_self, List.drop_zero]
theorem sliceApplied_rev {sl : Addr} {t : Tok} {n : Nat} {Q : Int × Int × Nat → Shared → Prop} (h : s.heap.IsSliceOf sl .none .none (.int (-1) t)) (q : Q ((n : Int) - 1, -1, n) s) :
    wpAny (model prog w) A (Builtin.Slice.sliceApplied (.ref sl) (pure ↑n)) Q E s := by
  obtain ⟨o, h1, h2, h3⟩ := h
  unfold Builtin.Slice.sliceApplied
  refine wpAny_bind ?_
  unfold Builtin.Slice.sliceFields
  refine wpAny_bind (wpAny_field h1 h3 (by rfl) ?_)
  refine wpAny_bind (wpAny_field h1 h3 (by rfl) ?_)
  refine wpAny_bind (wpAny_field h1 h3 (by rfl) ?_)
  refine wpAny_pure ?_
  refine wpAny_bind (slicePart_int ?_)
  show wpAny _ _ (if ((-1 : Int) == 0) = true then _ else _) _ _ _
  rw [if_neg (by decide)]
  refine wpAny_bind (slicePart_none ?_)
  refine wpAny_bind (slicePart_none ?_)
  refine wpAny_bind (wpAny_pure ?_)
  have e : Builtin.Slice.sliceAdjust none none (-1) (n : Int) = ((n : Int) - 1, -1) := rfl
  show wpAny _ _ (match Builtin.Slice.sliceAdjust none none (-1) (n : Int) with | (lo, hi) => pure (lo, -1, Builtin.Slice.slicePlaces lo hi (-1))) _ _ _
  rw [e]
  refine wpAny_pure ?_
  have e2 : Builtin.Slice.slicePlaces ((n : Int) - 1) (-1) (-1) = n := by
    unfold Builtin.Slice.slicePlaces
    rw [if_neg (by decide)]
    by_cases h0 : n = 0
    · subst h0
      rfl
    · rw [if_pos (by omega)]
      show (((n : Int) - 1 - -1 - 1) / 1 + 1).toNat = n
      omega
  rw [e2]
  exact q
theorem getItem_tuple_rev {t sl : Addr} {items : Array Value} {tk : Tok} {Q : Value → Shared → Prop} (ht : IsTup s.heap t items) (hs : s.heap.IsSliceOf sl .none .none (.int (-1) tk)) (hz : items.size ≤ sizeLine)
    (q : Q (.ref s.heap.objs.size) { s with heap := s.heap.push { cls := .type "tuple", data := .seq items.toList.reverse.toArray } }) : wpAny (model prog w) A (getItem (.ref t) (.ref sl)) Q E s := by
  unfold getItem
  refine wpAny_holding ?_
  refine wpAny_bind (wpAny_sequenceKey ht.typeIs (by decide) ?_)
  refine wpAny_bind (wpAny_callSpecial?_slot ht.typeIs slot_tuple_getitem (wpAny_call_entry slot_tuple_getitem ht.typeIs entry_tuple_getitem ?_ (args_tuple_getitem _ _)))
  unfold Builtin.«tuple.__getitem__»
  show wpAny _ _ (do
      let xs ← Builtin.Tuple.tupleItemsOf (.ref t)
      _) _ _ _
  refine wpAny_bind (tupleItemsOf_ ht ?_)
  obtain ⟨o, h1, h2, h3⟩ := id hs
  refine wpAny_bind (wpAny_typeOf (T := "slice") ⟨_, h1, h2⟩ ?_)
  rw [if_pos (by decide)]
  refine wpAny_bind (sliceApplied_rev hs ?_)
  show wpAny _ _ (if (((items.size : Int) - 1) == 0 && ((-1 : Int) == 1) && items.size == items.size) = true then _ else _) _ _ _
  rw [if_neg (by simp)]
  refine wpAny_bind ?_
  unfold Builtin.Tuple.tupleExact
  refine wpAny_newObj_type ?_ ?_
  · rw [pick_rev]
    refine wpAny_pure ⟨_, rfl, ?_⟩
    exact wpAny_pure q
  · show sizeOk (.seq _)
    rw [pick_rev]
    show (items.toList.reverse.toArray).size ≤ sizeLine
    simpa using hz
end
section
variable {X : Cx}
/-- t[::-1], t a tuple -/
def tRevT (K : PySem.W.Frag) (te ts : TE) : TE := fun σ H Q => te σ H fun x H1 => ts σ H1 fun y H2 => y = .int (-1) ∧ ∃ a xs, x = .ref a ∧ SqT K H2 a xs ∧ ∀ (p : Addr) (H' : Hp), Same H2 H' → H' p = some (.tup xs.reverse) → Q (.ref p) H'
theorem pe_revT {e st : Expr} {p3 pos : Pos} {te ts : TE} (he : PE X e te) (hs : PE X st ts) : PE X (.Subscript e (.Slice none none (some st) p3) pos) (tRevT X.K te ts) := by
  refine ⟨fun pins s σ H Q I h => ?_⟩
  refine Subscript_ (thn (he.run pins s σ H _ I h) fun v s1 ⟨x, H1, I1, r1, h1⟩ => ?_)
  refine wpAny_Slice ?_
  rw [evalPart_none]
  refine wpAny_pure (wpAny_pure ?_)
  show wpAny _ _ (eval st X.env) _ _ s1
  refine thn (hs.run pins s1 σ H1 _ I1 h1) fun u s2 ⟨y, H2, I2, r2, ey, a, xs, ex, ht, q⟩ => ?_
  subst ey
  subst ex
  obtain ⟨tk, rfl⟩ := r2
  obtain rfl : v = Value.ref a := r1
  have I3 := I2.kept (t' := s2.toks) (h' := s2.heap.push { cls := .type "slice", data := .fields #[.none, .none, .int (-1) tk] }) fun b o e => Heap.get?_push_of_some _ e
  obtain ⟨its, rv, tt, hz⟩ := I3.tuple ht
  have hl := rv.length
  refine tail_any (T := "tuple") tt.typeIs rfl ?_ rfl
  refine getItem_tuple_rev tt (Heap.IsSliceOf.new _ _ _ _) (by simp only [List.size_toArray]; omega) ?_
  generalize s2.heap.push { cls := .type "slice", data := .fields #[.none, .none, .int (-1) tk] } = h3 at I3 tt
  have hn := I3.hok.fresh (Nat.le_refl h3.objs.size)
  exact ⟨.ref h3.objs.size, _, I3.laid (t' := s2.toks) (fun b o e => Heap.get?_push_of_some _ e) (Nat.le_refl _) (show ObjOk X.prog X.w _ _ _ (.tup xs.reverse) from ⟨by rw [List.length_reverse]; exact hz, its.reverse, rv.reverse, IsTup.new _ _⟩), rfl, q _ _ (fun b o e => by rw [upd_ne (ne_of_none e hn)]; exact e) upd_same⟩
end
end L2
namespace Tw
open PySem PySem.Spec PyProof.Rows L2 PySem.W
section
variable {X : Cx} {CX : CXT} {k : Nat} {f C D : Addr} {fd : FuncData} {ps : List Str} {sp : Sp} {E : XK}
theorem op_notIn_own (hd : Dn X.K C "__contains__" f) (F : FnOk X.prog X.w X.K X.mg X.base CX k f fd ps sp) (hr : Room k X.A) (hb : Binds X.K fd ps []) (hx : Passes CX X E) : OpR X (compareOp .NotIn) (rIn C sp E true) := by
  intro pins s σ H x y v u Q I rx ry ⟨a, dx, fs, ey, ha, q⟩
  subst ey
  obtain rfl : u = Value.ref a := ry
  obtain ⟨mA, O, rr, _, _, _⟩ := ins_get I.hok ha
  obtain ⟨od, J, hl⟩ := O.look
  obtain ⟨m0, hF⟩ := I.fr
  refine PySem.W.notIn_K hF I.ok.mod.kin J hd.at_ hd.fn (thn (run_sub F ⟨hr, rfl⟩ hb hx I (.cons (relR a) (.cons rx .nil)) q) fun r s' ⟨z, H', I', rz, b, ez, q'⟩ => ?_)
  subst ez
  obtain rfl : r = Value.bool b := rz
  exact wpAny_truthy_bool ⟨_, _, I', relB (!b), q'⟩
end
end Tw

set_option Elab.async false
set_option linter.all false
set_option maxRecDepth 100000
set_option maxHeartbeats 4000000
/-! min(xs), xs a list of tuples of ints -/
namespace L2
open PySem PySem.Spec PyProof.Rows PySem.W
theorem tupE_lt (p q : List Int) : dataLt (tupE p) (tupE q) = decide (p < q) := by
  show dataLt (.tuple (p.map .int)) (.tuple (q.map .int)) = _
  rw [dataLt_tuple]
  show rowLt (p.map .int) (q.map .int) = _
  rw [dataLt_ints]
theorem minD_tups : ∀ (r : List (List Int)) (b : List Int), ∃ m, minD (tupE b) (r.map tupE) = tupE m ∧ m ∈ b :: r ∧ ∀ z ∈ b :: r, m ≤ z
  | [], b => ⟨b, rfl, List.mem_cons_self, fun z hz => by rw [List.mem_singleton.mp hz]; exact List.le_refl _⟩
  | c :: r, b => by
    have e : minD (tupE b) ((c :: r).map tupE) = minD (if decide (c < b) = true then tupE c else tupE b) (r.map tupE) := by
      show List.foldl _ _ _ = List.foldl _ _ _
      rw [List.map_cons, List.foldl_cons, tupE_lt]
    rw [e]
    by_cases h : c < b
    · rw [if_pos (decide_eq_true h)]
      obtain ⟨m, e1, e2, e3⟩ := minD_tups r c
      refine ⟨m, e1, List.mem_cons_of_mem _ e2, fun z hz => ?_⟩
      rcases List.mem_cons.mp hz with rfl | hz
      · exact List.le_trans (e3 c List.mem_cons_self) (List.le_of_lt h)
      · exact e3 z hz
    · rw [if_neg (fun z => h (of_decide_eq_true z))]
      obtain ⟨m, e1, e2, e3⟩ := minD_tups r b
      refine ⟨m, e1, ?_, fun z hz => ?_⟩
      · rcases List.mem_cons.mp e2 with rfl | e2
        · exact List.mem_cons_self
        · exact List.mem_cons_of_mem _ (List.mem_cons_of_mem _ e2)
      · rcases List.mem_cons.mp hz with rfl | hz
        · exact e3 _ List.mem_cons_self
        · rcases List.mem_cons.mp hz with rfl | hz
          · exact List.le_trans (e3 b List.mem_cons_self) (List.not_lt.mp h)
          · exact e3 z (List.mem_cons_of_mem _ hz)
theorem tupE_depth (b : List Int) : (tupE b).depth ≤ 1 := by
  simp [PyData.depth, depth_ints]
theorem tupE_depths : ∀ bs : List (List Int), PyData.depthAll (bs.map tupE) ≤ 1
  | [] => by simp [PyData.depthAll]
  | b :: bs => by
    have h1 := tupE_depth b
    have h2 := tupE_depths bs
    rw [List.map_cons, PyData.depthAll]
    omega
section
variable {X : Cx} {pins : List (Addr × Obj)} {σ : St} {H : Hp} {s : Shared}
theorem readsAll_tups (I : Inv X pins σ H s) : ∀ {us : List Value} {bs : List (List Int)}, EachIs (TupV X.K H) us bs → ∃ as, ReadsAll s.heap us (bs.map tupE) as
  | _, _, .nil => ⟨_, .nil⟩
  | _, _, .cons h p => by
    obtain ⟨as, r⟩ := tupV_reads I h
    obtain ⟨bs, rs⟩ := readsAll_tups I p
    exact ⟨_, .cons r rs⟩
theorem ints_lay : ∀ ns : List Int, PyData.canLayAll0 (ns.map .int) = true
  | [] => rfl
  | a :: ns => by
    rw [List.map_cons]
    simp [PyData.canLayAll0, PyData.canLay0, ints_lay ns]
theorem pdi_inj : ∀ ms ns : List Int, ms.map PyData.int = ns.map PyData.int → ms = ns
  | [], [], _ => rfl
  | [], b :: ns, h => by simp at h
  | a :: ms, [], h => by simp at h
  | a :: ms, b :: ns, h => by
    rw [List.map_cons, List.map_cons] at h
    injection h with h1 h2
    injection h1 with h1
    rw [h1, pdi_inj ms ns h2]
theorem reads_tup_one {h : Heap} {t : Addr} {ms ns : List Int} {as bs : List Addr} (h1 : Reads h (.ref t) (tupE ms) as) (h2 : Reads h (.ref t) (tupE ns) bs) : ms = ns := by
  have e := SeqAt.ReadsAll.unique [tupE ms] [tupE ns] [.ref t] _ _ (by simp [PyData.canLayAll0, PyData.canLay0, ints_lay]) (.cons h1 .nil) (.cons h2 .nil)
  have e2 := (List.cons.inj e).1
  unfold tupE at e2
  injection e2 with e2
  exact pdi_inj ms ns e2
/-- min(xs) -/
def rMinTA (K : PySem.W.Frag) : List V → Hp → VK → Prop := fun vs H Q => ∃ (a : Addr) (xs : List V) (bs : List (List Int)), vs = [V.ref a] ∧ SqL K H a xs ∧ Paired (TupI K H) xs bs ∧ bs ≠ [] ∧
  ∀ (t : Addr) (m : List Int), SqT K H t (m.map V.int) → m ∈ bs → (∀ z ∈ bs, m ≤ z) → Q (.ref t) H
theorem each_at {R : Value → List Int → Prop} : ∀ {us : List Value} {bs : List (List Int)}, EachIs R us bs → ∀ {i : Nat} {v : Value}, us[i]? = some v → ∃ b, R v b
  | _, _, .nil, i, v, h => by simp at h
  | _, _, .cons h p, 0, v, e => by
    cases e
    exact ⟨_, h⟩
  | _, _, .cons h p, i + 1, v, e => each_at p e
theorem cr_minTA (hh : X.A.handled = none) (hu : X.A.units + 65 < cLine) : CallR X (.builtin "min") (rMinTA X.K) := by
  intro pins s σ H vs us Q I r h
  obtain ⟨a, xs, bs, rfl, hs, hp, hne, q⟩ := h
  obtain ⟨its, rv, hl, hz⟩ := I.list hs
  rw [Vals.ref1 r]
  have e0 : EachIs (TupV X.K H) its bs := tupV_of hp rv
  match bs, hne, e0, q with
  | b :: r, _, e0, q =>
    obtain ⟨as, ra⟩ := readsAll_tups I e0
    obtain ⟨m, em, hm, hle⟩ := minD_tups r b
    refine min_list_data (x := tupE b) (xs := r.map tupE) hh hl.isList (by simpa using ra) ⟨?_, ?_⟩ ?_ fun i v h' tk cs hv hr kp => ?_
    · intro x hx y hy
      rw [← List.map_cons] at hx hy
      obtain ⟨b1, _, rfl⟩ := List.mem_map.mp hx
      obtain ⟨b2, _, rfl⟩ := List.mem_map.mp hy
      simp [alike, alike_ints]
    · intro x hx
      rw [← List.map_cons] at hx
      obtain ⟨b1, _, rfl⟩ := List.mem_map.mp hx
      intro z
      cases z
    · have := tupE_depths (b :: r)
      rw [List.map_cons] at this
      omega
    · have hv' : its[i]? = some v := by simpa using hv
      obtain ⟨ns, t, rfl, ht⟩ := each_at e0 hv'
      rw [em] at hr
      have e1 : ns = m := by
        obtain ⟨bs1, r1⟩ := tupV_reads I ⟨t, rfl, ht⟩
        exact reads_tup_one (reads_keeps kp r1) hr
      subst e1
      exact ⟨.ref t, H, I.kept kp, rfl, q t ns ht hm hle⟩
end
end L2

set_option Elab.async false
set_option linter.all false
set_option maxRecDepth 100000
set_option maxHeartbeats 4000000
/-! len of a set; min of a tuple of ints -/
namespace L2
open PySem PySem.Spec PyProof.Rows PySem.W
section
variable {X : Cx}
def rLenSet (w : World) : List V → Hp → VK → Prop := fun xs H Q => ∃ (a : Addr) (S : Int → Bool) (n : Nat), xs = [V.ref a] ∧ H a = some (SetO w a S n) ∧ ∀ ks : List Int, ks.Nodup → (∀ k, S k = true ↔ k ∈ ks) → ks.length = n → Q (.int (n : Nat)) H
theorem cr_lenSet : CallR X (.builtin "len") (rLenSet X.w) := by
  intro pins s σ H xs us Q I r h
  obtain ⟨a, S, n, rfl, e, q⟩ := h
  rw [Vals.ref1 r]
  have ok := I.hok a _ e
  unfold SetO ObjOk at ok
  obtain ⟨⟨o, es, ep, t, h1, h2, h3, h4, h5, h6, h7, h8, h9, _, _⟩, _, _⟩ := ok
  have hb : (es.size : Int) < 2 ^ 63 := by
    have : scanBound ≤ 1048576 := by unfold scanBound; decide
    omega
  refine call_len_set h1 h2 h3 h8 hb ?_
  subst h9
  exact ⟨.int (es.size : Nat), H, I.kept (fun _ _ e => e), ⟨_, rfl⟩, q _ h5 h6 (by rw [List.length_map, Array.length_toList])⟩
theorem reads_int1 {h : Heap} {k m : Int} {t : Tok} {as : List Addr} (r : Reads h (.int k t) (.int m) as) : k = m := by
  cases r
  rfl
theorem readsAll_ints {h : Heap} : ∀ {ns : List Int} {us : List Value}, Vals (ns.map V.int) us → ∃ as, ReadsAll h us (ns.map PyData.int) as
  | [], _, .nil => ⟨_, .nil⟩
  | n :: ns, _, .cons r v => by
    obtain ⟨t, rfl⟩ := r
    obtain ⟨as, ra⟩ := readsAll_ints v
    exact ⟨_, .cons (.int n t) ra⟩
theorem depth_ints0 : ∀ ns : List Int, PyData.depthAll (ns.map PyData.int) ≤ 1
  | [] => by simp [PyData.depthAll]
  | a :: l => by
    have := depth_ints0 l
    rw [List.map_cons, PyData.depthAll]
    simp only [PyData.depth]
    omega
theorem fmin_le : ∀ (l : List Int) (a : Int), l.foldl min a ≤ a ∧ ∀ z ∈ l, l.foldl min a ≤ z
  | [], a => ⟨Int.le_refl _, fun z hz => nomatch hz⟩
  | b :: l, a => by
    obtain ⟨h1, h2⟩ := fmin_le l (min a b)
    rw [List.foldl_cons]
    refine ⟨by omega, fun z hz => ?_⟩
    rcases List.mem_cons.mp hz with rfl | hz
    · omega
    · exact h2 z hz
def rMinTu (K : PySem.W.Frag) : List V → Hp → VK → Prop := fun vs H Q => ∃ (a : Addr) (ns : List Int), vs = [V.ref a] ∧ SqT K H a (ns.map V.int) ∧ ns ≠ [] ∧ ∀ m : Int, m ∈ ns → (∀ z ∈ ns, m ≤ z) → Q (.int m) H
theorem cr_minTu (hh : X.A.handled = none) (hu : X.A.units + 65 < cLine) : CallR X (.builtin "min") (rMinTu X.K) := by
  intro pins s σ H vs us Q I r h
  obtain ⟨a, ns, rfl, hs, hne, q⟩ := h
  obtain ⟨its, rv, tc, hz⟩ := I.tuple hs
  rw [Vals.ref1 r]
  obtain ⟨n, l, rfl⟩ : ∃ n l, ns = n :: l := by
    cases ns with
    | nil => exact absurd rfl hne
    | cons n l => exact ⟨n, l, rfl⟩
  obtain ⟨as, ra⟩ := readsAll_ints (h := s.heap) rv
  refine min_tuple_data (x := .int n) (xs := l.map PyData.int) hh tc (by simpa using ra) ⟨?_, ?_⟩ ?_ fun i v h' tk cs hv hr kp => ?_
  · intro x hx y hy
    rw [← List.map_cons] at hx hy
    obtain ⟨b1, _, rfl⟩ := List.mem_map.mp hx
    obtain ⟨b2, _, rfl⟩ := List.mem_map.mp hy
    simp [alike]
  · intro x hx
    rw [← List.map_cons] at hx
    obtain ⟨b1, _, rfl⟩ := List.mem_map.mp hx
    intro z
    cases z
  · have := depth_ints0 (n :: l)
    rw [List.map_cons] at this
    omega
  · have hv' : its[i]? = some v := by simpa using hv
    have hl := rv.length
    have hi : i < (n :: l).length := by
      rw [List.length_map] at hl
      rw [hl]
      exact (List.getElem?_eq_some_iff.mp hv').1
    obtain ⟨z, ez, rz⟩ := rv.get (i := i) (x := V.int (n :: l)[i]) (by rw [List.getElem?_map, List.getElem?_eq_getElem hi]; rfl)
    rw [hv'] at ez
    cases ez
    obtain ⟨t, rfl⟩ := rz
    rw [minD_ints] at hr
    obtain ⟨h1, h2⟩ := fmin_le l n
    have e : (n :: l)[i] = l.foldl min n := reads_int1 hr
    exact ⟨.int _, H, I.kept kp, ⟨t, rfl⟩, q _ (List.getElem_mem hi) fun z hz => by
      rw [e]
      rcases List.mem_cons.mp hz with rfl | hz
      · exact h1
      · exact h2 z hz⟩
end
end L2

set_option Elab.async false
set_option linter.all false
set_option maxRecDepth 100000
set_option maxHeartbeats 2000000
/-! own: the end's facts by addresses that are functions of the heap's part; one Bool for all of them -/
namespace Sh
open PySem PySem.Spec PyProof.Rows L2
section
variable {Kf : PySem.W.Frag}
/-- where things stand -/
def gA (Kf : PySem.W.Frag) (n : Str) : Addr := (match PySem.W.nsIn Kf mainGlobals n with | some (some (.ref z)) => z | _ => 0)
def mA (Kf : PySem.W.Frag) (cl : Addr) (n : Str) : Addr := (match PySem.W.findIn Kf (.ref cl) n with | some (some (.ref z)) => z | _ => 0)
def recA (Kf : PySem.W.Frag) (p : Addr) (n : String) : Addr := (match PySem.W.recIn Kf p n with | some (.ref z :: _) => z | _ => 0)
def recT (Kf : PySem.W.Frag) (p : Addr) (n : String) : List Value := (match PySem.W.recIn Kf p n with | some (_ :: r) => r | _ => [])
def clsA (Kf : PySem.W.Frag) (cl : Addr) (n : Str) : Addr := (match PySem.W.findCls Kf (.ref cl) (.type "type") n with | some (.get _ (.ref z) _ _) => z | _ => 0)
def tokI (Kf : PySem.W.Frag) (o : Addr) (n : Str) : Tok := (match PySem.W.nsIn Kf o n with | some (some (.int _ t)) => t | _ => default)
def tokS (Kf : PySem.W.Frag) (o : Addr) (n : Str) : Tok := (match PySem.W.nsIn Kf o n with | some (some (.str _ t)) => t | _ => default)
def fdA (Kf : PySem.W.Frag) (p : Addr) : Option FuncData := (match Kf.lookup p with | some z => (match z.data with | .func y => some y | _ => none) | none => none)
def kwA (Kf : PySem.W.Frag) (p : Addr) : Addr := (match fdA Kf p with | some y => (match y.kwdefaults with | .ref z => z | _ => 0) | none => 0)
def cdA (Kf : PySem.W.Frag) (p : Addr) : Addr := (match fdA Kf p with | some y => (match y.code with | .ref z => z | _ => 0) | none => 0)
def refB : Value → Bool
  | .ref _ => true
  | _ => false
def noB : Value → Bool
  | .none => true
  | _ => false
end
/-- one function: where it stands, what it is -/
structure FnA where
  pl : PySem.W.Frag → Addr
  nm : Str
  qn : Str
  pr : Arguments
  bd : List Stmt
  sc : Scope
abbrev FV : Type := Option (Str × Str × Arguments × FuncBody × Scope × Addr × List (Str × Addr) × Addr)
def fnV (Kf : PySem.W.Frag) (p : Addr) : FV := (match fdA Kf p with
  | some y => some (y.name, y.qualname, y.params, y.body, y.scope, y.globals, y.closure, y.builtins)
  | none => none)
def FnA.val (d : FnA) : FV := some (d.nm, d.qn, d.pr, FuncBody.stmts d.bd, d.sc, mainGlobals, [], builtinsNs)
/-- kw: its own table of keyword defaults; cd: its code object is named -/
def fnB (Kf : PySem.W.Frag) (p : Addr) (q : Str) (kw : Bool) : Bool := PySem.W.keepIn Kf (.ref p) && (match fdA Kf p with
  | some y => PySem.W.codeIn Kf y.code q && (noB y.defaults && (!kw || refB y.kwdefaults))
  | none => false)
theorem fdA_some {Kf : PySem.W.Frag} {p : Addr} {y : FuncData} (h : fdA Kf p = some y) : ∃ oc od sl, Kf.lookup p = some ⟨oc, od, .func y, sl⟩ := by
  unfold fdA at h
  cases e : Kf.lookup p with
  | none => rw [e] at h; cases h
  | some z =>
    obtain ⟨oc, od, dt, sl⟩ := z
    rw [e] at h
    cases dt with
    | func u =>
      have k : u = y := Option.some.inj h
      exact ⟨oc, od, sl, by rw [k]⟩
    | _ => cases h
theorem fn_any {Kf : PySem.W.Frag} {d : FnA} {p : Addr} {kw : Bool} (e : fnV Kf p = d.val) (c : fnB Kf p d.qn kw = true) :
    PySem.W.keepIn Kf (.ref p) = true ∧ ∃ (y : FuncData) (kV dc pm : Value) (an : Option Addr) (cd ct : Value), fdA Kf p = some y ∧ y = PySem.W.fnOf d.nm d.qn d.pr d.bd d.sc .none kV dc pm an cd ct ∧ PySem.W.codeIn Kf cd d.qn = true ∧ (kw = true → refB kV = true) := by
  obtain ⟨c1, c2⟩ := Bool.and_eq_true_iff.mp c
  refine ⟨c1, ?_⟩
  unfold fnV FnA.val at e
  cases q : fdA Kf p with
  | none => rw [q] at e; cases e
  | some y =>
    rw [q] at e c2
    obtain ⟨x1, x2, x3, x4, x5, x6, x7, x8, x9, x10, x11, x12, x13, x14, x15⟩ := y
    obtain ⟨c3, c4⟩ := Bool.and_eq_true_iff.mp c2
    obtain ⟨c5, c6⟩ := Bool.and_eq_true_iff.mp c4
    have e2 := Option.some.inj e
    simp only [Prod.mk.injEq] at e2
    obtain ⟨r1, r2, r3, r4, r5, r6, r7, r8⟩ := e2
    subst r1 r2 r3 r4 r5 r6 r7 r8
    have n8 : x8 = Value.none := by
      have c5 : noB x8 = true := c5
      cases x8 <;> first | rfl | cases c5
    subst n8
    refine ⟨_, x9, x10, x11, x12, x13, x14, rfl, rfl, c3, fun hk => ?_⟩
    rw [hk] at c6
    exact c6
theorem ref_of {v : Value} (h : refB v = true) : ∃ z, v = .ref z := by
  cases v with
  | ref z => exact ⟨z, rfl⟩
  | _ => cases h
theorem cd_ref {Kf : PySem.W.Frag} {v : Value} {q : Str} (h : PySem.W.codeIn Kf v q = true) : ∃ z, v = .ref z := He.codeIn_ref h
/-- what a function's two rows give: nothing named; its table named; its code object named -/
theorem fn_g {Kf : PySem.W.Frag} {d : FnA} {p : Addr} (e : fnV Kf p = d.val) (c : fnB Kf p d.qn false = true) :
    ∃ (oc : Value) (od : Option Addr) (sl : Array (Option Value)) (kV dc pm : Value) (an : Option Addr) (cd ct : Value), Kf.lookup p = some ⟨oc, od, .func (PySem.W.fnOf d.nm d.qn d.pr d.bd d.sc .none kV dc pm an cd ct), sl⟩ ∧ PySem.W.codeIn Kf cd d.qn = true ∧ PySem.W.keepIn Kf (.ref p) = true := by
  obtain ⟨kp, y, kV, dc, pm, an, cd, ct, hy, rfl, hc, _⟩ := fn_any e c
  obtain ⟨oc, od, sl, hl⟩ := fdA_some hy
  exact ⟨oc, od, sl, kV, dc, pm, an, cd, ct, hl, hc, kp⟩
theorem fn_k {Kf : PySem.W.Frag} {d : FnA} {p : Addr} (e : fnV Kf p = d.val) (c : fnB Kf p d.qn true = true) :
    ∃ (oc : Value) (od : Option Addr) (sl : Array (Option Value)) (dc pm : Value) (an : Option Addr) (cd ct : Value), Kf.lookup p = some ⟨oc, od, .func (PySem.W.fnOf d.nm d.qn d.pr d.bd d.sc .none (.ref (kwA Kf p)) dc pm an cd ct), sl⟩ ∧ PySem.W.codeIn Kf cd d.qn = true ∧ PySem.W.keepIn Kf (.ref p) = true := by
  obtain ⟨kp, y, kV, dc, pm, an, cd, ct, hy, rfl, hc, hk⟩ := fn_any e c
  obtain ⟨z, rfl⟩ := ref_of (hk rfl)
  obtain ⟨oc, od, sl, hl⟩ := fdA_some hy
  have ez : kwA Kf p = z := by unfold kwA; rw [hy]
  rw [ez]
  exact ⟨oc, od, sl, dc, pm, an, cd, ct, hl, hc, kp⟩
theorem fn_c {Kf : PySem.W.Frag} {d : FnA} {p : Addr} (e : fnV Kf p = d.val) (c : fnB Kf p d.qn false = true) :
    ∃ (oc : Value) (od : Option Addr) (sl : Array (Option Value)) (kV dc pm : Value) (an : Option Addr) (ct : Value), Kf.lookup p = some ⟨oc, od, .func (PySem.W.fnOf d.nm d.qn d.pr d.bd d.sc .none kV dc pm an (.ref (cdA Kf p)) ct), sl⟩ ∧ PySem.W.codeIn Kf (.ref (cdA Kf p)) d.qn = true ∧ PySem.W.keepIn Kf (.ref p) = true := by
  obtain ⟨kp, y, kV, dc, pm, an, cd, ct, hy, rfl, hc, _⟩ := fn_any e c
  obtain ⟨z, rfl⟩ := cd_ref hc
  obtain ⟨oc, od, sl, hl⟩ := fdA_some hy
  have ez : cdA Kf p = z := by unfold cdA; rw [hy]
  rw [ez]
  exact ⟨oc, od, sl, kV, dc, pm, an, ct, hl, hc, kp⟩
theorem fn_kc {Kf : PySem.W.Frag} {d : FnA} {p : Addr} (e : fnV Kf p = d.val) (c : fnB Kf p d.qn true = true) :
    ∃ (oc : Value) (od : Option Addr) (sl : Array (Option Value)) (dc pm : Value) (an : Option Addr) (ct : Value), Kf.lookup p = some ⟨oc, od, .func (PySem.W.fnOf d.nm d.qn d.pr d.bd d.sc .none (.ref (kwA Kf p)) dc pm an (.ref (cdA Kf p)) ct), sl⟩ ∧ PySem.W.codeIn Kf (.ref (cdA Kf p)) d.qn = true ∧ PySem.W.keepIn Kf (.ref p) = true := by
  obtain ⟨kp, y, kV, dc, pm, an, cd, ct, hy, rfl, hc, hk⟩ := fn_any e c
  obtain ⟨z, rfl⟩ := ref_of (hk rfl)
  obtain ⟨u, rfl⟩ := cd_ref hc
  obtain ⟨oc, od, sl, hl⟩ := fdA_some hy
  have ez : kwA Kf p = z := by unfold kwA; rw [hy]
  have eu : cdA Kf p = u := by unfold cdA; rw [hy]
  rw [ez, eu]
  exact ⟨oc, od, sl, dc, pm, an, ct, hl, hc, kp⟩
/-- a class's own maker -/
def ofB (Kf : PySem.W.Frag) (cl p : Addr) (n : Str) : Bool := (match PySem.W.findCls Kf (.ref cl) (.type "type") n with | some (.get (.builtin x) (.ref y) .none (.ref z)) => decide (x = "classmethod.__get__") && (decide (y = p) && decide (z = cl)) | _ => false)
theorem ofB_ok {Kf : PySem.W.Frag} {cl p : Addr} {n : Str} (h : ofB Kf cl p n = true) : PySem.W.findCls Kf (.ref cl) (.type "type") n = some (.get (.builtin "classmethod.__get__") (.ref p) .none (.ref cl)) := by
  unfold ofB at h
  split at h
  · rename_i x y z e
    obtain ⟨h1, h2⟩ := Bool.and_eq_true_iff.mp h
    obtain ⟨h3, h4⟩ := Bool.and_eq_true_iff.mp h2
    rw [e, of_decide_eq_true h1, of_decide_eq_true h3, of_decide_eq_true h4]
  · cases h
/-! ### the hook -/
def tabB (g : Addr → Option Obj) (Kf : PySem.W.Frag) (p : Addr × Addr) : Bool := PySem.W.codeHdIn Kf p.1 p.2 && (match g p.2 with | some z => He.emptyTab z | none => false)
abbrev AlA : Type := List FV × Bool
section
variable (as : List Addr) (fs : List FnA) (ex : PySem.W.Frag → Bool) (tf : PySem.W.Frag → List (Addr × Addr))
def obA (Kf : PySem.W.Frag) (g : Addr → Option Obj) : AlA := (fs.map fun d => fnV Kf (d.pl Kf), ex Kf && (tf Kf).all (tabB g Kf))
def obG (g : Addr → Option Obj) : AlA := obA fs ex tf (He.frT g as) g
structure Tells (h : Heap) (Kf : PySem.W.Frag) : Prop where
  fn : ∀ d ∈ fs, fnV Kf (d.pl Kf) = d.val
  ex : ex Kf = true
  hd : ∀ p ∈ tf Kf, PySem.W.codeHdIn Kf p.1 p.2 = true
  out : ∀ p ∈ tf Kf, Kf.lookup p.2 = none
  em : ∀ p ∈ tf Kf, h.get? p.2 = some (PySem.W.tabObj #[])
variable {as fs ex tf}
theorem map_all {α β : Type} {f g : α → β} : ∀ {l : List α}, l.map f = l.map g → ∀ x ∈ l, f x = g x
  | [], _, _, hx => absurd hx List.not_mem_nil
  | a :: r, h, x, hx => by
    rw [List.map_cons, List.map_cons] at h
    injection h with h1 h2
    rcases List.mem_cons.mp hx with rfl | hx
    · exact h1
    · exact map_all h2 x hx
theorem tells_of {h : Heap} (e : obG as fs ex tf h.get? = (fs.map FnA.val, true)) : Tells fs ex tf h (He.frT h.get? as) := by
  have e1 := congrArg Prod.fst e
  have e2 := congrArg Prod.snd e
  obtain ⟨b1, b2⟩ := Bool.and_eq_true_iff.mp (show (ex (He.frT h.get? as) && (tf (He.frT h.get? as)).all (tabB h.get? (He.frT h.get? as))) = true from e2)
  have key : ∀ p ∈ tf (He.frT h.get? as), PySem.W.codeHdIn (He.frT h.get? as) p.1 p.2 = true ∧ ∃ z, h.get? p.2 = some z ∧ He.emptyTab z = true := fun p hp => by
    obtain ⟨b3, b4⟩ := Bool.and_eq_true_iff.mp (List.all_eq_true.mp b2 p hp)
    refine ⟨b3, ?_⟩
    cases q : h.get? p.2 with
    | none => rw [q] at b4; cases b4
    | some z => rw [q] at b4; exact ⟨z, rfl, b4⟩
  refine ⟨map_all e1, b1, fun p hp => (key p hp).1, fun p hp => ?_, fun p hp => ?_⟩
  · obtain ⟨_, z, hz, k⟩ := key p hp
    exact He.frT_none hz k
  · obtain ⟨_, z, hz, k⟩ := key p hp
    rw [hz, He.emptyTab_eq k]
variable (as fs ex tf)
def hook : PySem.W.Hook where
  α := AlA
  obs := fun s => obG as fs ex tf s.heap.get?
  val := fun _ => (fs.map FnA.val, true)
  says := fun _ h => ∃ Kf : PySem.W.Frag, Kf.In h ∧ Tells fs ex tf h Kf
  of := fun _ _ e => ⟨_, He.frT_in, tells_of e⟩
  keeps := fun _ _ _ ⟨Kf, i, t⟩ k => ⟨Kf, PySem.W.Frag.In.keeps i k, ⟨t.fn, t.ex, t.hd, t.out, fun p hp => k _ _ (t.em p hp)⟩⟩
def obT (s : PySem.W.SharedT) : AlA := obG as fs ex tf (HandSHeadRun.getT s)
theorem obT_eq (s : PySem.W.SharedT) : obT as fs ex tf s = (hook as fs ex tf).obs s.abs := by
  have e : HandSHeadRun.getT s = s.abs.heap.get? := funext (HandSHeadRun.getT_eq s)
  show obG as fs ex tf (HandSHeadRun.getT s) = obG as fs ex tf s.abs.heap.get?
  rw [e]
end
theorem at_ {α : Type} {l : List α} {d : α} (i : Nat) (h : l[i]? = some d) : d ∈ l := List.mem_of_getElem? h
theorem band {a b : Bool} (h : (a && b) = true) : a = true ∧ b = true := Bool.and_eq_true_iff.mp h
end Sh

set_option Elab.async false
set_option linter.all false
set_option maxRecDepth 100000
set_option maxHeartbeats 2000000
namespace Tw
open PySem PySem.Spec PyProof.Rows L2
def topS (i : Nat) : Stmt := PySem.Challenge.pw_heaprows_k41_whole_long.main.body.getD i (.Pass ⟨0, 0, 0, 0⟩)
abbrev s_is_integer : Stmt := topS 17
theorem sc_is_integer : FnScope ["thing"] ["thing"] (defScope s_is_integer) := ⟨rfl, rfl, rfl, by decide +kernel, rfl, by decide +kernel, by decide +kernel⟩
abbrev s_is_integer_from : Stmt := topS 18
theorem sc_is_integer_from : FnScope ["thing", "least", "greatest"] ["thing", "least", "greatest"] (defScope s_is_integer_from) := ⟨rfl, rfl, rfl, by decide +kernel, rfl, by decide +kernel, by decide +kernel⟩
abbrev s_is_key : Stmt := topS 19
theorem sc_is_key : FnScope ["thing"] ["thing"] (defScope s_is_key) := ⟨rfl, rfl, rfl, by decide +kernel, rfl, by decide +kernel, by decide +kernel⟩
abbrev s_check_arms : Stmt := topS 20
theorem sc_check_arms : FnScope ["arms"] ["arms"] (defScope s_check_arms) := ⟨rfl, rfl, rfl, by decide +kernel, rfl, by decide +kernel, by decide +kernel⟩
abbrev s_check_many : Stmt := topS 21
theorem sc_check_many : FnScope ["many"] ["many"] (defScope s_check_many) := ⟨rfl, rfl, rfl, by decide +kernel, rfl, by decide +kernel, by decide +kernel⟩
abbrev s_check_place : Stmt := topS 22
theorem sc_check_place : FnScope ["place", "many"] ["place", "many"] (defScope s_check_place) := ⟨rfl, rfl, rfl, by decide +kernel, rfl, by decide +kernel, by decide +kernel⟩
abbrev s_check_key : Stmt := topS 23
theorem sc_check_key : FnScope ["key"] ["key"] (defScope s_check_key) := ⟨rfl, rfl, rfl, by decide +kernel, rfl, by decide +kernel, by decide +kernel⟩
abbrev s_row_of : Stmt := topS 24
theorem sc_row_of : FnScope ["row", "index", "key"] ["row"] (defScope s_row_of) := ⟨rfl, rfl, rfl, by decide +kernel, rfl, by decide +kernel, by decide +kernel⟩
abbrev s_check_different : Stmt := topS 25
theorem sc_check_different : FnScope ["keys", "place", "key"] ["keys"] (defScope s_check_different) := ⟨rfl, rfl, rfl, by decide +kernel, rfl, by decide +kernel, by decide +kernel⟩
abbrev s_t___init__ : Stmt := inClass (topS 27) 0
theorem sc_t___init__ : FnScope ["self", "many", "arms"] ["self", "many", "arms"] (defScope s_t___init__) := ⟨rfl, rfl, rfl, by decide +kernel, rfl, by decide +kernel, by decide +kernel⟩
abbrev s_t_of : Stmt := inClass (topS 27) 1
theorem sc_t_of : FnScope ["cls", "row", "arms"] ["cls", "row", "arms"] (defScope s_t_of) := ⟨rfl, rfl, rfl, by decide +kernel, rfl, by decide +kernel, by decide +kernel⟩
abbrev s_t___len__ : Stmt := inClass (topS 27) 2
theorem sc_t___len__ : FnScope ["self"] ["self"] (defScope s_t___len__) := ⟨rfl, rfl, rfl, by decide +kernel, rfl, by decide +kernel, by decide +kernel⟩
abbrev s_t___contains__ : Stmt := inClass (topS 27) 3
theorem sc_t___contains__ : FnScope ["self", "thing"] ["self", "thing"] (defScope s_t___contains__) := ⟨rfl, rfl, rfl, by decide +kernel, rfl, by decide +kernel, by decide +kernel⟩
abbrev s_t___iter__ : Stmt := inClass (topS 27) 4
theorem sc_t___iter__ : FnScope ["self"] ["self"] (defScope s_t___iter__) := ⟨rfl, rfl, rfl, by decide +kernel, rfl, by decide +kernel, by decide +kernel⟩
abbrev s_t___getitem__ : Stmt := inClass (topS 27) 5
theorem sc_t___getitem__ : FnScope ["self", "place", "first"] ["self", "place"] (defScope s_t___getitem__) := ⟨rfl, rfl, rfl, by decide +kernel, rfl, by decide +kernel, by decide +kernel⟩
abbrev s_t_parent : Stmt := inClass (topS 27) 7
theorem sc_t_parent : FnScope ["self", "place"] ["self", "place"] (defScope s_t_parent) := ⟨rfl, rfl, rfl, by decide +kernel, rfl, by decide +kernel, by decide +kernel⟩
abbrev s_t_way_to : Stmt := inClass (topS 27) 8
theorem sc_t_way_to : FnScope ["self", "place", "way", "above"] ["self", "place"] (defScope s_t_way_to) := ⟨rfl, rfl, rfl, by decide +kernel, rfl, by decide +kernel, by decide +kernel⟩
abbrev s_t_depth : Stmt := inClass (topS 27) 9
theorem sc_t_depth : FnScope ["self", "place"] ["self", "place"] (defScope s_t_depth) := ⟨rfl, rfl, rfl, by decide +kernel, rfl, by decide +kernel, by decide +kernel⟩
abbrev s_t_subtree : Stmt := inClass (topS 27) 12
theorem sc_t_subtree : FnScope ["self", "place", "below"] ["self", "place"] (defScope s_t_subtree) := ⟨rfl, rfl, rfl, by decide +kernel, rfl, by decide +kernel, by decide +kernel⟩
abbrev s_is_heap : Stmt := topS 29
theorem sc_is_heap : FnScope ["row", "arms"] ["row", "arms"] (defScope s_is_heap) := ⟨rfl, rfl, rfl, by decide +kernel, rfl, by decide +kernel, by decide +kernel⟩
abbrev s_faults : Stmt := topS 30
theorem sc_faults : FnScope ["row", "arms", "tree", "place"] ["row", "arms"] (defScope s_faults) := ⟨rfl, rfl, rfl, by decide +kernel, rfl, by decide +kernel, by decide +kernel⟩
abbrev s_heap_of : Stmt := topS 31
theorem sc_heap_of : FnScope ["row", "arms", "wrong"] ["row", "arms"] (defScope s_heap_of) := ⟨rfl, rfl, rfl, by decide +kernel, rfl, by decide +kernel, by decide +kernel⟩
abbrev s_different_heap_of : Stmt := topS 32
theorem sc_different_heap_of : FnScope ["row", "arms", "heap"] ["row", "arms"] (defScope s_different_heap_of) := ⟨rfl, rfl, rfl, by decide +kernel, rfl, by decide +kernel, by decide +kernel⟩
abbrev s_z___init__ : Stmt := inClass (topS 34) 0
theorem sc_z___init__ : FnScope ["self", "row", "way", "looks"] ["self", "row", "way", "looks"] (defScope s_z___init__) := ⟨rfl, rfl, rfl, by decide +kernel, rfl, by decide +kernel, by decide +kernel⟩
abbrev s_sift_up : Stmt := topS 35
theorem sc_sift_up : FnScope ["row", "place", "arms", "tree", "above", "keys", "way", "looks", "parent", "here"] ["row", "place", "arms"] (defScope s_sift_up) := ⟨rfl, rfl, rfl, by decide +kernel, rfl, by decide +kernel, by decide +kernel⟩
abbrev s_sift_down : Stmt := topS 36
theorem sc_sift_down : FnScope ["row", "place", "arms", "tree", "children", "keys", "way", "looks", "here", "child"] ["row", "place", "arms"] (defScope s_sift_down) := ⟨rfl, rfl, rfl, by decide +kernel, rfl, by decide +kernel, by decide +kernel⟩
abbrev s_least_child : Stmt := topS 37
theorem sc_least_child : FnScope ["keys", "children"] ["keys", "children"] (defScope s_least_child) := ⟨rfl, rfl, rfl, by decide +kernel, rfl, by decide +kernel, by decide +kernel⟩
abbrev s_row_before : Stmt := topS 38
theorem sc_row_before : FnScope ["row", "way", "keys", "place", "after"] ["row", "way"] (defScope s_row_before) := ⟨rfl, rfl, rfl, by decide +kernel, rfl, by decide +kernel, by decide +kernel⟩
abbrev s_u___init__ : Stmt := inClass (topS 40) 0
theorem sc_u___init__ : FnScope ["self", "row", "stops", "changes", "looks", "stop"] ["self", "row", "stops", "changes", "looks"] (defScope s_u___init__) := ⟨rfl, rfl, rfl, by decide +kernel, rfl, by decide +kernel, by decide +kernel⟩
abbrev s_push : Stmt := topS 41
theorem sc_push : FnScope ["row", "key", "arms", "heap"] ["row", "key", "arms"] (defScope s_push) := ⟨rfl, rfl, rfl, by decide +kernel, rfl, by decide +kernel, by decide +kernel⟩
abbrev s_take : Stmt := topS 42
theorem sc_take : FnScope ["row", "arms", "heap"] ["row", "arms"] (defScope s_take) := ⟨rfl, rfl, rfl, by decide +kernel, rfl, by decide +kernel, by decide +kernel⟩
abbrev s_take_by_hole : Stmt := topS 43
theorem sc_take_by_hole : FnScope ["row", "arms", "heap", "keys", "tree", "looks", "hole", "child", "sift"] ["row", "arms"] (defScope s_take_by_hole) := ⟨rfl, rfl, rfl, by decide +kernel, rfl, by decide +kernel, by decide +kernel⟩
abbrev s_put_for : Stmt := topS 44
theorem sc_put_for : FnScope ["row", "key", "arms", "heap"] ["row", "key", "arms"] (defScope s_put_for) := ⟨rfl, rfl, rfl, by decide +kernel, rfl, by decide +kernel, by decide +kernel⟩
abbrev s_build : Stmt := topS 45
theorem sc_build : FnScope ["row", "arms", "tree", "heap", "stops", "changes", "looks", "place", "sift"] ["row", "arms"] (defScope s_build) := ⟨rfl, rfl, rfl, by decide +kernel, rfl, by decide +kernel, by decide +kernel⟩
abbrev s_filled_heap_of : Stmt := topS 46
theorem sc_filled_heap_of : FnScope ["row", "arms", "heap"] ["row", "arms"] (defScope s_filled_heap_of) := ⟨rfl, rfl, rfl, by decide +kernel, rfl, by decide +kernel, by decide +kernel⟩
abbrev s_check_filled : Stmt := topS 47
theorem sc_check_filled : FnScope ["heap"] ["heap"] (defScope s_check_filled) := ⟨rfl, rfl, rfl, by decide +kernel, rfl, by decide +kernel, by decide +kernel⟩
abbrev s_code : Stmt := topS 49
theorem sc_code : FnScope ["row", "arms", "made"] ["row", "arms"] (defScope s_code) := ⟨rfl, rfl, rfl, by decide +kernel, rfl, by decide +kernel, by decide +kernel⟩
abbrev s_decode : Stmt := topS 50
theorem sc_decode : FnScope ["row", "stops", "arms", "heap", "tree"] ["row", "stops", "arms"] (defScope s_decode) := ⟨rfl, rfl, rfl, by decide +kernel, rfl, by decide +kernel, by decide +kernel⟩
abbrev s_places_that_stop : Stmt := topS 51
theorem sc_places_that_stop : FnScope ["tree", "place"] ["tree"] (defScope s_places_that_stop) := ⟨rfl, rfl, rfl, by decide +kernel, rfl, by decide +kernel, by decide +kernel⟩
abbrev s_check_stops : Stmt := topS 52
theorem sc_check_stops : FnScope ["stops", "tree", "places", "index", "place"] ["stops", "tree"] (defScope s_check_stops) := ⟨rfl, rfl, rfl, by decide +kernel, rfl, by decide +kernel, by decide +kernel⟩
abbrev s_is_stop : Stmt := topS 53
theorem sc_is_stop : FnScope ["thing", "place", "tree", "begun", "ended"] ["thing", "place", "tree"] (defScope s_is_stop) := ⟨rfl, rfl, rfl, by decide +kernel, rfl, by decide +kernel, by decide +kernel⟩
abbrev s_row_with : Stmt := topS 54
theorem sc_row_with : FnScope ["heap", "stops", "tree", "row", "place", "stop"] ["heap", "stops", "tree"] (defScope s_row_with) := ⟨rfl, rfl, rfl, by decide +kernel, rfl, by decide +kernel, by decide +kernel⟩
abbrev s_way_down : Stmt := topS 55
theorem sc_way_down : FnScope ["tree", "place", "stop"] ["tree", "place", "stop"] (defScope s_way_down) := ⟨rfl, rfl, rfl, by decide +kernel, rfl, by decide +kernel, by decide +kernel⟩
abbrev s_fewest_changed : Stmt := topS 57
theorem sc_fewest_changed : FnScope ["row", "arms", "tree"] ["row", "arms"] (defScope s_fewest_changed) := ⟨rfl, rfl, rfl, by decide +kernel, rfl, by decide +kernel, by decide +kernel⟩
abbrev s_falling_chains : Stmt := topS 58
theorem sc_falling_chains : FnScope ["row", "tree", "chains", "place", "below", "lesser", "longer", "chain"] ["row", "tree"] (defScope s_falling_chains) := ⟨rfl, rfl, rfl, by decide +kernel, rfl, by decide +kernel, by decide +kernel⟩
abbrev s_n___init__ : Stmt := inClass (topS 60) 0
theorem sc_n___init__ : FnScope ["self", "row", "key"] ["self", "row", "key"] (defScope s_n___init__) := ⟨rfl, rfl, rfl, by decide +kernel, rfl, by decide +kernel, by decide +kernel⟩
abbrev s_n___eq__ : Stmt := inClass (topS 60) 1
theorem sc_n___eq__ : FnScope ["self", "other"] ["self", "other"] (defScope s_n___eq__) := ⟨rfl, rfl, rfl, by decide +kernel, rfl, by decide +kernel, by decide +kernel⟩
abbrev s_y___init__ : Stmt := inClass (topS 61) 0
theorem sc_y___init__ : FnScope ["self", "place", "other"] ["self", "place", "other"] (defScope s_y___init__) := ⟨rfl, rfl, rfl, by decide +kernel, rfl, by decide +kernel, by decide +kernel⟩
abbrev s_undo_push : Stmt := topS 62
theorem sc_undo_push : FnScope ["row", "place", "arms", "below", "tree", "lower", "other", "before", "heap"] ["row", "place", "arms"] (defScope s_undo_push) := ⟨rfl, rfl, rfl, by decide +kernel, rfl, by decide +kernel, by decide +kernel⟩
abbrev s_last_places : Stmt := topS 63
theorem sc_last_places : FnScope ["row", "arms", "heap", "place"] ["row", "arms"] (defScope s_last_places) := ⟨rfl, rfl, rfl, by decide +kernel, rfl, by decide +kernel, by decide +kernel⟩
abbrev s_last_way : Stmt := topS 64
theorem sc_last_way : FnScope ["heap", "arms"] ["heap", "arms"] (defScope s_last_way) := ⟨rfl, rfl, rfl, by decide +kernel, rfl, by decide +kernel, by decide +kernel⟩
abbrev s_heap_and_way_below : Stmt := topS 65
theorem sc_heap_and_way_below : FnScope ["row", "place", "arms", "heap", "way"] ["row", "place", "arms"] (defScope s_heap_and_way_below) := ⟨rfl, rfl, rfl, by decide +kernel, rfl, by decide +kernel, by decide +kernel⟩
abbrev s_q___init__ : Stmt := inClass (topS 67) 0
theorem sc_q___init__ : FnScope ["self", "row"] ["self", "row"] (defScope s_q___init__) := ⟨rfl, rfl, rfl, by decide +kernel, rfl, by decide +kernel, by decide +kernel⟩
abbrev s_v___init__ : Stmt := inClass (topS 68) 0
theorem sc_v___init__ : FnScope ["self", "place", "key"] ["self", "place", "key"] (defScope s_v___init__) := ⟨rfl, rfl, rfl, by decide +kernel, rfl, by decide +kernel, by decide +kernel⟩
abbrev s_undo_take : Stmt := topS 69
theorem sc_undo_take : FnScope ["row", "least", "place", "arms", "heap", "over", "before"] ["row", "least", "place", "arms"] (defScope s_undo_take) := ⟨rfl, rfl, rfl, by decide +kernel, rfl, by decide +kernel, by decide +kernel⟩
abbrev s_places_behind : Stmt := topS 70
theorem sc_places_behind : FnScope ["row", "arms", "heap", "over", "place", "key"] ["row", "arms"] (defScope s_places_behind) := ⟨rfl, rfl, rfl, by decide +kernel, rfl, by decide +kernel, by decide +kernel⟩
abbrev s_heap_with_room : Stmt := topS 71
theorem sc_heap_with_room : FnScope ["row", "arms", "heap"] ["row", "arms"] (defScope s_heap_with_room) := ⟨rfl, rfl, rfl, by decide +kernel, rfl, by decide +kernel, by decide +kernel⟩
abbrev s_heap_after : Stmt := topS 72
theorem sc_heap_after : FnScope ["row", "least", "place", "arms", "heap"] ["row", "least", "place", "arms"] (defScope s_heap_after) := ⟨rfl, rfl, rfl, by decide +kernel, rfl, by decide +kernel, by decide +kernel⟩
abbrev s_place_over_next : Stmt := topS 73
theorem sc_place_over_next : FnScope ["heap", "arms"] ["heap", "arms"] (defScope s_place_over_next) := ⟨rfl, rfl, rfl, by decide +kernel, rfl, by decide +kernel, by decide +kernel⟩
abbrev s__law_number : Stmt := topS 75
theorem sc__law_number : FnScope ["script", "index", "cells", "cell", "low", "high", "total", "blend"] ["script", "index"] (defScope s__law_number) := ⟨rfl, rfl, rfl, by decide +kernel, rfl, by decide +kernel, by decide +kernel⟩
abbrev s__law_take : Stmt := topS 76
theorem sc__law_take : FnScope ["draw", "many"] ["draw", "many"] (defScope s__law_take) := ⟨rfl, rfl, rfl, by decide +kernel, rfl, by decide +kernel, by decide +kernel⟩
abbrev s__law_pick : Stmt := topS 77
theorem sc__law_pick : FnScope ["draw", "things"] ["draw", "things"] (defScope s__law_pick) := ⟨rfl, rfl, rfl, by decide +kernel, rfl, by decide +kernel, by decide +kernel⟩
abbrev s__law_arms : Stmt := topS 78
theorem sc__law_arms : FnScope ["draw"] ["draw"] (defScope s__law_arms) := ⟨rfl, rfl, rfl, by decide +kernel, rfl, by decide +kernel, by decide +kernel⟩
abbrev s__law_undone_right : Stmt := topS 79
theorem sc__law_undone_right : FnScope ["row", "wide", "place", "found", "heap", "stops"] ["row", "wide"] (defScope s__law_undone_right) := ⟨rfl, rfl, rfl, by decide +kernel, rfl, by decide +kernel, by decide +kernel⟩
abbrev s__law_done : Stmt := topS 80
theorem sc__law_done : FnScope ["word", "key", "row", "wide", "least", "found", "due"] ["word", "key", "row", "wide"] (defScope s__law_done) := ⟨rfl, rfl, rfl, by decide +kernel, rfl, by decide +kernel, by decide +kernel⟩
abbrev s_law : Stmt := topS 81
theorem sc_law : FnScope ["script", "draw", "wide", "span", "row", "turn", "keys"] ["script"] (defScope s_law) := ⟨rfl, rfl, rfl, by decide +kernel, rfl, by decide +kernel, by decide +kernel⟩
/-- where the text's defs stand -/
structure Ad where
  f_is_integer : Addr
  d_is_integer : FuncData
  f_is_integer_from : Addr
  d_is_integer_from : FuncData
  f_is_key : Addr
  d_is_key : FuncData
  f_check_arms : Addr
  d_check_arms : FuncData
  f_check_many : Addr
  d_check_many : FuncData
  f_check_place : Addr
  d_check_place : FuncData
  f_check_key : Addr
  d_check_key : FuncData
  f_row_of : Addr
  d_row_of : FuncData
  f_check_different : Addr
  d_check_different : FuncData
  f_t___init__ : Addr
  d_t___init__ : FuncData
  f_t_of : Addr
  d_t_of : FuncData
  f_t___len__ : Addr
  d_t___len__ : FuncData
  f_t___contains__ : Addr
  d_t___contains__ : FuncData
  f_t___iter__ : Addr
  d_t___iter__ : FuncData
  f_t___getitem__ : Addr
  d_t___getitem__ : FuncData
  f_t_parent : Addr
  d_t_parent : FuncData
  f_t_way_to : Addr
  d_t_way_to : FuncData
  f_t_depth : Addr
  d_t_depth : FuncData
  f_t_subtree : Addr
  d_t_subtree : FuncData
  f_is_heap : Addr
  d_is_heap : FuncData
  f_faults : Addr
  d_faults : FuncData
  f_heap_of : Addr
  d_heap_of : FuncData
  f_different_heap_of : Addr
  d_different_heap_of : FuncData
  f_z___init__ : Addr
  d_z___init__ : FuncData
  f_sift_up : Addr
  d_sift_up : FuncData
  f_sift_down : Addr
  d_sift_down : FuncData
  f_least_child : Addr
  d_least_child : FuncData
  f_row_before : Addr
  d_row_before : FuncData
  f_u___init__ : Addr
  d_u___init__ : FuncData
  f_push : Addr
  d_push : FuncData
  f_take : Addr
  d_take : FuncData
  f_take_by_hole : Addr
  d_take_by_hole : FuncData
  f_put_for : Addr
  d_put_for : FuncData
  f_build : Addr
  d_build : FuncData
  f_filled_heap_of : Addr
  d_filled_heap_of : FuncData
  f_check_filled : Addr
  d_check_filled : FuncData
  f_code : Addr
  d_code : FuncData
  f_decode : Addr
  d_decode : FuncData
  f_places_that_stop : Addr
  d_places_that_stop : FuncData
  f_check_stops : Addr
  d_check_stops : FuncData
  f_is_stop : Addr
  d_is_stop : FuncData
  f_row_with : Addr
  d_row_with : FuncData
  f_way_down : Addr
  d_way_down : FuncData
  f_fewest_changed : Addr
  d_fewest_changed : FuncData
  f_falling_chains : Addr
  d_falling_chains : FuncData
  f_n___init__ : Addr
  d_n___init__ : FuncData
  f_n___eq__ : Addr
  d_n___eq__ : FuncData
  f_y___init__ : Addr
  d_y___init__ : FuncData
  f_undo_push : Addr
  d_undo_push : FuncData
  f_last_places : Addr
  d_last_places : FuncData
  f_last_way : Addr
  d_last_way : FuncData
  f_heap_and_way_below : Addr
  d_heap_and_way_below : FuncData
  f_q___init__ : Addr
  d_q___init__ : FuncData
  f_v___init__ : Addr
  d_v___init__ : FuncData
  f_undo_take : Addr
  d_undo_take : FuncData
  f_places_behind : Addr
  d_places_behind : FuncData
  f_heap_with_room : Addr
  d_heap_with_room : FuncData
  f_heap_after : Addr
  d_heap_after : FuncData
  f_place_over_next : Addr
  d_place_over_next : FuncData
  f__law_number : Addr
  d__law_number : FuncData
  f__law_take : Addr
  d__law_take : FuncData
  f__law_pick : Addr
  d__law_pick : FuncData
  f__law_arms : Addr
  d__law_arms : FuncData
  f__law_undone_right : Addr
  d__law_undone_right : FuncData
  f__law_done : Addr
  d__law_done : FuncData
  f_law : Addr
  d_law : FuncData
  C : Addr
  po : Addr
  CS : Addr
  CB : Addr
  CU : Addr
  CY : Addr
  CQ : Addr
  CV : Addr
  c_least_child : Addr
  P_least_child : Addr
  c_undo_push : Addr
  P_undo_push : Addr
/-- what the top has written -/
structure Tx (K : PySem.W.Frag) (mg : Str → Option Value) (A : Ad) : Prop where
  F_is_integer : Fun K "is_integer" "is_integer" s_is_integer A.f_is_integer A.d_is_integer
  m_is_integer : mg "is_integer" = some (.ref A.f_is_integer)
  F_is_integer_from : Fun K "is_integer_from" "is_integer_from" s_is_integer_from A.f_is_integer_from A.d_is_integer_from
  m_is_integer_from : mg "is_integer_from" = some (.ref A.f_is_integer_from)
  F_is_key : Fun K "is_key" "is_key" s_is_key A.f_is_key A.d_is_key
  m_is_key : mg "is_key" = some (.ref A.f_is_key)
  F_check_arms : Fun K "check_arms" "check_arms" s_check_arms A.f_check_arms A.d_check_arms
  m_check_arms : mg "check_arms" = some (.ref A.f_check_arms)
  F_check_many : Fun K "check_many" "check_many" s_check_many A.f_check_many A.d_check_many
  m_check_many : mg "check_many" = some (.ref A.f_check_many)
  F_check_place : Fun K "check_place" "check_place" s_check_place A.f_check_place A.d_check_place
  m_check_place : mg "check_place" = some (.ref A.f_check_place)
  F_check_key : Fun K "check_key" "check_key" s_check_key A.f_check_key A.d_check_key
  m_check_key : mg "check_key" = some (.ref A.f_check_key)
  F_row_of : Fun K "row_of" "row_of" s_row_of A.f_row_of A.d_row_of
  m_row_of : mg "row_of" = some (.ref A.f_row_of)
  F_check_different : Fun K "check_different" "check_different" s_check_different A.f_check_different A.d_check_different
  m_check_different : mg "check_different" = some (.ref A.f_check_different)
  F_t___init__ : FunD K "__init__" "Tree.__init__" (defArgs s_t___init__) (defBody s_t___init__) (defScope s_t___init__) [] [("arms", V.int 2)] A.f_t___init__ A.d_t___init__
  F_t_of : FunD K "of" "Tree.of" (defArgs s_t_of) (defBody s_t_of) (defScope s_t_of) [] [("arms", V.int 2)] A.f_t_of A.d_t_of
  F_t___len__ : Fun K "__len__" "Tree.__len__" s_t___len__ A.f_t___len__ A.d_t___len__
  D_t___len__ : Dn K A.C "__len__" A.f_t___len__
  F_t___contains__ : Fun K "__contains__" "Tree.__contains__" s_t___contains__ A.f_t___contains__ A.d_t___contains__
  D_t___contains__ : Dn K A.C "__contains__" A.f_t___contains__
  F_t___iter__ : Fun K "__iter__" "Tree.__iter__" s_t___iter__ A.f_t___iter__ A.d_t___iter__
  D_t___iter__ : Dn K A.C "__iter__" A.f_t___iter__
  F_t___getitem__ : Fun K "__getitem__" "Tree.__getitem__" s_t___getitem__ A.f_t___getitem__ A.d_t___getitem__
  D_t___getitem__ : Dn K A.C "__getitem__" A.f_t___getitem__
  F_t_parent : Fun K "parent" "Tree.parent" s_t_parent A.f_t_parent A.d_t_parent
  M_t_parent : Meth K A.C "parent" A.f_t_parent
  F_t_way_to : Fun K "way_to" "Tree.way_to" s_t_way_to A.f_t_way_to A.d_t_way_to
  M_t_way_to : Meth K A.C "way_to" A.f_t_way_to
  F_t_depth : Fun K "depth" "Tree.depth" s_t_depth A.f_t_depth A.d_t_depth
  M_t_depth : Meth K A.C "depth" A.f_t_depth
  F_t_subtree : Fun K "subtree" "Tree.subtree" s_t_subtree A.f_t_subtree A.d_t_subtree
  M_t_subtree : Meth K A.C "subtree" A.f_t_subtree
  F_is_heap : FunD K "is_heap" "is_heap" (defArgs s_is_heap) (defBody s_is_heap) (defScope s_is_heap) [] [("arms", V.int 2)] A.f_is_heap A.d_is_heap
  m_is_heap : mg "is_heap" = some (.ref A.f_is_heap)
  F_faults : FunD K "faults" "faults" (defArgs s_faults) (defBody s_faults) (defScope s_faults) [] [("arms", V.int 2)] A.f_faults A.d_faults
  m_faults : mg "faults" = some (.ref A.f_faults)
  F_heap_of : Fun K "heap_of" "heap_of" s_heap_of A.f_heap_of A.d_heap_of
  m_heap_of : mg "heap_of" = some (.ref A.f_heap_of)
  F_different_heap_of : Fun K "different_heap_of" "different_heap_of" s_different_heap_of A.f_different_heap_of A.d_different_heap_of
  m_different_heap_of : mg "different_heap_of" = some (.ref A.f_different_heap_of)
  F_z___init__ : Fun K "__init__" "Sift.__init__" s_z___init__ A.f_z___init__ A.d_z___init__
  F_sift_up : FunD K "sift_up" "sift_up" (defArgs s_sift_up) (defBody s_sift_up) (defScope s_sift_up) [] [("arms", V.int 2)] A.f_sift_up A.d_sift_up
  m_sift_up : mg "sift_up" = some (.ref A.f_sift_up)
  F_sift_down : FunD K "sift_down" "sift_down" (defArgs s_sift_down) (defBody s_sift_down) (defScope s_sift_down) [] [("arms", V.int 2)] A.f_sift_down A.d_sift_down
  m_sift_down : mg "sift_down" = some (.ref A.f_sift_down)
  L_least_child : ∃ (oc : Value) (od : Option Addr) (kV doc pm : Value) (an : Option Addr) (ct : Value) (osl : Array (Option Value)), A.d_least_child = PySem.W.fnOf "least_child" "least_child" (defArgs s_least_child) (defBody s_least_child) (defScope s_least_child) .none kV doc pm an (.ref A.c_least_child) ct ∧ K.lookup A.f_least_child = some ⟨oc, od, .func A.d_least_child, osl⟩ ∧ PySem.W.codeIn K (.ref A.c_least_child) "least_child" = true
  F_least_child : Fun K "least_child" "least_child" s_least_child A.f_least_child A.d_least_child
  m_least_child : mg "least_child" = some (.ref A.f_least_child)
  F_row_before : Fun K "row_before" "row_before" s_row_before A.f_row_before A.d_row_before
  m_row_before : mg "row_before" = some (.ref A.f_row_before)
  F_u___init__ : Fun K "__init__" "Built.__init__" s_u___init__ A.f_u___init__ A.d_u___init__
  F_push : FunD K "push" "push" (defArgs s_push) (defBody s_push) (defScope s_push) [] [("arms", V.int 2)] A.f_push A.d_push
  m_push : mg "push" = some (.ref A.f_push)
  F_take : FunD K "take" "take" (defArgs s_take) (defBody s_take) (defScope s_take) [] [("arms", V.int 2)] A.f_take A.d_take
  m_take : mg "take" = some (.ref A.f_take)
  F_take_by_hole : FunD K "take_by_hole" "take_by_hole" (defArgs s_take_by_hole) (defBody s_take_by_hole) (defScope s_take_by_hole) [] [("arms", V.int 2)] A.f_take_by_hole A.d_take_by_hole
  m_take_by_hole : mg "take_by_hole" = some (.ref A.f_take_by_hole)
  F_put_for : FunD K "put_for" "put_for" (defArgs s_put_for) (defBody s_put_for) (defScope s_put_for) [] [("arms", V.int 2)] A.f_put_for A.d_put_for
  m_put_for : mg "put_for" = some (.ref A.f_put_for)
  F_build : FunD K "build" "build" (defArgs s_build) (defBody s_build) (defScope s_build) [] [("arms", V.int 2)] A.f_build A.d_build
  m_build : mg "build" = some (.ref A.f_build)
  F_filled_heap_of : Fun K "filled_heap_of" "filled_heap_of" s_filled_heap_of A.f_filled_heap_of A.d_filled_heap_of
  m_filled_heap_of : mg "filled_heap_of" = some (.ref A.f_filled_heap_of)
  F_check_filled : Fun K "check_filled" "check_filled" s_check_filled A.f_check_filled A.d_check_filled
  m_check_filled : mg "check_filled" = some (.ref A.f_check_filled)
  F_code : FunD K "code" "code" (defArgs s_code) (defBody s_code) (defScope s_code) [] [("arms", V.int 2)] A.f_code A.d_code
  m_code : mg "code" = some (.ref A.f_code)
  F_decode : FunD K "decode" "decode" (defArgs s_decode) (defBody s_decode) (defScope s_decode) [] [("arms", V.int 2)] A.f_decode A.d_decode
  m_decode : mg "decode" = some (.ref A.f_decode)
  F_places_that_stop : Fun K "places_that_stop" "places_that_stop" s_places_that_stop A.f_places_that_stop A.d_places_that_stop
  m_places_that_stop : mg "places_that_stop" = some (.ref A.f_places_that_stop)
  F_check_stops : Fun K "check_stops" "check_stops" s_check_stops A.f_check_stops A.d_check_stops
  m_check_stops : mg "check_stops" = some (.ref A.f_check_stops)
  F_is_stop : Fun K "is_stop" "is_stop" s_is_stop A.f_is_stop A.d_is_stop
  m_is_stop : mg "is_stop" = some (.ref A.f_is_stop)
  F_row_with : Fun K "row_with" "row_with" s_row_with A.f_row_with A.d_row_with
  m_row_with : mg "row_with" = some (.ref A.f_row_with)
  F_way_down : Fun K "way_down" "way_down" s_way_down A.f_way_down A.d_way_down
  m_way_down : mg "way_down" = some (.ref A.f_way_down)
  F_fewest_changed : FunD K "fewest_changed" "fewest_changed" (defArgs s_fewest_changed) (defBody s_fewest_changed) (defScope s_fewest_changed) [] [("arms", V.int 2)] A.f_fewest_changed A.d_fewest_changed
  m_fewest_changed : mg "fewest_changed" = some (.ref A.f_fewest_changed)
  F_falling_chains : Fun K "falling_chains" "falling_chains" s_falling_chains A.f_falling_chains A.d_falling_chains
  m_falling_chains : mg "falling_chains" = some (.ref A.f_falling_chains)
  F_n___init__ : Fun K "__init__" "Undone.__init__" s_n___init__ A.f_n___init__ A.d_n___init__
  F_n___eq__ : Fun K "__eq__" "Undone.__eq__" s_n___eq__ A.f_n___eq__ A.d_n___eq__
  F_y___init__ : Fun K "__init__" "Stuck.__init__" s_y___init__ A.f_y___init__ A.d_y___init__
  L_undo_push : ∃ (oc : Value) (od : Option Addr) (kV doc pm : Value) (an : Option Addr) (ct : Value) (osl : Array (Option Value)), A.d_undo_push = PySem.W.fnOf "undo_push" "undo_push" (defArgs s_undo_push) (defBody s_undo_push) (defScope s_undo_push) .none kV doc pm an (.ref A.c_undo_push) ct ∧ K.lookup A.f_undo_push = some ⟨oc, od, .func A.d_undo_push, osl⟩ ∧ PySem.W.codeIn K (.ref A.c_undo_push) "undo_push" = true
  F_undo_push : FunD K "undo_push" "undo_push" (defArgs s_undo_push) (defBody s_undo_push) (defScope s_undo_push) [] [("arms", V.int 2)] A.f_undo_push A.d_undo_push
  m_undo_push : mg "undo_push" = some (.ref A.f_undo_push)
  F_last_places : FunD K "last_places" "last_places" (defArgs s_last_places) (defBody s_last_places) (defScope s_last_places) [] [("arms", V.int 2)] A.f_last_places A.d_last_places
  m_last_places : mg "last_places" = some (.ref A.f_last_places)
  F_last_way : Fun K "last_way" "last_way" s_last_way A.f_last_way A.d_last_way
  m_last_way : mg "last_way" = some (.ref A.f_last_way)
  F_heap_and_way_below : Fun K "heap_and_way_below" "heap_and_way_below" s_heap_and_way_below A.f_heap_and_way_below A.d_heap_and_way_below
  m_heap_and_way_below : mg "heap_and_way_below" = some (.ref A.f_heap_and_way_below)
  F_q___init__ : Fun K "__init__" "Before.__init__" s_q___init__ A.f_q___init__ A.d_q___init__
  F_v___init__ : Fun K "__init__" "Over.__init__" s_v___init__ A.f_v___init__ A.d_v___init__
  F_undo_take : FunD K "undo_take" "undo_take" (defArgs s_undo_take) (defBody s_undo_take) (defScope s_undo_take) [] [("arms", V.int 2)] A.f_undo_take A.d_undo_take
  m_undo_take : mg "undo_take" = some (.ref A.f_undo_take)
  F_places_behind : FunD K "places_behind" "places_behind" (defArgs s_places_behind) (defBody s_places_behind) (defScope s_places_behind) [] [("arms", V.int 2)] A.f_places_behind A.d_places_behind
  m_places_behind : mg "places_behind" = some (.ref A.f_places_behind)
  F_heap_with_room : Fun K "heap_with_room" "heap_with_room" s_heap_with_room A.f_heap_with_room A.d_heap_with_room
  m_heap_with_room : mg "heap_with_room" = some (.ref A.f_heap_with_room)
  F_heap_after : Fun K "heap_after" "heap_after" s_heap_after A.f_heap_after A.d_heap_after
  m_heap_after : mg "heap_after" = some (.ref A.f_heap_after)
  F_place_over_next : Fun K "place_over_next" "place_over_next" s_place_over_next A.f_place_over_next A.d_place_over_next
  m_place_over_next : mg "place_over_next" = some (.ref A.f_place_over_next)
  F__law_number : Fun K "_law_number" "_law_number" s__law_number A.f__law_number A.d__law_number
  m__law_number : mg "_law_number" = some (.ref A.f__law_number)
  F__law_take : Fun K "_law_take" "_law_take" s__law_take A.f__law_take A.d__law_take
  m__law_take : mg "_law_take" = some (.ref A.f__law_take)
  F__law_pick : Fun K "_law_pick" "_law_pick" s__law_pick A.f__law_pick A.d__law_pick
  m__law_pick : mg "_law_pick" = some (.ref A.f__law_pick)
  F__law_arms : Fun K "_law_arms" "_law_arms" s__law_arms A.f__law_arms A.d__law_arms
  m__law_arms : mg "_law_arms" = some (.ref A.f__law_arms)
  F__law_undone_right : Fun K "_law_undone_right" "_law_undone_right" s__law_undone_right A.f__law_undone_right A.d__law_undone_right
  m__law_undone_right : mg "_law_undone_right" = some (.ref A.f__law_undone_right)
  F__law_done : Fun K "_law_done" "_law_done" s__law_done A.f__law_done A.d__law_done
  m__law_done : mg "_law_done" = some (.ref A.f__law_done)
  F_law : Fun K "law" "law" s_law A.f_law A.d_law
  m_law : mg "law" = some (.ref A.f_law)
  pne : A.P_least_child ≠ A.P_undo_push
  c_GREATEST_KEY : mg "GREATEST_KEY" = some (.int 1000000000 0) ∨ ∃ t, mg "GREATEST_KEY" = some (.int 1000000000 t)
  c_MOST_ARMS : mg "MOST_ARMS" = some (.int 4 0) ∨ ∃ t, mg "MOST_ARMS" = some (.int 4 t)
  c_MOST_PLACES : mg "MOST_PLACES" = some (.int 12 0) ∨ ∃ t, mg "MOST_PLACES" = some (.int 12 t)
  g_bool : mg "bool" = none
  g_enumerate : mg "enumerate" = none
  g_int : mg "int" = none
  g_isinstance : mg "isinstance" = none
  g_iter : mg "iter" = none
  g_len : mg "len" = none
  g_list : mg "list" = none
  g_min : mg "min" = none
  g_range : mg "range" = none
  g_reversed : mg "reversed" = none
  g_set : mg "set" = none
  g_sorted : mg "sorted" = none
  g_sum : mg "sum" = none
  g_tuple : mg "tuple" = none
  g_zip : mg "zip" = none
  cT : Cls K A.C
  nMany : NoAttr K A.C "many"
  nArms : NoAttr K A.C "arms"
  nPl : NoAttr K A.C "_places"
  mC : mg "Tree" = some (.ref A.C)
  mkC : Mk K A.C A.f_t___init__
  cr : ClX.CRead K A.C (.type "type")
  cof : ClX.CMet K A.C (.type "type") "of" A.po A.f_t_of
  cTS : Cls K A.CS
  nRow : NoAttr K A.CS "row"
  nWay : NoAttr K A.CS "way"
  nLooks : NoAttr K A.CS "looks"
  mCS : mg "Sift" = some (.ref A.CS)
  mkCS : Mk K A.CS A.f_z___init__
  cTB : Cls K A.CB
  bRow : NoAttr K A.CB "row"
  bStops : NoAttr K A.CB "stops"
  bChanges : NoAttr K A.CB "changes"
  bLooks : NoAttr K A.CB "looks"
  mCB : mg "Built" = some (.ref A.CB)
  mkCB : Mk K A.CB A.f_u___init__
  cTU : Cls K A.CU
  uRow : NoAttr K A.CU "row"
  uKey : NoAttr K A.CU "key"
  mCU : mg "Undone" = some (.ref A.CU)
  mkCU : Mk K A.CU A.f_n___init__
  eqcU : EqC K A.CU A.f_n___eq__
  kaU : PySem.W.findIn K (.ref A.CU) "__class__" = some (some (.builtin "object.__class__"))
  knU : PySem.W.specialIn K (.builtin "object.__class__") "__get__" = some (some (.builtin "getset_descriptor.__get__"))
  ktkU : PySem.W.takesIn K (.builtin "object.__class__") = some true
  kmU : PySem.W.mroIn K A.CU (.type "object") = some true
  kiU_int : PySem.W.kitOne K (.type "int") (.ref A.CU) = some false
  kiU_tuple : PySem.W.kitOne K (.type "tuple") (.ref A.CU) = some false
  nfU_CY : PySem.W.notFirst K A.CU (.ref A.CY) = true
  kiU_CY : PySem.W.kitOne K (.ref A.CY) (.ref A.CU) = some false
  cTY : Cls K A.CY
  yPlace : NoAttr K A.CY "place"
  yOther : NoAttr K A.CY "other"
  mCY : mg "Stuck" = some (.ref A.CY)
  mkCY : Mk K A.CY A.f_y___init__
  kaY : PySem.W.findIn K (.ref A.CY) "__class__" = some (some (.builtin "object.__class__"))
  knY : PySem.W.specialIn K (.builtin "object.__class__") "__get__" = some (some (.builtin "getset_descriptor.__get__"))
  ktkY : PySem.W.takesIn K (.builtin "object.__class__") = some true
  kmY : PySem.W.mroIn K A.CY (.type "object") = some true
  kiY_CU : PySem.W.kitOne K (.ref A.CU) (.ref A.CY) = some false
  cTQ : Cls K A.CQ
  qRow : NoAttr K A.CQ "row"
  mCQ : mg "Before" = some (.ref A.CQ)
  mkCQ : Mk K A.CQ A.f_q___init__
  cTV : Cls K A.CV
  vPlace : NoAttr K A.CV "place"
  vKey : NoAttr K A.CV "key"
  mCV : mg "Over" = some (.ref A.CV)
  mkCV : Mk K A.CV A.f_v___init__
def TT (A : Ad) : List (Addr × Str) := [(A.P_least_child, ("least_child" : Str) ++ ".<locals>." ++ "<lambda>"), (A.P_undo_push, ("undo_push" : Str) ++ ".<locals>." ++ "<lambda>")]
theorem tt_mem0 (A : Ad) : (A.P_least_child, ("least_child" : Str) ++ ".<locals>." ++ "<lambda>") ∈ TT A := List.mem_cons_self
theorem tt_mem1 (A : Ad) : (A.P_undo_push, ("undo_push" : Str) ++ ".<locals>." ++ "<lambda>") ∈ TT A := List.mem_cons_of_mem _ List.mem_cons_self
theorem tt_un0 {A : Ad} (h : A.P_least_child ≠ A.P_undo_push) : ∀ q ∈ TT A, q.1 = A.P_least_child → q.2 = ("least_child" : Str) ++ ".<locals>." ++ "<lambda>" := fun q hq e => by
  rcases List.mem_cons.mp hq with rfl | hq
  · rfl
  · rw [List.mem_singleton.mp hq] at e
    exact absurd e.symm h
theorem tt_un1 {A : Ad} (h : A.P_least_child ≠ A.P_undo_push) : ∀ q ∈ TT A, q.1 = A.P_undo_push → q.2 = ("undo_push" : Str) ++ ".<locals>." ++ "<lambda>" := fun q hq e => by
  rcases List.mem_cons.mp hq with rfl | hq
  · exact absurd e h
  · rw [List.mem_singleton.mp hq]

end Tw

set_option Elab.async false
set_option linter.all false
set_option maxRecDepth 100000
set_option maxHeartbeats 2000000
namespace Tw
open PySem PySem.Spec PyProof.Rows L2
section
variable {P : Program} {w : World} {K : PySem.W.Frag} {mg : Str → Option Value} {base : Heap} {A : Ad}
open LamX (ExtN Tabs TabS)
theorem extN_of {H H' : Hp} (s : Same H H') : ExtN H H' := fun b o e _ => s b o e
theorem int_deq (a b : Int) : decide (V.int a = V.int b) = decide (a = b) := by
  by_cases h : a = b
  · rw [decide_eq_true h, decide_eq_true (by rw [h])]
  · rw [decide_eq_false h, decide_eq_false fun z => h (by injection z)]
theorem ints_all : ∀ ks ms : List Int, PyData.eqvAll (ks.map PyData.int) (ms.map PyData.int) = decide (ks = ms)
  | [], [] => by simp [PyData.eqvAll]
  | [], m :: ms => by simp [PyData.eqvAll]
  | k :: ks, [] => by simp [PyData.eqvAll]
  | k :: ks, m :: ms => by
    simp only [List.map_cons, PyData.eqvAll, ints_all ks ms, PyData.eqv]
    by_cases h1 : k = m
    · by_cases h2 : ks = ms <;> simp [h1, h2]
    · simp [h1]
theorem ints_eqv (ks ms : List Int) : PyData.eqv (.tuple (ks.map PyData.int)) (.tuple (ms.map PyData.int)) = decide (ks = ms) := by
  rw [← ints_all]
  simp [PyData.eqv]
theorem shaped_ints (ns : List Int) : SeqAt.shaped (.list (ns.map PyData.int)) = true := by
  have h1 : ∀ ms : List Int, PyData.canLayAll0 (ms.map PyData.int) = true := fun ms => by
    induction ms with
    | nil => rfl
    | cons m ms ih => rw [List.map_cons, PyData.canLayAll0, ih]; rfl
  have h2 : ∀ ms : List Int, PyData.depthAll (ms.map PyData.int) ≤ 1 := fun ms => by
    induction ms with
    | nil => simp [PyData.depthAll]
    | cons m ms ih =>
      simp only [List.map_cons, PyData.depthAll, PyData.depth]
      omega
  have h3 : PyData.depth (.list (ns.map PyData.int)) ≤ 64 := by
    have := h2 ns
    simp only [PyData.depth]
    omega
  unfold SeqAt.shaped
  rw [decide_eq_true h3, Bool.and_true]
  simp only [PyData.canLay0]
  exact h1 ns
theorem ints_shT (ks : List Int) : SeqAt.shaped (.tuple (ks.map PyData.int)) = true := by
  have h := shaped_ints ks
  unfold SeqAt.shaped at h ⊢
  simp only [PyData.canLay0, PyData.depth] at h ⊢
  exact h
theorem ints_dp (K : PySem.W.Frag) (H : Hp) : ∀ ns : List Int, DpAll K H (ns.map V.int) (ns.map PyData.int)
  | [] => .nil
  | n :: ns => .cons (.int n) (ints_dp K H ns)
theorem ints_tup (K : PySem.W.Frag) {H : Hp} {a : Addr} {ks : List Int} (h : H a = some (.tup (ks.map V.int))) : Dp K H (.ref a) (.tuple (ks.map PyData.int)) := .tup (SqT.of h) (ints_dp K H ks)
end
end Tw

set_option Elab.async false
set_option linter.all false
set_option maxRecDepth 100000
set_option maxHeartbeats 2000000
namespace Tw
open PySem PySem.Spec PyProof.Rows L2
section
variable {P : Program} {w : World} {K : PySem.W.Frag} {mg : Str → Option Value} {base : Heap} {A : Ad}
open LamX (ExtN Tabs TabS)
/-! Undone -/
def fdU (v0 v1 : V) : List (Str × V) := putF "key" v1 (putF "row" v0 (([] : List (Str × V))))
theorem fdU_row (v0 v1 : V) : (fdU v0 v1).lookup ("row" : Str) = some v0 := by
  unfold fdU
  rw [lookup_putF, if_neg (by decide +kernel), lookup_putF, if_pos rfl]
theorem fdU_key (v0 v1 : V) : (fdU v0 v1).lookup ("key" : Str) = some v1 := by
  unfold fdU
  rw [lookup_putF, if_pos rfl]
def AtU (C : Addr) (H : Hp) (p : Addr) (x0 : List Int) (x1 : Int) : Prop := ∃ (dx t0 : Addr), H p = some (.ins C dx (fdU (.ref t0) (.int x1))) ∧ H t0 = some (.tup (x0.map V.int))
theorem AtU.ext {C : Addr} {H H' : Hp} {p : Addr} {x0 : List Int} {x1 : Int} (h : AtU C H p x0 x1) (e : LamX.ExtN H H') : AtU C H' p x0 x1 := let ⟨dx, t0, h, e0⟩ := h; ⟨dx, t0, e _ _ h (fun _ z => nomatch z), e _ _ e0 (fun _ z => nomatch z)⟩
theorem AtU.same {C : Addr} {H H' : Hp} {p : Addr} {x0 : List Int} {x1 : Int} (h : AtU C H p x0 x1) (s : Same H H') : AtU C H' p x0 x1 := h.ext (extN_of s)
theorem AtU.ins {C : Addr} {H : Hp} {p : Addr} {x0 : List Int} {x1 : Int} (h : AtU C H p x0 x1) : ∃ dx fs, H p = some (.ins C dx fs) := let ⟨dx, t0, h, e0⟩ := h; ⟨dx, _, h⟩
def spIU (C : Addr) : Sp := fun vs H Q _ => ∃ (p dx a0 : Nat) (x0 : List Int) (x1 : Int), vs = [.ref p, .ref a0, .int x1] ∧ H p = some (.ins C dx []) ∧ (H a0 = some (.lst (x0.map V.int)) ∨ H a0 = some (.tup (x0.map V.int))) ∧ ∀ (H' : Hp), (∀ b o, H b = some o → b ≠ p → H' b = some o) → AtU C H' p x0 x1 → Q .non H'
theorem ok_iU (T : Tx K mg A) : FnOk P w K mg base CX0 1 A.f_n___init__ A.d_n___init__ ["self", "row", "key"] (spIU A.CU) := by
  refine T.F_n___init__.ok sc_n___init__ (fun vs H Q E h => ?_) (fun cdv B outer s H vs Q E hr h => ?_)
  · obtain ⟨p, dx, a0, x0, x1, rfl, _⟩ := h
    rfl
  · obtain ⟨p, dx, a0, x0, x1, rfl, hp, ha0, q⟩ := h
    refine ⟨_, (pss_cons (ps_fld (pv 0) (pe_callTy (r := rTupU) call_tupU (by rfl) T.g_tuple (by decide +kernel) (pa_cons (pv 1) pa_nil)) rfl)
      (pss_one (ps_fld (pv 0) (pv 2) rfl))), ?_⟩
    have fr : ∀ b o, H b = some o → b ≠ p → H b = some o := fun b o e _ => e
    refine ⟨_, rfl, a0, _, rfl, ha0, fun t0 G0 s0 e0 => ?_⟩
    have hp := s0 _ _ hp
    have fr : ∀ b o, H b = some o → b ≠ p → G0 b = some o := fun b o e n => s0 _ _ (fr b o e n)
    refine ⟨_, rfl, p, A.CU, dx, _, rfl, hp, T.cTU, T.uRow, (by show 0 < 1000; decide), ?_⟩
    have fr : ∀ b o, H b = some o → b ≠ p → (upd G0 p (.ins A.CU dx (putF "row" (.ref t0) ([])))) b = some o := fun b o e n => by rw [upd_ne n]; exact fr b o e n
    have e0 : (upd G0 p (.ins A.CU dx (putF "row" (.ref t0) ([])))) t0 = _ := (upd_ne (ne_of e0 hp (by intro z; cases z))).trans e0
    have hp : (upd G0 p (.ins A.CU dx (putF "row" (.ref t0) ([])))) p = _ := upd_same
    generalize upd G0 p (.ins A.CU dx (putF "row" (.ref t0) ([]))) = U0 at fr hp e0
    refine ⟨_, rfl, _, rfl, p, A.CU, dx, _, rfl, hp, T.cTU, T.uKey, (by show 1 < 1000; decide), ?_⟩
    have fr : ∀ b o, H b = some o → b ≠ p → (upd U0 p (.ins A.CU dx (putF "key" (.int x1) (putF "row" (.ref t0) ([]))))) b = some o := fun b o e n => by rw [upd_ne n]; exact fr b o e n
    have e0 : (upd U0 p (.ins A.CU dx (putF "key" (.int x1) (putF "row" (.ref t0) ([]))))) t0 = _ := (upd_ne (ne_of e0 hp (by intro z; cases z))).trans e0
    have hp : (upd U0 p (.ins A.CU dx (putF "key" (.int x1) (putF "row" (.ref t0) ([]))))) p = _ := upd_same
    exact q _ fr ⟨dx, t0, hp, e0⟩
theorem b_iU (T : Tx K mg A) : L2.Binds K A.d_n___init__ ["self", "row", "key"] [] := T.F_n___init__.binds fun _ _ _ _ _ _ us hl => match us, hl with | [_, _, _], _ => rfl
def spEU (K : PySem.W.Frag) (C : Addr) : Sp := fun vs H Q _ => ∃ (o : Addr) (y : V) (x0 : List Int) (x1 : Int), vs = [.ref o, y] ∧ AtU C H o x0 x1 ∧ ((∃ (b : Addr) (y0 : List Int) (y1 : Int), y = .ref b ∧ AtU C H b y0 y1 ∧ Q (.bl (decide (x0 = y0 ∧ x1 = y1))) H) ∨
  (∃ u, TyX K H y u ∧ PySem.W.kitOne K u (.ref C) = some false ∧ Q (.bl false) H))
theorem ok_eU (T : Tx K mg A) : FnOk P w K mg base CX0 1 A.f_n___eq__ A.d_n___eq__ ["self", "other"] (spEU K A.CU) := by
  refine T.F_n___eq__.ok sc_n___eq__ (fun vs H Q E h => ?_) (fun cdv B outer s H vs Q E hr h => ?_)
  · obtain ⟨o, y, x0, x1, rfl, _⟩ := h
    rfl
  · obtain ⟨o, y, x0, x1, rfl, ⟨dx, t0, g, e0⟩, h⟩ := h
    have hu := hr.units
    refine ⟨_, (pss_one (ps_ret (pe_and (pe_callB (r := rIsi K) call_isi (by rfl) T.g_isinstance (by decide +kernel) (pa_cons (pv 1) (pa_cons (pe_glob (v := .ref A.CU) (by rfl) T.mCU (relR _)) pa_nil))) (pe_and (pe_cmpR (op_eqD hu) (pe_fld (pv 0) rfl) (pe_fld (pv 1) rfl) (nomark _)) (pe_one (pe_cmpR op_eq (pe_fld (pv 0) rfl) (pe_fld (pv 1) rfl) (nomark _))))))), ?_⟩
    rcases h with ⟨b, y0, y1, rfl, ⟨dy, u0, k, f0⟩, q⟩ | ⟨u, ty, kt, q⟩
    · refine ⟨_, rfl, _, _, .ref A.CU, _, true, rfl, .own A.CU, .base (.ins k T.cTU T.kaU T.knU T.ktkU T.kmU), (by unfold PySem.W.kitOne; rw [if_pos (by simp)]), true, rfl, iteT ?_⟩
      refine ⟨_, rfl, o, A.CU, dx, _, _, rfl, g, T.cTU, T.uRow, fdU_row _ _, _, rfl, b, A.CU, dy, _, _, rfl, k, T.cTU, T.uRow, fdU_row _ _, _, _, ints_tup K e0, ints_tup K f0, ints_shT _, ints_shT _, _, rfl, ?_⟩
      rw [ints_eqv]
      by_cases h0 : x0 = y0
      case neg =>
        rw [decide_eq_false h0]
        rw [decide_eq_false (show ¬ (x0 = y0 ∧ x1 = y1) from fun z => h0 (by simp only [z]))] at q
        exact iteF q
      rw [decide_eq_true h0]
      refine iteT ?_
      refine ⟨_, rfl, o, A.CU, dx, _, _, rfl, g, T.cTU, T.uKey, fdU_key _ _, _, rfl, b, A.CU, dy, _, _, rfl, k, T.cTU, T.uKey, fdU_key _ _, rfl, ?_⟩
      rw [int_deq]
      have ed : decide (x0 = y0 ∧ x1 = y1) = decide (x1 = y1) := by simp [h0]
      rw [ed] at q
      exact q
    · exact ⟨_, rfl, _, _, u, _, false, rfl, .own A.CU, ty, kt, false, rfl, iteF q⟩
theorem b_eU (T : Tx K mg A) : L2.Binds K A.d_n___eq__ ["self", "other"] [] := T.F_n___eq__.binds fun _ _ _ _ _ _ us hl => match us, hl with | [_, _], _ => rfl

end
end Tw

set_option Elab.async false
set_option linter.all false
set_option maxRecDepth 100000
set_option maxHeartbeats 2000000
namespace Tw
open PySem PySem.Spec PyProof.Rows L2
section
variable {P : Program} {w : World} {K : PySem.W.Frag} {mg : Str → Option Value} {base : Heap} {A : Ad}
open LamX (ExtN Tabs TabS)
/-- the children as the law looks for them -/
def kidL (n w i : Nat) : List Nat := ((List.range (n - 1)).filter fun j => decide (j / w = i)).map (· + 1)
/-- a way down from a place -/
def Down (n w : Nat) : Nat → List Nat → Prop
  | _, [] => True
  | p, b :: l => b ∈ kidL n w p ∧ Down n w b l
def endOf (p : Nat) (l : List Nat) : Nat := l.getLastD p
/-- the faults of a row -/
def faultB (ns : List Int) (w p : Nat) : Bool := decide (0 < p) && decide (ns.getD p 0 < ns.getD ((p - 1) / w) 0)
def faultL (ns : List Int) (w : Nat) : List Nat := (List.range ns.length).filter (faultB ns w)
def keyAt (ks : List Int) (p : Nat) : Int := ks.getD p 0
def upF : Nat → Nat → Nat → List Nat
  | 0, _, p => [p]
  | k + 1, w, p => if p = 0 then [0] else p :: upF k w ((p - 1) / w)
def upL (w p : Nat) : List Nat := upF 13 w p
def wayL (w p : Nat) : List Nat := (upL w p).reverse
def swp (ks : List Int) (a b : Nat) : List Int := (ks.set a (keyAt ks b)).set b (keyAt ks a)
/-- the row behind the swaps of a way, undone -/
def undoS : List Int → List Nat → List Int
  | R, [] => R
  | R, [_] => R
  | R, a :: b :: l => swp (undoS R (b :: l)) a b
theorem end_cons (p b : Nat) (l : List Nat) : endOf p (b :: l) = endOf b l := by
  unfold endOf
  cases l with
  | nil => rfl
  | cons c l => simp [List.getLastD]
theorem kid_in {n w i j : Nat} (hw : 1 ≤ w) (h : j ∈ kidL n w i) : i < j ∧ j < n := by
  unfold kidL at h
  obtain ⟨k, hk, rfl⟩ := List.mem_map.mp h
  obtain ⟨h1, h2⟩ := List.mem_filter.mp hk
  have h1 := List.mem_range.mp h1
  have h2 := of_decide_eq_true h2
  have : k / w ≤ k := Nat.div_le_self _ _
  omega
theorem down_lt {n w : Nat} (hw : 1 ≤ w) : ∀ (l : List Nat) (p : Nat), p < n → Down n w p l → (∀ q ∈ l, p < q ∧ q < n) ∧ p ≤ endOf p l ∧ endOf p l < n
  | [], p, hp, _ => ⟨fun q hq => (nomatch hq), Nat.le_refl _, hp⟩
  | b :: l, p, hp, ⟨hb, hd⟩ => by
    obtain ⟨b1, b2⟩ := kid_in hw hb
    obtain ⟨h1, h2, h3⟩ := down_lt hw l b b2 hd
    refine ⟨fun q hq => ?_, by rw [end_cons]; omega, by rw [end_cons]; exact h3⟩
    rcases List.mem_cons.mp hq with rfl | hq
    · exact ⟨b1, b2⟩
    · have := h1 q hq
      exact ⟨by omega, this.2⟩
theorem swp_len (ks : List Int) (a b : Nat) : (swp ks a b).length = ks.length := by unfold swp; rw [List.length_set, List.length_set]
theorem undo_len (R : List Int) : ∀ l, (undoS R l).length = R.length
  | [] => rfl
  | [_] => rfl
  | a :: b :: l => by
    show (swp (undoS R (b :: l)) a b).length = _
    rw [swp_len, undo_len R (b :: l)]
theorem mem_kid {n w p c : Nat} : c ∈ kidL n w p ↔ 1 ≤ c ∧ c < n ∧ (c - 1) / w = p := by
  unfold kidL
  rw [List.mem_map]
  constructor
  · rintro ⟨k, hk, rfl⟩
    obtain ⟨h1, h2⟩ := List.mem_filter.mp hk
    have h1 := List.mem_range.mp h1
    have h2 := of_decide_eq_true h2
    exact ⟨by omega, by omega, by rw [Nat.add_sub_cancel]; exact h2⟩
  · rintro ⟨h1, h2, h3⟩
    refine ⟨c - 1, List.mem_filter.mpr ⟨List.mem_range.mpr (by omega), decide_eq_true h3⟩, by omega⟩
theorem keyAt_set {ks : List Int} {a p : Nat} {v : Int} (ha : a < ks.length) : keyAt (ks.set a v) p = if p = a then v else keyAt ks p := by
  unfold keyAt
  rw [List.getD_eq_getElem?_getD, List.getD_eq_getElem?_getD, List.getElem?_set]
  by_cases h : a = p
  · rw [if_pos h, if_pos (by omega), if_pos h.symm]
    rfl
  · rw [if_neg h, if_neg (fun z => h z.symm)]
theorem keyAt_swp {ks : List Int} {a b p : Nat} (ha : a < ks.length) (hb : b < ks.length) : keyAt (swp ks a b) p = if p = b then keyAt ks a else if p = a then keyAt ks b else keyAt ks p := by
  unfold swp
  rw [keyAt_set (by rw [List.length_set]; exact hb), keyAt_set ha]
/-- what stands where -/
theorem undo_at {n w : Nat} (hw : 1 ≤ w) {R : List Int} (hl : R.length = n) : ∀ (l : List Nat) (p : Nat), p < n → Down n w p l → ∀ q,
    keyAt (undoS R (p :: l)) q = if q = p then keyAt R (endOf p l) else if q ∈ l then keyAt R ((q - 1) / w) else keyAt R q
  | [], p, hp, _, q => by
    show keyAt R q = _
    by_cases h : q = p
    · rw [if_pos h, h]
      rfl
    · rw [if_neg h, if_neg (by simp)]
  | b :: l, p, hp, ⟨hb, hd⟩, q => by
    obtain ⟨b1, b2⟩ := kid_in hw hb
    obtain ⟨h1, _, _⟩ := down_lt hw l b b2 hd
    have ih := undo_at hw hl l b b2 hd
    show keyAt (swp (undoS R (b :: l)) p b) q = _
    rw [keyAt_swp (by rw [undo_len]; omega) (by rw [undo_len]; omega), ih, ih, ih]
    by_cases e1 : q = b
    · subst e1
      have hpl : p ∉ l := fun z => by have := h1 p z; omega
      rw [if_pos rfl, if_neg (by omega), if_neg hpl, if_neg (by omega), if_pos List.mem_cons_self, (mem_kid.mp hb).2.2]
    · rw [if_neg e1]
      by_cases e2 : q = p
      · rw [if_pos e2, if_pos rfl, if_pos e2, end_cons]
      · rw [if_neg e2, if_neg e1, if_neg e2]
        by_cases e3 : q ∈ l
        · rw [if_pos e3, if_pos (List.mem_cons_of_mem _ e3)]
        · rw [if_neg e3, if_neg (fun z => e3 ((List.mem_cons.mp z).resolve_left e1))]
def lastW (l : List Nat) : Nat := l.getLastD 0
theorem last_end (p : Nat) (l : List Nat) : lastW ([p] ++ l) = endOf p l := by
  unfold lastW endOf
  cases l with
  | nil => rfl
  | cons c l => simp [List.getLastD]
abbrev overP (n w : Nat) : Nat := (n - 1) / w
def ahdL (w : Nat) (ks : List Int) (least : Int) (place : Nat) : List Int := least :: ((undoS ks (wayL w place)).drop 1 ++ (undoS ks (wayL w place)).take 1)
/-- no key of a child is less -/
def goodAt (n w : Nat) (ks : List Int) (p : Nat) : Prop := ∀ c ∈ kidL n w p, keyAt ks p ≤ keyAt ks c
def GoodFrom (n w : Nat) (ks : List Int) (i : Nat) : Prop := ∀ p, i ≤ p → p < n → goodAt n w ks p
theorem down_mem {n w : Nat} : ∀ (l : List Nat) (b : Nat), Down n w b l → ∀ c ∈ l, (c - 1) / w = b ∨ (c - 1) / w ∈ l
  | [], _, _, _, hc => (nomatch hc)
  | d :: l, b, hd, c, hc => by
    rcases List.mem_cons.mp hc with rfl | hc
    · exact .inl (mem_kid.mp hd.1).2.2
    · rcases down_mem l d hd.2 c hc with z | z
      · exact .inr (by rw [z]; exact List.mem_cons_self)
      · exact .inr (List.mem_cons_of_mem _ z)
def leastC (ks : List Int) (l : List Nat) : Nat := l.getD (PySem.argBest (fun i j => decide (keyAt ks (l.getD i 0) < keyAt ks (l.getD j 0))) (l.length - 1)) 0
def goDown (n w : Nat) : Nat → List Int → Nat → List Nat → Nat → List Int × List Nat × Nat
  | 0, ks, _, way, lk => (ks, way, lk)
  | f + 1, ks, p, way, lk => if kidL n w p = [] then (ks, way, lk) else
      if keyAt ks (leastC ks (kidL n w p)) < keyAt ks p then goDown n w f (swp ks p (leastC ks (kidL n w p))) (leastC ks (kidL n w p)) (way ++ [leastC ks (kidL n w p)]) (lk + (kidL n w p).length)
      else (ks, way, lk + (kidL n w p).length)
def HeapL (n w : Nat) (ks : List Int) : Prop := ∀ c, 1 ≤ c → c < n → keyAt ks ((c - 1) / w) ≤ keyAt ks c
theorem heap_fault {n w : Nat} {ks : List Int} (hl : ks.length = n) (h : HeapL n w ks) : faultL ks w = [] := by
  refine List.eq_nil_iff_forall_not_mem.mpr fun p hp => ?_
  unfold faultL at hp
  obtain ⟨h1, h2⟩ := List.mem_filter.mp hp
  unfold faultB at h2
  obtain ⟨h3, h4⟩ := Bool.and_eq_true_iff.mp h2
  have h1 := List.mem_range.mp h1
  have h3 := of_decide_eq_true h3
  have h4 := of_decide_eq_true h4
  have := h p (by omega) (by omega)
  unfold keyAt at this
  omega
theorem heap_good {n w : Nat} {ms : List Int} (h : HeapL n w ms) : GoodFrom n w ms 0 := fun p _ hp c hc => by
  obtain ⟨c1, c2, c3⟩ := mem_kid.mp hc
  have := h c c1 c2
  rw [c3] at this
  exact this
theorem keyAt_mem {ks : List Int} {p : Nat} (h : p < ks.length) : keyAt ks p ∈ ks := by
  unfold keyAt
  rw [List.getD_eq_getElem?_getD, List.getElem?_eq_getElem h]
  exact List.getElem_mem h
theorem up_eq : ∀ w, w < 5 → ∀ p, p < 13 → 1 ≤ w → upL w p = if p = 0 then [0] else p :: upL w ((p - 1) / w) := by decide +kernel
theorem way_rec (w p : Nat) (hw : 1 ≤ w ∧ w ≤ 4) (hp : p ≤ 12) (h0 : 0 < p) : wayL w p = wayL w ((p - 1) / w) ++ [p] := by
  unfold wayL
  have e := up_eq w (by omega) p (by omega) hw.1
  rw [if_neg (by omega)] at e
  rw [e, List.reverse_cons]
theorem way_zero : ∀ w, w < 5 → 1 ≤ w → wayL w 0 = [0] := by decide +kernel
theorem no_fault {ns : List Int} {w : Nat} (hw : 1 ≤ w ∧ w ≤ 4) (hn : ns.length ≤ 12) (h : faultL ns w = []) : ∀ p, p < ns.length → ∀ q ∈ wayL w p, ns.getD q 0 ≤ ns.getD p 0 := by
  have h1 : ∀ p, p < ns.length → 0 < p → ns.getD ((p - 1) / w) 0 ≤ ns.getD p 0 := fun p hp h0 => by
    refine Int.not_lt.mp fun z => ?_
    have m : p ∈ faultL ns w := by
      unfold faultL
      refine List.mem_filter.mpr ⟨List.mem_range.mpr hp, ?_⟩
      unfold faultB
      rw [decide_eq_true h0, decide_eq_true z]
      rfl
    rw [h] at m
    cases m
  intro p
  induction p using Nat.strongRecOn with
  | _ p ih =>
    intro hp q hq
    by_cases h0 : 0 < p
    · have hlt : (p - 1) / w < p := Nat.lt_of_le_of_lt (Nat.div_le_self _ _) (by omega)
      rw [way_rec w p hw (by omega) h0] at hq
      rcases List.mem_append.mp hq with hq | hq
      · exact Int.le_trans (ih _ hlt (by omega) q hq) (h1 p hp h0)
      · rw [List.mem_singleton.mp hq]
        exact Int.le_refl _
    · obtain rfl : p = 0 := by omega
      rw [way_zero w (by omega) hw.1] at hq
      rw [List.mem_singleton.mp hq]
      exact Int.le_refl _
/-- the last key ahead of the ones between -/
def outRow (ks : List Int) : List Int := (ks.getD (ks.length - 1) 0) :: (ks.drop 1).take (ks.length - 2)
def takeR (ks : List Int) (w : Nat) : List Int × List Nat × Nat := if ks.length = 1 then ([], [], 0) else goDown (ks.length - 1) w 20 (outRow ks) 0 [0] 0
theorem least_of {ks : List Int} {l : List Nat} {j : Nat} (h : Cl.FirstLeast (fun i => keyAt ks (l.getD i 0)) l.length j) : l.getD j 0 = leastC ks l := by
  have h0 := h.1
  obtain ⟨n, en⟩ : ∃ n, l.length = n + 1 := ⟨l.length - 1, by omega⟩
  have b := Cl.best_is (fun i => keyAt ks (l.getD i 0)) n
  rw [← en] at b
  unfold leastC
  rw [Cl.first_one h b, show l.length - 1 = n by omega]
theorem least_mem {ks : List Int} {l : List Nat} (h : l ≠ []) : leastC ks l ∈ l := by
  obtain ⟨n, en⟩ : ∃ n, l.length = n + 1 := ⟨l.length - 1, by have := List.length_pos_iff.mpr h; omega⟩
  have b := Cl.best_is (fun i => keyAt ks (l.getD i 0)) n
  rw [← en] at b
  rw [← least_of b, List.getD_eq_getElem?_getD, List.getElem?_eq_getElem b.1]
  exact List.getElem_mem b.1
theorem goDown_leaf {n w f : Nat} {ks : List Int} {p : Nat} {way : List Nat} {lk : Nat} (h : kidL n w p = []) : goDown n w f ks p way lk = (ks, way, lk) := by
  cases f with
  | zero => rfl
  | succ f => rw [goDown, if_pos h]
theorem goDown_stay {n w f : Nat} {ks : List Int} {p : Nat} {way : List Nat} {lk : Nat} (h0 : kidL n w p ≠ []) (h : ¬ keyAt ks (leastC ks (kidL n w p)) < keyAt ks p) : goDown n w (f + 1) ks p way lk = (ks, way, lk + (kidL n w p).length) := by
  rw [goDown, if_neg h0, if_neg h]
theorem goDown_go {n w f : Nat} {ks : List Int} {p b : Nat} {way : List Nat} {lk : Nat} (h0 : kidL n w p ≠ []) (eb : leastC ks (kidL n w p) = b) (h : keyAt ks b < keyAt ks p) :
    goDown n w (f + 1) ks p way lk = goDown n w f (swp ks p b) b (way ++ [b]) (lk + (kidL n w p).length) := by
  rw [goDown, if_neg h0, eb, if_pos h]
theorem q1 : ¬ (("row" : Str) = "stops") := by decide +kernel
theorem q2 : ¬ (("row" : Str) = "changes") := by decide +kernel
theorem swp_swp {ks : List Int} {a b : Nat} (ha : a < ks.length) (hb : b < ks.length) : swp (swp ks a b) a b = ks := by
  have la : a < (swp ks a b).length := by rw [swp_len]; exact ha
  have lb : b < (swp ks a b).length := by rw [swp_len]; exact hb
  refine List.ext_getElem (by rw [swp_len, swp_len]) fun i h1 h2 => ?_
  have k : ∀ (l : List Int) (h : i < l.length), l[i] = keyAt l i := fun l h => by
    unfold keyAt
    rw [List.getD_eq_getElem?_getD, List.getElem?_eq_getElem h]
    rfl
  rw [k _ h1, k _ h2, keyAt_swp la lb, keyAt_swp ha hb, keyAt_swp ha hb, keyAt_swp ha hb]
  by_cases e1 : i = b
  · subst e1
    by_cases e2 : a = i
    · subst e2
      rw [if_pos rfl, if_pos rfl]
    · rw [if_pos rfl, if_neg e2, if_pos rfl]
  · rw [if_neg e1]
    by_cases e2 : i = a
    · rw [if_pos e2, if_pos rfl, e2]
    · rw [if_neg e2, if_neg e2, if_neg e1]
theorem least_le {ks : List Int} {l : List Nat} {c : Nat} (h : c ∈ l) : keyAt ks (leastC ks l) ≤ keyAt ks c := by
  have hne : l ≠ [] := List.ne_nil_of_mem h
  obtain ⟨n, en⟩ : ∃ n, l.length = n + 1 := ⟨l.length - 1, by have := List.length_pos_iff.mpr hne; omega⟩
  have b := Cl.best_is (fun i => keyAt ks (l.getD i 0)) n
  rw [← en] at b
  obtain ⟨i, hi, e⟩ := List.mem_iff_getElem.mp h
  have this : keyAt ks (l.getD (PySem.argBest (fun i j => decide (keyAt ks (l.getD i 0) < keyAt ks (l.getD j 0))) n) 0) ≤ keyAt ks (l.getD i 0) := b.2.1 i hi
  rw [least_of b] at this
  have e2 : l.getD i 0 = c := by rw [List.getD_eq_getElem?_getD, List.getElem?_eq_getElem hi, ← e]; rfl
  rw [e2] at this
  exact this
theorem least_one {ks : List Int} {l : List Nat} {b : Nat} (hb : b ∈ l) (h : ∀ c ∈ l, c ≠ b → keyAt ks b < keyAt ks c) : leastC ks l = b := by
  have hm := least_mem (ks := ks) (List.ne_nil_of_mem hb)
  have hle := least_le (ks := ks) hb
  by_cases e : leastC ks l = b
  · exact e
  · have := h _ hm e
    omega
theorem key_ne {R : List Int} (hd : R.Nodup) {a b : Nat} (ha : a < R.length) (hb : b < R.length) (h : a ≠ b) : keyAt R a ≠ keyAt R b := fun z => by
  unfold keyAt at z
  rw [List.getD_eq_getElem?_getD, List.getD_eq_getElem?_getD, List.getElem?_eq_getElem ha, List.getElem?_eq_getElem hb] at z
  have z : R[a] = R[b] := z
  have hp := List.pairwise_iff_getElem.mp (List.nodup_iff_pairwise_ne.mp hd)
  rcases Nat.lt_or_gt_of_ne h with q | q
  · exact hp a b ha hb q z
  · exact hp b a hb ha q z.symm
theorem key_end {n w : Nat} (hw : 1 ≤ w) {R : List Int} : ∀ (l : List Nat) (p : Nat), p < n → GoodFrom n w R p → Down n w p l → keyAt R p ≤ keyAt R (endOf p l)
  | [], p, _, _, _ => Int.le_refl _
  | b :: l, p, hp, g, ⟨hb, hd⟩ => by
    obtain ⟨b1, b2⟩ := kid_in hw hb
    rw [end_cons]
    exact Int.le_trans (g p (Nat.le_refl _) hp b hb) (key_end hw l b b2 (fun q h1 h2 => g q (by omega) h2) hd)
/-- a way undone is gone down again -/
theorem undo_down {n w : Nat} (hw : 1 ≤ w) {R : List Int} (hl : R.length = n) (hd : R.Nodup) : ∀ (l : List Nat) (f p : Nat) (way : List Nat) (lk : Nat), p < n → n - p ≤ f → GoodFrom n w R p → Down n w p l →
    (goDown n w f (undoS R (p :: l)) p way lk).1 = R ∧ (goDown n w f (undoS R (p :: l)) p way lk).2.1 = way ++ l
  | l, 0, p, way, lk, hp, hf, _, _ => absurd hf (by omega)
  | [], f + 1, p, way, lk, hp, hf, g, _ => by
    show (goDown n w (f + 1) R p way lk).1 = R ∧ (goDown n w (f + 1) R p way lk).2.1 = way ++ []
    by_cases h0 : kidL n w p = []
    · rw [goDown_leaf h0]
      exact ⟨rfl, (List.append_nil _).symm⟩
    · have := g p (Nat.le_refl _) hp _ (least_mem (ks := R) h0)
      rw [goDown_stay h0 (by omega)]
      exact ⟨rfl, (List.append_nil _).symm⟩
  | b :: l, f + 1, p, way, lk, hp, hf, g, ⟨hb, hdn⟩ => by
    obtain ⟨b1, b2⟩ := kid_in hw hb
    have hdw : Down n w p (b :: l) := ⟨hb, hdn⟩
    have at_ := undo_at hw hl (b :: l) p hp hdw
    obtain ⟨h1, h2, h3⟩ := down_lt hw l b b2 hdn
    have h0 : kidL n w p ≠ [] := List.ne_nil_of_mem hb
    have kb : keyAt (undoS R (p :: b :: l)) b = keyAt R p := by
      rw [at_, if_neg (by omega), if_pos List.mem_cons_self, (mem_kid.mp hb).2.2]
    have kp : keyAt (undoS R (p :: b :: l)) p = keyAt R (endOf b l) := by
      rw [at_, if_pos rfl, end_cons]
    have el : leastC (undoS R (p :: b :: l)) (kidL n w p) = b := least_one hb fun c hc hcb => by
      obtain ⟨c1, c2⟩ := kid_in hw hc
      have hcl : c ∉ b :: l := fun z => by
        rcases List.mem_cons.mp z with z | z
        · exact hcb z
        · have e : ∀ (l : List Nat) (b : Nat), Down n w b l → ∀ c ∈ l, (c - 1) / w = b ∨ (c - 1) / w ∈ l := by
            intro l
            induction l with
            | nil => intro b _ c hc; cases hc
            | cons d l ih =>
              intro b hd c hc
              rcases List.mem_cons.mp hc with rfl | hc
              · exact .inl (mem_kid.mp hd.1).2.2
              · rcases ih d hd.2 c hc with z | z
                · exact .inr (by rw [z]; exact List.mem_cons_self)
                · exact .inr (List.mem_cons_of_mem _ z)
          have pc := (mem_kid.mp hc).2.2
          rcases e l b hdn c z with z2 | z2
          · omega
          · have := h1 _ z2
            omega
      rw [kb, at_, if_neg (by omega), if_neg hcl]
      have := g p (Nat.le_refl _) hp c hc
      have := key_ne hd (a := p) (b := c) (by omega) (by omega) (by omega)
      omega
    have lt : keyAt (undoS R (p :: b :: l)) b < keyAt (undoS R (p :: b :: l)) p := by
      rw [kb, kp]
      have q1 := g p (Nat.le_refl _) hp b hb
      have q2 := key_end hw l b b2 (fun q a c => g q (by omega) c) hdn
      have := key_ne hd (a := p) (b := endOf b l) (by omega) (by omega) (by omega)
      omega
    rw [goDown_go h0 el lt]
    have es : swp (undoS R (p :: b :: l)) p b = undoS R (b :: l) := by
      show swp (swp (undoS R (b :: l)) p b) p b = _
      exact swp_swp (by rw [undo_len]; omega) (by rw [undo_len]; omega)
    rw [es]
    obtain ⟨r1, r2⟩ := undo_down hw hl hd l f b (way ++ [b]) (lk + (kidL n w p).length) b2 (by omega) (fun q a c => g q (by omega) c) hdn
    exact ⟨r1, by rw [r2, List.append_assoc]; rfl⟩
theorem self_sub : ∀ w, w < 5 → ∀ i, i < 13 → 1 ≤ w → i ∈ wayL w i := by decide +kernel
theorem fault_heap {n w : Nat} {ks : List Int} (hw : 1 ≤ w ∧ w ≤ 4) (hn : n ≤ 12) (hl : ks.length = n) (h : faultL ks w = []) : HeapL n w ks := fun c h1 h2 => by
  refine no_fault hw (by omega) h c (by omega) _ ?_
  rw [way_rec w c hw (by omega) h1]
  exact List.mem_append_left _ (self_sub w (by omega) _ (by have := Nat.div_le_self (c - 1) w; omega) hw.1)
def befP (w : Nat) (ks bs : List Int) (least : Int) (place : Nat) : Prop := bs.length = ks.length + 1 ∧ faultL bs w = [] ∧ bs.getD 0 0 = least ∧ (takeR bs w).1 = ks ∧ lastW (takeR bs w).2.1 = place
theorem ahd_len {w place : Nat} {ks : List Int} {least : Int} (h : 1 ≤ ks.length) : (ahdL w ks least place).length = ks.length + 1 := by
  unfold ahdL
  rw [List.length_cons, List.length_append, List.length_drop, List.length_take, undo_len]
  omega
section
variable {n w place : Nat} {ks : List Int} {least : Int} {l : List Nat}
theorem ahd_at (hw : 1 ≤ w) (hl : ks.length = n) (hp : place < n) (hd : Down n w 0 l) (hw2 : wayL w place = 0 :: l) (he : endOf 0 l = place) (c : Nat) (hc : c < n + 1) :
    keyAt (ahdL w ks least place) c = if c = 0 then least else if c = n then keyAt ks place else if c ∈ l then keyAt ks ((c - 1) / w) else keyAt ks c := by
  have at_ := undo_at hw hl l 0 (by omega) hd
  rw [← hw2] at at_
  have hul : (undoS ks (wayL w place)).length = n := by rw [undo_len, hl]
  unfold ahdL
  generalize undoS ks (wayL w place) = us at at_ hul
  by_cases h0 : c = 0
  · subst h0
    rw [if_pos rfl]
    rfl
  · rw [if_neg h0]
    obtain ⟨m, rfl⟩ : ∃ m, c = m + 1 := ⟨c - 1, by omega⟩
    show (least :: (us.drop 1 ++ us.take 1)).getD (m + 1) 0 = _
    rw [List.getD_cons_succ, List.getD_eq_getElem?_getD]
    by_cases h1 : m + 1 = n
    · rw [if_pos h1, List.getElem?_append_right (by rw [List.length_drop]; omega), List.length_drop, hul, show m - (n - 1) = 0 by omega, List.getElem?_take, if_pos (by omega)]
      have := at_ 0
      rw [if_pos rfl, he] at this
      unfold keyAt at this
      rw [List.getD_eq_getElem?_getD] at this
      exact this
    · rw [if_neg h1, List.getElem?_append_left (by rw [List.length_drop]; omega), List.getElem?_drop, Nat.add_comm 1 m]
      have := at_ (m + 1)
      rw [if_neg (by omega)] at this
      unfold keyAt at this ⊢
      rw [List.getD_eq_getElem?_getD] at this
      exact this
/-- a heap just if the key over the last place is not the greater one -/
theorem ahd_heap (hw : 1 ≤ w ∧ w ≤ 4) (hn : n ≤ 11) (hl : ks.length = n) (hf : faultL ks w = []) (hlt : ∀ z ∈ ks, least < z) (hp : place < n) (hd : Down n w 0 l) (hw2 : wayL w place = 0 :: l) (he : endOf 0 l = place) :
    (faultL (ahdL w ks least place) w = [] ↔ ¬ keyAt ks (overP n w) > keyAt ks place) ∧ (keyAt ks (overP n w) > keyAt ks place ↔ keyAt (ahdL w ks least place) (overP n w) > keyAt ks place) ∧
    (keyAt ks (overP n w) > keyAt ks place → keyAt (ahdL w ks least place) (overP n w) = keyAt ks (overP n w)) := by
  have at_ := ahd_at (least := least) hw.1 hl hp hd hw2 he
  have hh := fault_heap hw (by omega) hl hf
  have hle : ∀ q, q = 0 ∨ q ∈ l → keyAt ks q ≤ keyAt ks place := fun q hq => no_fault hw (by omega) hf place (by omega) q (by rw [hw2]; exact List.mem_cons.mpr hq)
  have hll : ∀ q, q < n → least < keyAt ks q := fun q hq => hlt _ (keyAt_mem (by omega))
  have hal : (ahdL w ks least place).length = n + 1 := by rw [ahd_len (by omega), hl]
  have hov : overP n w < n := by
    show (n - 1) / w < n
    have := Nat.div_le_self (n - 1) w
    omega
  have hdm := fun c hc => down_mem l 0 hd c hc
  have hlt2 : ∀ c ∈ l, 0 < c ∧ c < n := fun c hc => (down_lt hw.1 l 0 (by omega) hd).1 c hc
  have hpar : ∀ c, 1 ≤ c → c < n + 1 → (c - 1) / w < n ∧ (c - 1) / w < c := fun c h1 h2 => by
    have := Nat.div_le_self (c - 1) w
    omega
  have eover : keyAt (ahdL w ks least place) (overP n w) = if overP n w = 0 then least else if overP n w ∈ l then keyAt ks ((overP n w - 1) / w) else keyAt ks (overP n w) := by
    rw [at_ _ (by omega)]
    by_cases h0 : overP n w = 0
    · rw [if_pos h0, if_pos h0]
    · rw [if_neg h0, if_neg h0, if_neg (by omega)]
  have hup : ∀ q, q ∈ l → keyAt ks ((q - 1) / w) ≤ keyAt ks q := fun q hq => by
    obtain ⟨h1, h2⟩ := hlt2 q hq
    exact hh q h1 h2
  have three : (keyAt ks (overP n w) > keyAt ks place → overP n w ≠ 0 ∧ overP n w ∉ l) := fun hg => by
    refine ⟨fun z => ?_, fun z => ?_⟩
    · have := hle _ (.inl z)
      omega
    · have := hle _ (.inr z)
      omega
  have e3 : keyAt ks (overP n w) > keyAt ks place → keyAt (ahdL w ks least place) (overP n w) = keyAt ks (overP n w) := fun hg => by
    obtain ⟨a, b⟩ := three hg
    rw [eover, if_neg a, if_neg b]
  have e2 : keyAt ks (overP n w) > keyAt ks place ↔ keyAt (ahdL w ks least place) (overP n w) > keyAt ks place := by
    refine ⟨fun hg => by rw [e3 hg]; exact hg, fun hg => ?_⟩
    rw [eover] at hg
    by_cases h0 : overP n w = 0
    · rw [if_pos h0] at hg
      have := hll place hp
      omega
    · rw [if_neg h0] at hg
      by_cases h1 : overP n w ∈ l
      · rw [if_pos h1] at hg
        have := hup _ h1
        have := hle _ (.inr h1)
        omega
      · rw [if_neg h1] at hg
        exact hg
  refine ⟨⟨fun hz hg => ?_, fun hng => ?_⟩, e2, e3⟩
  · have h1 := fault_heap hw (by omega) hal hz n (by omega) (by omega)
    rw [at_ n (by omega), if_neg (by omega), if_pos rfl] at h1
    have h2 := e2.mp hg
    have : keyAt (ahdL w ks least place) ((n - 1) / w) = keyAt (ahdL w ks least place) (overP n w) := rfl
    omega
  · refine heap_fault hal fun c h1 h2 => ?_
    obtain ⟨p1, p2⟩ := hpar c h1 h2
    rw [at_ c h2, if_neg (by omega)]
    by_cases hc : c = n
    · subst hc
      rw [if_pos rfl]
      have := fun z => hng (e2.mpr z)
      have e : keyAt (ahdL w ks least place) ((c - 1) / w) = keyAt (ahdL w ks least place) (overP c w) := rfl
      omega
    · rw [if_neg hc, at_ _ (by omega)]
      by_cases h0 : (c - 1) / w = 0
      · rw [if_pos h0]
        by_cases hcl : c ∈ l
        · rw [if_pos hcl]
          have := hll ((c - 1) / w) p1
          omega
        · rw [if_neg hcl]
          have := hll c (by omega)
          omega
      · rw [if_neg h0, if_neg (by omega)]
        by_cases hcl : c ∈ l
        · rw [if_pos hcl]
          have hpl : (c - 1) / w ∈ l := (hdm c hcl).resolve_left h0
          rw [if_pos hpl]
          exact hup _ hpl
        · rw [if_neg hcl]
          have hk := hh c h1 (by omega)
          by_cases hpl : (c - 1) / w ∈ l
          · rw [if_pos hpl]
            have := hup _ hpl
            omega
          · rw [if_neg hpl]
            exact hk
/-- taken out of, it leaves the heap, the last key at the place -/
theorem ahd_bef (hw : 1 ≤ w ∧ w ≤ 4) (hn : n ≤ 11) (hl : ks.length = n) (hf : faultL ks w = []) (hnd : ks.Nodup) (hlt : ∀ z ∈ ks, least < z) (hp : place < n) (hd : Down n w 0 l) (hw2 : wayL w place = 0 :: l) (he : endOf 0 l = place)
    (hng : ¬ keyAt ks (overP n w) > keyAt ks place) : befP w ks (ahdL w ks least place) least place := by
  have hal : (ahdL w ks least place).length = n + 1 := by rw [ahd_len (by omega), hl]
  have hout : outRow (ahdL w ks least place) = undoS ks (0 :: l) := by
    have hul : (undoS ks (0 :: l)).length = n := by rw [undo_len, hl]
    unfold outRow
    rw [hal]
    unfold ahdL
    rw [hw2]
    generalize undoS ks (0 :: l) = us at hul
    cases us with
    | nil => simp at hul; omega
    | cons u us =>
      have hu : us.length = n - 1 := by simp at hul; omega
      simp only [List.drop_succ_cons, List.drop_zero, List.take_succ_cons, List.take_zero]
      rw [show n + 1 - 1 = us.length + 1 by omega, List.getD_cons_succ, List.getD_eq_getElem?_getD, List.getElem?_append_right (Nat.le_refl _), Nat.sub_self, show n + 1 - 2 = us.length by omega, List.take_append_of_le_length (Nat.le_refl _), List.take_length]
      rfl
  have g : GoodFrom n w ks 0 := heap_good (fault_heap hw (by omega) hl hf)
  obtain ⟨r1, r2⟩ := undo_down hw.1 hl hnd l 20 0 [0] 0 (by omega) (by omega) g hd
  have ht : takeR (ahdL w ks least place) w = goDown n w 20 (undoS ks (0 :: l)) 0 [0] 0 := by
    unfold takeR
    rw [hal, if_neg (by omega), hout]
    rfl
  refine ⟨by rw [hal, hl], (ahd_heap hw hn hl hf hlt hp hd hw2 he).1.mpr hng, rfl, by rw [ht]; exact r1, ?_⟩
  rw [ht, r2, last_end]
  exact he
end
end
end Tw

set_option Elab.async false
set_option linter.all false
set_option maxRecDepth 100000
set_option maxHeartbeats 2000000
namespace Tw
open PySem PySem.Spec PyProof.Rows L2
section
variable {P : Program} {w : World} {K : PySem.W.Frag} {mg : Str → Option Value} {base : Heap} {A : Ad}
open LamX (ExtN Tabs TabS)
theorem m1 : ¬ (("row" : Str) = "way") := by decide +kernel
theorem m2 : ¬ (("row" : Str) = "looks") := by decide +kernel
theorem m3 : ¬ (("way" : Str) = "looks") := by decide +kernel
theorem down_good {n w i : Nat} (hw : 1 ≤ w) : ∀ (f : Nat) (ks : List Int) (cur : Nat) (way : List Nat) (lk : Nat), ks.length = n → i ≤ cur → cur < n → n - cur ≤ f →
    (∀ p, i ≤ p → p < n → p ≠ cur → goodAt n w ks p) → (∀ q, i ≤ q → q < n → cur ∈ kidL n w q → ∀ c ∈ kidL n w cur, keyAt ks q ≤ keyAt ks c) → GoodFrom n w (goDown n w f ks cur way lk).1 i
  | 0, ks, cur, way, lk, hl, hi, hc, hf, g, up => absurd hf (by omega)
  | f + 1, ks, cur, way, lk, hl, hi, hc, hf, g, up => by
    by_cases h0 : kidL n w cur = []
    · rw [goDown_leaf h0]
      intro p h1 h2
      by_cases e : p = cur
      · subst e
        intro c hc
        rw [h0] at hc
        cases hc
      · exact g p h1 h2 e
    · generalize eb : leastC ks (kidL n w cur) = b
      have hm : b ∈ kidL n w cur := eb ▸ least_mem h0
      have hle : ∀ c ∈ kidL n w cur, keyAt ks b ≤ keyAt ks c := fun c hc => eb ▸ least_le hc
      obtain ⟨b1, b2⟩ := kid_in hw hm
      by_cases hlt : keyAt ks b < keyAt ks cur
      · rw [goDown_go h0 eb hlt]
        have ka : cur < ks.length := by omega
        have kb : b < ks.length := by omega
        refine down_good hw f _ b _ _ (by rw [swp_len]; exact hl) (by omega) b2 (by omega) (fun p h1 h2 hp c hcp => ?_) (fun q h1 h2 hq c hcb => ?_)
        · rw [keyAt_swp ka kb, keyAt_swp ka kb, if_neg hp]
          obtain ⟨m1, m2, m3⟩ := mem_kid.mp hcp
          by_cases e : p = cur
          · subst e
            rw [if_pos rfl]
            by_cases ec : c = b
            · rw [if_pos ec]
              omega
            · have := (kid_in hw hcp).1
              rw [if_neg ec, if_neg (by omega)]
              exact hle c hcp
          · rw [if_neg e]
            by_cases ec : c = b
            · subst ec
              exact absurd ((mem_kid.mp hm).2.2.symm.trans m3) (fun z => e z.symm)
            · rw [if_neg ec]
              by_cases ec2 : c = cur
              · subst ec2
                rw [if_pos rfl]
                exact up p h1 h2 hcp b hm
              · rw [if_neg ec2]
                exact g p h1 h2 e c hcp
        · have eq : q = cur := (mem_kid.mp hq).2.2.symm.trans (mem_kid.mp hm).2.2
          subst eq
          have := (kid_in hw hcb).1
          rw [keyAt_swp ka kb, keyAt_swp ka kb, if_neg (by omega), if_pos rfl, if_neg (by omega), if_neg (by omega)]
          exact g b (by omega) b2 (by omega) c hcb
      · rw [goDown_stay h0 (by rw [eb]; exact hlt)]
        intro p h1 h2
        by_cases e : p = cur
        · subst e
          intro c hc
          exact Int.le_trans (Int.not_lt.mp hlt) (hle c hc)
        · exact g p h1 h2 e
abbrev BSt := List Int × List (Int × Int) × Nat × Nat
def bstep (n w : Nat) (st : BSt) (p : Nat) : BSt := if kidL n w p = [] then st else
  ((goDown n w 20 st.1 p [p] 0).1, st.2.1 ++ [((p : Int), ((lastW (goDown n w 20 st.1 p [p] 0).2.1 : Nat) : Int))], st.2.2.1 + ((goDown n w 20 st.1 p [p] 0).2.1.length - 1), st.2.2.2 + (goDown n w 20 st.1 p [p] 0).2.2)
def bld (n w : Nat) (ks : List Int) : Nat → BSt
  | 0 => (ks, [], 0, 0)
  | i + 1 => bstep n w (bld n w ks i) (n - 1 - i)
theorem down_res (n w : Nat) : ∀ f ks p way lk, (goDown n w f ks p way lk).1.length = ks.length
  | 0, ks, p, way, lk => rfl
  | f + 1, ks, p, way, lk => by
    unfold goDown
    split
    · rfl
    · split
      · rw [down_res n w f, swp_len]
      · rfl
theorem bld_len (n w : Nat) (ks : List Int) : ∀ i, (bld n w ks i).1.length = ks.length
  | 0 => rfl
  | i + 1 => by
    unfold bld bstep
    split
    · exact bld_len n w ks i
    · show (goDown n w 20 (bld n w ks i).1 _ _ 0).1.length = _
      rw [down_res, bld_len n w ks i]
theorem bld_good {n w : Nat} (hw : 1 ≤ w) (hn : n ≤ 12) {ks : List Int} (hl : ks.length = n) : ∀ i, i ≤ n → GoodFrom n w (bld n w ks i).1 (n - i)
  | 0, _ => fun p h1 h2 => absurd h1 (by omega)
  | i + 1, hi => by
    have ih := bld_good hw hn hl i (by omega)
    unfold bld bstep
    split
    · rename_i h0
      intro p h1 h2
      by_cases e : p = n - 1 - i
      · subst e
        intro c hc
        rw [h0] at hc
        cases hc
      · exact ih p (by omega) h2
    · refine down_good hw 20 _ _ _ _ (by rw [bld_len]; exact hl) (by omega) (by omega) (by omega) (fun p h1 h2 hp => ih p (by omega) h2) (fun q h1 h2 hq => ?_)
      have := (kid_in hw hq).1
      exact absurd h1 (by omega)
theorem swp_perm {ks : List Int} {a b : Nat} (ha : a < ks.length) (hb : b < ks.length) : (swp ks a b).Perm ks := by
  have e1 : keyAt ks a = ks[a] := by unfold keyAt; rw [List.getD_eq_getElem?_getD, List.getElem?_eq_getElem ha]; rfl
  have e2 : keyAt ks b = ks[b] := by unfold keyAt; rw [List.getD_eq_getElem?_getD, List.getElem?_eq_getElem hb]; rfl
  unfold swp
  rw [e1, e2]
  exact List.set_set_perm ha hb
theorem down_perm {n w : Nat} (hw : 1 ≤ w) : ∀ (f : Nat) (ks : List Int) (cur : Nat) (way : List Nat) (lk : Nat), ks.length = n → cur < n → ((goDown n w f ks cur way lk).1).Perm ks
  | 0, ks, cur, way, lk, hl, hc => List.Perm.refl _
  | f + 1, ks, cur, way, lk, hl, hc => by
    by_cases h0 : kidL n w cur = []
    · rw [goDown_leaf h0]
    · obtain ⟨b1, b2⟩ := kid_in hw (least_mem (ks := ks) h0)
      by_cases hlt : keyAt ks (leastC ks (kidL n w cur)) < keyAt ks cur
      · rw [goDown_go h0 rfl hlt]
        exact (down_perm hw f _ _ _ _ (by rw [swp_len]; exact hl) b2).trans (swp_perm (by omega) (by omega))
      · rw [goDown_stay h0 hlt]
theorem bld_perm {n w : Nat} (hw : 1 ≤ w) {ks : List Int} (hl : ks.length = n) : ∀ i, i ≤ n → ((bld n w ks i).1).Perm ks
  | 0, _ => List.Perm.refl _
  | i + 1, hi => by
    have ih := bld_perm hw hl i (by omega)
    unfold bld bstep
    split
    · exact ih
    · exact (down_perm hw 20 _ _ _ _ (by rw [bld_len]; exact hl) (by omega)).trans ih
theorem par_lt {w c : Nat} (h : 1 ≤ c) : (c - 1) / w < c := Nat.lt_of_le_of_lt (Nat.div_le_self _ _) (by omega)
theorem good_heapL {n w : Nat} {ks : List Int} (h : GoodFrom n w ks 0) : HeapL n w ks := fun c h1 h2 =>
  h ((c - 1) / w) (Nat.zero_le _) (by have := par_lt (w := w) h1; omega) c (mem_kid.mpr ⟨h1, h2, rfl⟩)
def goUp (w : Nat) : Nat → List Int → Nat → List Nat → Nat → List Int × List Nat × Nat
  | 0, ks, _, way, lk => (ks, way, lk)
  | f + 1, ks, p, way, lk => if p = 0 then (ks, way, lk) else
      if keyAt ks p < keyAt ks ((p - 1) / w) then goUp w f (swp ks p ((p - 1) / w)) ((p - 1) / w) (way ++ [(p - 1) / w]) (lk + 1) else (ks, way, lk + 1)
theorem up_res (w : Nat) : ∀ f ks p way lk, (goUp w f ks p way lk).1.length = ks.length
  | 0, ks, p, way, lk => rfl
  | f + 1, ks, p, way, lk => by
    unfold goUp
    split
    · rfl
    · split
      · rw [up_res w f, swp_len]
      · rfl
/-- the hole goes down -/
def goHole (n w : Nat) : Nat → List Int → Nat → Nat → List Int × Nat × Nat
  | 0, ks, h, lk => (ks, h, lk)
  | f + 1, ks, h, lk => if kidL n w h = [] then (ks, h, lk) else goHole n w f (ks.set h (keyAt ks (leastC ks (kidL n w h)))) (leastC ks (kidL n w h)) (lk + ((kidL n w h).length - 1))
theorem hole_len (n w : Nat) : ∀ f ks h lk, (goHole n w f ks h lk).1.length = ks.length
  | 0, ks, h, lk => rfl
  | f + 1, ks, h, lk => by
    unfold goHole
    split
    · rfl
    · rw [hole_len n w f, List.length_set]
theorem hole_lt {n w : Nat} (hw : 1 ≤ w) : ∀ f ks h lk, h < n → (goHole n w f ks h lk).2.1 < n
  | 0, ks, h, lk, hh => hh
  | f + 1, ks, h, lk, hh => by
    unfold goHole
    split
    · exact hh
    · rename_i e
      exact hole_lt hw f _ _ _ (kid_in hw (least_mem (ks := ks) e)).2
def holeR (ks : List Int) (w : Nat) : List Int × List Nat × Nat := if ks.length = 1 then ([], [], 0) else
  let r := goHole (ks.length - 1) w 20 (ks.take (ks.length - 1)) 0 0
  let u := goUp w 20 (r.1.set r.2.1 (ks.getD (ks.length - 1) 0)) r.2.1 [r.2.1] 0
  (u.1, u.2.1, r.2.2 + u.2.2)
theorem goUp_stay {w f : Nat} {ks : List Int} {p : Nat} {way : List Nat} {lk : Nat} (h0 : p ≠ 0) (h : ¬ keyAt ks p < keyAt ks ((p - 1) / w)) : goUp w (f + 1) ks p way lk = (ks, way, lk + 1) := by
  rw [goUp, if_neg h0, if_neg h]
theorem goUp_go {w f : Nat} {ks : List Int} {p : Nat} {way : List Nat} {lk : Nat} (h0 : p ≠ 0) (h : keyAt ks p < keyAt ks ((p - 1) / w)) : goUp w (f + 1) ks p way lk = goUp w f (swp ks p ((p - 1) / w)) ((p - 1) / w) (way ++ [(p - 1) / w]) (lk + 1) := by
  rw [goUp, if_neg h0, if_pos h]
theorem goUp_root {w f : Nat} {ks : List Int} {way : List Nat} {lk : Nat} : goUp w f ks 0 way lk = (ks, way, lk) := by
  cases f with
  | zero => rfl
  | succ f => rw [goUp, if_pos rfl]
theorem up_good {n w : Nat} : ∀ (f : Nat) (ks : List Int) (cur : Nat) (way : List Nat) (lk : Nat), ks.length = n → cur < n → cur ≤ f →
    (∀ c, 1 ≤ c → c < n → c ≠ cur → keyAt ks ((c - 1) / w) ≤ keyAt ks c) → (∀ c, 1 ≤ c → c < n → (c - 1) / w = cur → cur ≠ 0 → keyAt ks ((cur - 1) / w) ≤ keyAt ks c) → HeapL n w (goUp w f ks cur way lk).1
  | 0, ks, cur, way, lk, hl, hc, hf, g, up => fun c h1 h2 => g c h1 h2 (by omega)
  | f + 1, ks, cur, way, lk, hl, hc, hf, g, up => by
    by_cases h0 : cur = 0
    · subst h0
      rw [goUp_root]
      exact fun c h1 h2 => g c h1 h2 (by omega)
    · have hp := par_lt (w := w) (c := cur) (by omega)
      by_cases hlt : keyAt ks cur < keyAt ks ((cur - 1) / w)
      · rw [goUp_go h0 hlt]
        generalize ep : (cur - 1) / w = p at *
        have ka : cur < ks.length := by omega
        have kb : p < ks.length := by omega
        refine up_good f _ p _ _ (by rw [swp_len]; exact hl) (by omega) (by omega) (fun c h1 h2 hcp => ?_) (fun c h1 h2 hcp hp0 => ?_)
        · rw [keyAt_swp ka kb, keyAt_swp ka kb, if_neg hcp]
          by_cases ec : c = cur
          · subst ec
            rw [ep, if_pos rfl, if_pos rfl]
            omega
          · rw [if_neg ec]
            by_cases e1 : (c - 1) / w = p
            · rw [if_pos e1]
              have := g c h1 h2 ec
              rw [e1] at this
              omega
            · rw [if_neg e1]
              by_cases e2 : (c - 1) / w = cur
              · rw [if_pos e2]
                exact up c h1 h2 e2 h0
              · rw [if_neg e2]
                exact g c h1 h2 ec
        · have hpp := par_lt (w := w) (c := p) (by omega)
          have hc1 := par_lt (w := w) h1
          have a := g p (by omega) (by omega) (by omega)
          rw [keyAt_swp ka kb, keyAt_swp ka kb, if_neg (by omega), if_neg (by omega), if_neg (by omega)]
          by_cases ec : c = cur
          · rw [if_pos ec]
            exact a
          · rw [if_neg ec]
            have b := g c h1 h2 ec
            rw [hcp] at b
            omega
      · rw [goUp_stay h0 hlt]
        intro c h1 h2
        by_cases ec : c = cur
        · subst ec
          exact Int.not_lt.mp hlt
        · exact g c h1 h2 ec
theorem up_perm {w : Nat} : ∀ (f : Nat) (ks : List Int) (cur : Nat) (way : List Nat) (lk : Nat), cur < ks.length → ((goUp w f ks cur way lk).1).Perm ks
  | 0, ks, cur, way, lk, hc => List.Perm.refl _
  | f + 1, ks, cur, way, lk, hc => by
    by_cases h0 : cur = 0
    · subst h0
      rw [goUp_root]
    · have hp := par_lt (w := w) (c := cur) (by omega)
      by_cases hlt : keyAt ks cur < keyAt ks ((cur - 1) / w)
      · rw [goUp_go h0 hlt]
        exact (up_perm f _ _ _ _ (by rw [swp_len]; omega)).trans (swp_perm hc (by omega))
      · rw [goUp_stay h0 hlt]
theorem hole_leaf {n w f : Nat} {ks : List Int} {h lk : Nat} (e : kidL n w h = []) : goHole n w f ks h lk = (ks, h, lk) := by
  cases f with
  | zero => rfl
  | succ f => rw [goHole, if_pos e]
theorem hole_go {n w f : Nat} {ks : List Int} {h lk b : Nat} (e : kidL n w h ≠ []) (eb : leastC ks (kidL n w h) = b) : goHole n w (f + 1) ks h lk = goHole n w f (ks.set h (keyAt ks b)) b (lk + ((kidL n w h).length - 1)) := by
  rw [goHole, if_neg e, eb]
theorem hole_pre {n w : Nat} (hw : 1 ≤ w) : ∀ (f : Nat) (ks : List Int) (h lk : Nat), ks.length = n → h < n → n - h ≤ f →
    (∀ c, 1 ≤ c → c < n → c ≠ h → (c - 1) / w ≠ h → keyAt ks ((c - 1) / w) ≤ keyAt ks c) → (∀ c, 1 ≤ c → c < n → (c - 1) / w = h → h ≠ 0 → keyAt ks ((h - 1) / w) ≤ keyAt ks c) →
    kidL n w (goHole n w f ks h lk).2.1 = [] ∧ ∀ c, 1 ≤ c → c < n → c ≠ (goHole n w f ks h lk).2.1 → (c - 1) / w ≠ (goHole n w f ks h lk).2.1 → keyAt (goHole n w f ks h lk).1 ((c - 1) / w) ≤ keyAt (goHole n w f ks h lk).1 c
  | 0, ks, h, lk, hl, hh, hf, a, b => absurd hf (by omega)
  | f + 1, ks, h, lk, hl, hh, hf, a, b => by
    by_cases h0 : kidL n w h = []
    · rw [hole_leaf h0]
      exact ⟨h0, a⟩
    · generalize eb : leastC ks (kidL n w h) = m
      have hm : m ∈ kidL n w h := eb ▸ least_mem h0
      have hle : ∀ c ∈ kidL n w h, keyAt ks m ≤ keyAt ks c := fun c hc => eb ▸ least_le hc
      obtain ⟨b1, b2⟩ := kid_in hw hm
      obtain ⟨m1, m2, m3⟩ := mem_kid.mp hm
      rw [hole_go h0 eb]
      have ka : h < ks.length := by omega
      refine hole_pre hw f _ m _ (by rw [List.length_set]; exact hl) b2 (by omega) (fun c h1 h2 hc hpc => ?_) (fun c h1 h2 hc _ => ?_)
      · have hp := par_lt (w := w) h1
        rw [keyAt_set ka, keyAt_set ka]
        by_cases e1 : c = h
        · subst e1
          rw [if_pos rfl, if_neg (by omega)]
          exact b m m1 m2 m3 (by omega)
        · rw [if_neg e1]
          by_cases e2 : (c - 1) / w = h
          · rw [if_pos e2]
            exact hle c (mem_kid.mpr ⟨h1, h2, e2⟩)
          · rw [if_neg e2]
            exact a c h1 h2 e1 e2
      · have hp := par_lt (w := w) h1
        rw [m3, keyAt_set ka, keyAt_set ka, if_pos rfl, if_neg (by omega)]
        have := a c h1 h2 (by omega) (by omega)
        rw [hc] at this
        exact this
theorem hole_perm {n w : Nat} (hw : 1 ≤ w) (x : Int) : ∀ (f : Nat) (ks : List Int) (h lk : Nat), ks.length = n → h < n → (((goHole n w f ks h lk).1).set (goHole n w f ks h lk).2.1 x).Perm (ks.set h x)
  | 0, ks, h, lk, hl, hh => List.Perm.refl _
  | f + 1, ks, h, lk, hl, hh => by
    by_cases h0 : kidL n w h = []
    · rw [hole_leaf h0]
    · generalize eb : leastC ks (kidL n w h) = m
      have hm : m ∈ kidL n w h := eb ▸ least_mem h0
      obtain ⟨b1, b2⟩ := kid_in hw hm
      rw [hole_go h0 eb]
      refine (hole_perm hw x f _ m _ (by rw [List.length_set]; exact hl) b2).trans ?_
      have e : (ks.set h (keyAt ks m)).set m x = swp (ks.set h x) h m := by
        unfold swp
        rw [keyAt_set (by omega), keyAt_set (by omega), if_pos rfl, if_neg (by omega), List.set_set]
      rw [e]
      exact swp_perm (by rw [List.length_set]; omega) (by rw [List.length_set]; omega)
theorem head_cons {ks : List Int} (h : 1 ≤ ks.length) : ks = ks.getD 0 0 :: ks.drop 1 := by
  cases ks with
  | nil => exact absurd h (by decide)
  | cons a b => rfl
theorem outRow_perm {ks : List Int} (h : 2 ≤ ks.length) : (ks.getD 0 0 :: outRow ks).Perm ks := by
  have e := head_cons (ks := ks) (by omega)
  have d : ks.drop 1 = (ks.drop 1).take (ks.length - 2) ++ [ks.getD (ks.length - 1) 0] := by
    have x : (ks.drop 1).take (ks.length - 2) ++ [(ks.drop 1)[ks.length - 2]'(by rw [List.length_drop]; omega)] = (ks.drop 1).take (ks.length - 2 + 1) := List.take_append_getElem (by rw [List.length_drop]; omega)
    have x2 : (ks.drop 1).take (ks.length - 2 + 1) = ks.drop 1 := List.take_of_length_le (by rw [List.length_drop]; omega)
    have y : (ks.drop 1)[ks.length - 2]'(by rw [List.length_drop]; omega) = ks.getD (ks.length - 1) 0 := by
      rw [List.getElem_drop, List.getD_eq_getElem?_getD, List.getElem?_eq_getElem (by omega)]
      simp only [Option.getD_some]
      congr 1
      omega
    rw [y] at x
    exact x2.symm.trans x.symm
  have p : (outRow ks).Perm (ks.drop 1) := by
    refine List.Perm.trans (?_ : (outRow ks).Perm ((ks.drop 1).take (ks.length - 2) ++ [ks.getD (ks.length - 1) 0])) (List.Perm.of_eq d.symm)
    unfold outRow
    exact (List.perm_append_singleton _ _).symm
  exact (List.Perm.cons _ p).trans (List.Perm.of_eq e.symm)
theorem take_set {ks : List Int} (h : 2 ≤ ks.length) : (ks.take (ks.length - 1)).set 0 (ks.getD (ks.length - 1) 0) = outRow ks := by
  have e := head_cons (ks := ks) (by omega)
  obtain ⟨n, en⟩ : ∃ n, ks.length = n + 2 := ⟨ks.length - 2, by omega⟩
  unfold outRow
  rw [en]
  generalize ks.getD (n + 2 - 1) 0 = x
  rw [e]
  rfl
theorem hole_ok {w : Nat} (hw : 1 ≤ w) {ks : List Int} (hl : ks.length ≤ 12) (hp : 1 ≤ ks.length) (h : HeapL ks.length w ks) :
    (holeR ks w).1.length = ks.length - 1 ∧ HeapL (ks.length - 1) w (holeR ks w).1 ∧ (ks.getD 0 0 :: (holeR ks w).1).Perm ks := by
  unfold holeR
  by_cases h1 : ks.length = 1
  · rw [if_pos h1]
    refine ⟨by rw [h1]; rfl, fun c h2 h3 => by omega, ?_⟩
    have e := head_cons hp
    rw [List.drop_eq_nil_of_le (by omega)] at e
    exact List.Perm.of_eq e.symm
  · rw [if_neg h1]
    have h2 : 2 ≤ ks.length := by omega
    have hl0 : (ks.take (ks.length - 1)).length = ks.length - 1 := by rw [List.length_take]; omega
    have kt : ∀ p, p < ks.length - 1 → keyAt (ks.take (ks.length - 1)) p = keyAt ks p := fun p hp => by
      unfold keyAt
      rw [List.getD_eq_getElem?_getD, List.getD_eq_getElem?_getD, List.getElem?_take_of_lt hp]
    obtain ⟨p1, p2⟩ := hole_pre hw 20 (ks.take (ks.length - 1)) 0 0 hl0 (by omega) (by omega) (fun c c1 c2 _ _ => by
      have := par_lt (w := w) c1
      rw [kt _ (by omega), kt _ c2]
      exact h c c1 (by omega)) (fun c _ _ _ z => absurd rfl z)
    have p3 := hole_perm hw (ks.getD (ks.length - 1) 0) 20 (ks.take (ks.length - 1)) 0 0 hl0 (by omega)
    rw [take_set h2] at p3
    have p4 := hole_len (ks.length - 1) w 20 (ks.take (ks.length - 1)) 0 0
    have p5 := hole_lt (n := ks.length - 1) hw 20 (ks.take (ks.length - 1)) 0 0 (by omega)
    generalize ks.getD (ks.length - 1) 0 = x at *
    generalize goHole (ks.length - 1) w 20 (ks.take (ks.length - 1)) 0 0 = r at *
    have hls : (r.1.set r.2.1 x).length = ks.length - 1 := by rw [List.length_set]; omega
    have leaf : ∀ c, 1 ≤ c → c < ks.length - 1 → (c - 1) / w ≠ r.2.1 := fun c c1 c2 z => by
      have : c ∈ kidL (ks.length - 1) w r.2.1 := mem_kid.mpr ⟨c1, c2, z⟩
      rw [p1] at this
      cases this
    show (goUp w 20 (r.1.set r.2.1 x) r.2.1 [r.2.1] 0).1.length = _ ∧ HeapL _ w (goUp w 20 (r.1.set r.2.1 x) r.2.1 [r.2.1] 0).1 ∧ (_ :: (goUp w 20 (r.1.set r.2.1 x) r.2.1 [r.2.1] 0).1).Perm ks
    refine ⟨by rw [up_res]; exact hls, up_good 20 _ _ _ _ hls p5 (by omega) (fun c c1 c2 hc => ?_) (fun c c1 c2 hc _ => absurd hc (leaf c c1 c2)), ?_⟩
    · rw [keyAt_set (by omega), keyAt_set (by omega), if_neg (leaf c c1 c2), if_neg hc]
      exact p2 c c1 c2 hc (leaf c c1 c2)
    · exact (List.Perm.cons _ ((up_perm 20 _ _ _ _ (by rw [hls]; exact p5)).trans p3)).trans (outRow_perm h2)
theorem kb_build (T : Tx K mg A) : ∃ mv : List Value, KBn K A.d_build ["row", "arms"] 1 ["arms"] (fun us ws => us ++ (mv ++ ws)) (fun vs zs => vs ++ zs) := by
  obtain ⟨mv, h⟩ := T.F_build.kbinds0 (ps := ["row", "arms"]) 1 ["arms"] [] (fun us mv ws => us ++ (mv ++ ws)) (by simp) (by simp) (fun r1 r2 r3 => r1.append (r2.append r3))
    (fun D doc pm an cdv ct us mv ws h1 h2 h3 => by
      match us, mv, ws, h1, h2, h3 with
      | [a], [], [c], _, _, _ => rfl)
  exact ⟨mv, h⟩
end
end Tw

set_option Elab.async false
set_option linter.all false
set_option maxRecDepth 100000
set_option maxHeartbeats 2000000
namespace Tw
open PySem PySem.Spec PyProof.Rows L2
section
variable {P : Program} {w : World} {K : PySem.W.Frag} {mg : Str → Option Value} {base : Heap} {A : Ad}
open LamX (ExtN Tabs TabS)
theorem kb_code (T : Tx K mg A) : ∃ mv : List Value, KBn K A.d_code ["row", "arms"] 1 ["arms"] (fun us ws => us ++ (mv ++ ws)) (fun vs zs => vs ++ zs) := by
  obtain ⟨mv, h⟩ := T.F_code.kbinds0 (ps := ["row", "arms"]) 1 ["arms"] [] (fun us mv ws => us ++ (mv ++ ws)) (by simp) (by simp) (fun r1 r2 r3 => r1.append (r2.append r3))
    (fun D doc pm an cdv ct us mv ws h1 h2 h3 => by
      match us, mv, ws, h1, h2, h3 with
      | [a], [], [c], _, _, _ => rfl)
  exact ⟨mv, h⟩
theorem kb_dec (T : Tx K mg A) : ∃ mv : List Value, KBn K A.d_decode ["row", "stops", "arms"] 2 ["arms"] (fun us ws => us ++ (mv ++ ws)) (fun vs zs => vs ++ zs) := by
  obtain ⟨mv, h⟩ := T.F_decode.kbinds0 (ps := ["row", "stops", "arms"]) 2 ["arms"] [] (fun us mv ws => us ++ (mv ++ ws)) (by simp) (by simp) (fun r1 r2 r3 => r1.append (r2.append r3))
    (fun D doc pm an cdv ct us mv ws h1 h2 h3 => by
      match us, mv, ws, h1, h2, h3 with
      | [a, b], [], [c], _, _, _ => rfl)
  exact ⟨mv, h⟩
theorem kb_ish (T : Tx K mg A) : ∃ mv : List Value, KBn K A.d_is_heap ["row", "arms"] 1 ["arms"] (fun us ws => us ++ (mv ++ ws)) (fun vs zs => vs ++ zs) := by
  obtain ⟨mv, h⟩ := T.F_is_heap.kbinds0 (ps := ["row", "arms"]) 1 ["arms"] [] (fun us mv ws => us ++ (mv ++ ws)) (by simp) (by simp) (fun r1 r2 r3 => r1.append (r2.append r3))
    (fun D doc pm an cdv ct us mv ws h1 h2 h3 => by
      match us, mv, ws, h1, h2, h3 with
      | [a], [], [c], _, _, _ => rfl)
  exact ⟨mv, h⟩
theorem kb_push (T : Tx K mg A) : ∃ mv : List Value, KBn K A.d_push ["row", "key", "arms"] 2 ["arms"] (fun us ws => us ++ (mv ++ ws)) (fun vs zs => vs ++ zs) := by
  obtain ⟨mv, h⟩ := T.F_push.kbinds0 (ps := ["row", "key", "arms"]) 2 ["arms"] [] (fun us mv ws => us ++ (mv ++ ws)) (by simp) (by simp) (fun r1 r2 r3 => r1.append (r2.append r3))
    (fun D doc pm an cdv ct us mv ws h1 h2 h3 => by
      match us, mv, ws, h1, h2, h3 with
      | [a, b], [], [c], _, _, _ => rfl)
  exact ⟨mv, h⟩
theorem kb_ut (T : Tx K mg A) : ∃ mv : List Value, KBn K A.d_undo_take ["row", "least", "place", "arms"] 3 ["arms"] (fun us ws => us ++ (mv ++ ws)) (fun vs zs => vs ++ zs) := by
  obtain ⟨mv, h⟩ := T.F_undo_take.kbinds0 (ps := ["row", "least", "place", "arms"]) 3 ["arms"] [] (fun us mv ws => us ++ (mv ++ ws)) (by simp) (by simp) (fun r1 r2 r3 => r1.append (r2.append r3))
    (fun D doc pm an cdv ct us mv ws h1 h2 h3 => by
      match us, mv, ws, h1, h2, h3 with
      | [a, b, c], [], [e], _, _, _ => rfl)
  exact ⟨mv, h⟩
theorem klp (T : Tx K mg A) : ∃ mv : List Value, KBn K A.d_last_places ["row", "arms"] 1 ["arms"] (fun us ws => us ++ (mv ++ ws)) (fun vs zs => vs ++ zs) := by
  obtain ⟨mv, h⟩ := T.F_last_places.kbinds0 (ps := ["row", "arms"]) 1 ["arms"] [] (fun us mv ws => us ++ (mv ++ ws)) (by simp) (by simp) (fun r1 r2 r3 => r1.append (r2.append r3))
    (fun D doc pm an cdv ct us mv ws h1 h2 h3 => by
      match us, mv, ws, h1, h2, h3 with
      | [a], [], [e], _, _, _ => rfl)
  exact ⟨mv, h⟩
theorem kup2 (T : Tx K mg A) : ∃ mv : List Value, KBn K A.d_undo_push ["row", "place", "arms"] 2 ["arms"] (fun us ws => us ++ (mv ++ ws)) (fun vs zs => vs ++ zs) := by
  obtain ⟨mv, h⟩ := T.F_undo_push.kbinds0 (ps := ["row", "place", "arms"]) 2 ["arms"] [] (fun us mv ws => us ++ (mv ++ ws)) (by simp) (by simp) (fun r1 r2 r3 => r1.append (r2.append r3))
    (fun D doc pm an cdv ct us mv ws h1 h2 h3 => by
      match us, mv, ws, h1, h2, h3 with
      | [a, b], [], [e], _, _, _ => rfl)
  exact ⟨mv, h⟩
/-- the draws: a list of the script and of a number -/
structure DrAt (K : PySem.W.Frag) (H : Hp) (d a : Addr) (ns : List Int) (k : Nat) : Prop where
  l : H d = some (.lst [.ref a, .int k])
  n : a ≠ d ∨ ∀ H', SqL K H' a (ns.map V.int)
  s : SqL K H a (ns.map V.int)
  h : ns.length ≤ 63
theorem DrAt.same {K : PySem.W.Frag} {H H' : Hp} {d a : Addr} {ns : List Int} {k : Nat} (h : DrAt K H d a ns k) (s : Same H H') : DrAt K H' d a ns k := ⟨s _ _ h.l, h.n, s.seq h.s, h.h⟩
theorem b_pick (T : Tx K mg A) : L2.Binds K A.d__law_pick ["draw", "things"] [] := T.F__law_pick.binds fun _ _ _ _ _ _ us hl => match us, hl with | [_, _], _ => rfl
/-- what stood, but for what stands at d -/
def But (d : Addr) (H H' : Hp) : Prop := ∀ b o, b ≠ d → H b = some o → H' b = some o
theorem But.of {d : Addr} {H H' : Hp} (s : Same H H') : But d H H' := fun b o _ e => s b o e
theorem But.trans {d : Addr} {H H1 H2 : Hp} (a : But d H H1) (b : But d H1 H2) : But d H H2 := fun c o n e => b c o n (a c o n e)
theorem b_take (T : Tx K mg A) : L2.Binds K A.d__law_take ["draw", "many"] [] := T.F__law_take.binds fun _ _ _ _ _ _ us hl => match us, hl with | [_, _], _ => rfl
theorem emp_eqv : ∀ ns : List Int, PyData.eqv (.list (ns.map PyData.int)) (.list []) = decide (ns = [])
  | [] => by rfl
  | n :: ns => by rfl
theorem cut63 (xs : List V) (h : xs.length ≤ 63) : cutV xs none (some 63) = xs := by
  unfold cutV
  rw [HT.sIx_none, show (63 : Int) = ((63 : Nat) : Int) from rfl, HT.sIx_nat, List.drop_zero, Nat.min_eq_right h, Nat.sub_zero, List.take_length]
def spNum (K : PySem.W.Frag) : Sp := fun vs H Q _ => ∃ (a : Addr) (ns : List Int) (i : Nat), vs = [.ref a, .int i] ∧ SqL K H a (ns.map V.int) ∧ ns.length ≤ 63 ∧ i < 1000000 ∧ ∀ H' r, Same H H' → Q (.int r) H'
theorem ok_num (T : Tx K mg A) : FnOk P w K mg base CX0 2 A.f__law_number A.d__law_number ["script", "index"] (spNum K) := by
  refine T.F__law_number.ok sc__law_number (fun vs H Q E h => ?_) (fun cdv B outer s H vs Q E hr h => ?_)
  · obtain ⟨a, ns, i, rfl, _⟩ := h
    rfl
  · obtain ⟨a, ns, i, rfl, ha, hl, hi, q⟩ := h
    have nd := sc__law_number.nd
    have hu := hr.units
    refine ⟨_, C8.pss_cut (ps_set (i := 2) nd rfl (Or.inl rfl) (pe_ifExp (pt_cmpR (op_neD hu) (pv 0) (pe_lst pa_nil) (nomark _)) (pe_slice sl_list (pv 0) po_none (po_some pe_int)) (pe_lst (pa_cons pe_int pa_nil))))
      (pss_cons (ps_set (i := 3) nd rfl (Or.inl rfl) (pe_op op_add
        (pe_ix ix_list (pv 2) (pe_op op_mod (pe_callTy call_int1 (by rfl) T.g_int (by decide +kernel) (pa_cons (pv 1) pa_nil)) (pe_callB call_len_seq (by rfl) T.g_len PySem.boot_len (pa_cons (pv 2) pa_nil))) (fun _ _ => rfl))
        (pe_op op_mul pe_int (pe_op op_fdivN (pv 1) (pe_callB call_len_seq (by rfl) T.g_len PySem.boot_len (pa_cons (pv 2) pa_nil))))))
      (pss_cons (ps_par (i := 4) (j := 5) rfl nd rfl rfl (by decide) rfl rfl (pa_cons (pe_op op_mod (pe_callTy call_int1 (by rfl) T.g_int (by decide +kernel) (pa_cons (pv 3) pa_nil)) pe_int)
          (pa_cons (pe_op op_mod (pe_callTy call_int1 (by rfl) T.g_int (by decide +kernel) (pa_cons (pe_op op_fdivN (pv 3) pe_int) pa_nil)) pe_int) pa_nil)) rfl)
      (pss_cons (ps_set (i := 6) nd rfl (Or.inl rfl) (pe_op op_mod (pe_callTy call_int1 (by rfl) T.g_int (by decide +kernel) (pa_cons (pe_callB (cr_sum rfl) (by rfl) T.g_sum (by decide +kernel) (pa_cons (pv 2) pa_nil)) pa_nil)) pe_int))
      (pss_cons (ps_set (i := 7) nd rfl (Or.inl rfl) (pe_op op_mod (pe_callTy call_int1 (by rfl) T.g_int (by decide +kernel) (pa_cons
          (pe_op op_add (pe_op op_add (pe_op op_mul (pe_op op_add (pv 4) (pe_op op_mul pe_int (pv 1))) pe_int) (pe_op op_mul pe_int (pv 5))) (pv 6)) pa_nil)) pe_int))
      (pss_one (ps_ret (pe_op op_add (pe_op op_mul (pe_op op_mod (pe_callTy call_int1 (by rfl) T.g_int (by decide +kernel) (pa_cons
          (pe_op op_mul (pv 7) (pe_op op_add (pe_op op_add (pv 7) (pe_op op_mul pe_int (pv 1))) pe_int)) pa_nil)) pe_int) pe_int) (pv 5)))))))), ?_⟩
    refine ⟨fun σ H1 => ∃ (c : Addr) (cs : List Int), σ = [some (.ref a), some (.int i), some (.ref c), none, none, none, none, none] ∧ Same H H1 ∧ H1 c = some (.lst (cs.map V.int)) ∧ 0 < cs.length ∧ cs.length ≤ 63, ?_, ?_⟩
    · refine ⟨_, rfl, Nat.zero_le _, fun l0 hl0 => ?_⟩
      have hs0 : Same H (upd H l0 (.lst [])) := Same.up hl0
      refine ⟨.list (ns.map PyData.int), .list [], .lst (hs0.seq ha) (ints_dp _ _ _), .lst (SqL.of upd_same) .nil, ?_, rfl, _, rfl, ?_⟩
      · exact shaped_ints _
      · rw [emp_eqv]
        by_cases e : ns = []
        · rw [decide_eq_true e]
          refine iteF ⟨by show 1 ≤ sizeLine; decide, fun l1 hl1 => ⟨l1, [5], rfl, hs0.trans (Same.up hl1), upd_same, by decide, by decide⟩⟩
        · rw [decide_eq_false e]
          refine iteT ⟨_, rfl, _, rfl, a, _, rfl, hs0.seq ha, fun l1 hl1 => ⟨l1, ns, rfl, hs0.trans (Same.up hl1), ?_, ?_, hl⟩⟩
          · rw [upd_same]
            exact congrArg (fun z => some (HO.lst z)) (cut63 _ (by rw [List.length_map]; exact hl))
          · exact List.length_pos_iff.mpr e
    · rintro σ H1 ⟨c, cs, rfl, s1, hc, h0, h63⟩
      have hq := SqL.of (K := K) hc
      have hL : ((cs.map V.int).length : Int) = (cs.length : Int) := by rw [List.length_map]
      have hm0 : 0 ≤ (i : Int) % (cs.length : Int) := Int.emod_nonneg _ (by omega)
      have hm1 : (i : Int) % (cs.length : Int) < (cs.length : Int) := Int.emod_lt_of_pos _ (by omega)
      obtain ⟨j, hj⟩ : ∃ j : Nat, (i : Int) % (cs.length : Int) = (j : Int) := ⟨_, (Int.toNat_of_nonneg hm0).symm⟩
      have hjl : j < cs.length := by omega
      have hat : atI (cs.map V.int) ((i : Int) % ((cs.map V.int).length : Int)) = some (V.int cs[j]) := by
        rw [hL, hj]
        exact atI_nat (by rw [List.getElem?_map, List.getElem?_eq_getElem hjl]; rfl)
      refine ⟨_, rfl, _, rfl, .inl ⟨_, rfl, _, rfl, c, _, rfl, .inl hq, _, _, rfl, rfl, ?_, c, _, _, _, rfl, rfl, hq, hat, _, rfl, _, rfl, c, _, rfl, .inl hq, _, _, rfl, rfl, ⟨?_, ?_⟩, _, _, rfl, rfl, .inl ⟨by decide, by decide⟩, _, _, rfl, rfl, ?_⟩⟩
      · show (0 : Int) < ((cs.map V.int).length : Int)
        omega
      · omega
      · omega
      · refine ⟨_, rfl, .inl ⟨_, rfl, _, _, rfl, rfl, by show (0 : Int) < 1000003; decide, ?_⟩⟩
        refine ⟨_, rfl, _, _, rfl, rfl, ⟨by decide, by decide⟩, .inl ⟨_, rfl, _, _, rfl, rfl, by show (0 : Int) < 999983; decide, _, _, rfl, ?_⟩⟩
        refine ⟨_, rfl, c, cs, rfl, hq, .inl ⟨_, rfl, _, _, rfl, rfl, by show (0 : Int) < 65521; decide, ?_⟩⟩
        refine ⟨_, rfl, _, rfl, _, _, rfl, rfl, .inl ⟨by decide, by decide⟩, _, _, rfl, rfl, _, _, rfl, rfl, .inr ⟨by decide, by decide⟩, ?_⟩
        refine ⟨_, rfl, _, _, rfl, rfl, .inl ⟨by decide, by decide⟩, _, _, rfl, rfl, _, rfl, _, _, rfl, rfl, .inl ⟨_, rfl, _, _, rfl, rfl, by show (0 : Int) < 2147483647; decide, ?_⟩⟩
        refine ⟨_, rfl, _, rfl, _, rfl, _, _, rfl, rfl, .inl ⟨by decide, by decide⟩, _, _, rfl, rfl, _, _, rfl, rfl, _, _, rfl, rfl, .inl ⟨?_, ?_⟩, .inl ⟨_, rfl, _, _, rfl, rfl, by show (0 : Int) < 2147483629; decide, ?_⟩⟩
        · have := Int.emod_nonneg ((((cs[j] + 13 * Int.fdiv (i : Int) ((cs.map V.int).length : Int)) % 1000003 + 977 * (i : Int)) * 48271 + 31 * (Int.fdiv (cs[j] + 13 * Int.fdiv (i : Int) ((cs.map V.int).length : Int)) 1000003 % 999983)) + cs.sum % 65521) (show (2147483647 : Int) ≠ 0 by decide)
          omega
        · have := Int.emod_lt_of_pos ((((cs[j] + 13 * Int.fdiv (i : Int) ((cs.map V.int).length : Int)) % 1000003 + 977 * (i : Int)) * 48271 + 31 * (Int.fdiv (cs[j] + 13 * Int.fdiv (i : Int) ((cs.map V.int).length : Int)) 1000003 % 999983)) + cs.sum % 65521) (show (0 : Int) < 2147483647 by decide)
          omega
        · exact ⟨_, _, rfl, rfl, .inr ⟨by decide, by decide⟩, _, rfl, _, _, rfl, rfl, q _ _ s1⟩
theorem b_num (T : Tx K mg A) : L2.Binds K A.d__law_number ["script", "index"] [] := T.F__law_number.binds fun _ _ _ _ _ _ us hl => match us, hl with | [_, _], _ => rfl
theorem But.put {d : Addr} {o : HO} {H : Hp} : But d H (upd H d o) := fun b u n e => by rw [upd_ne n]; exact e
theorem But.seq {d a : Addr} {H H' : Hp} {xs : List V} (s : But d H H') (h : SqL K H a xs) (n : a ≠ d ∨ ∀ H', SqL K H' a xs) : SqL K H' a xs := by
  rcases n with n | n
  rotate_left
  · exact n _
  rcases h with (h | ⟨o, h⟩) | h
  · exact .inl (.inl (s _ _ n h))
  · exact .inl (.inr ⟨o, s _ _ n h⟩)
  · exact .inr h
def spTake (K : PySem.W.Frag) : Sp := fun vs H Q _ => ∃ (d a : Addr) (ns : List Int) (k m : Nat), vs = [.ref d, .int m] ∧ DrAt K H d a ns k ∧ k < 100000 ∧ 0 < m ∧
  ∀ (H' : Hp) (r : Nat), But d H H' → DrAt K H' d a ns (k + 1) → r < m → Q (.int r) H'
theorem ok_take (T : Tx K mg A) : FnOk P w K mg base CX0 3 A.f__law_take A.d__law_take ["draw", "many"] (spTake K) := by
  refine T.F__law_take.ok sc__law_take (fun vs H Q E h => ?_) (fun cdv B outer s H vs Q E hr h => ?_)
  · obtain ⟨d, a, ns, k, m, rfl, _⟩ := h
    rfl
  · obtain ⟨d, a, ns, k, m, rfl, ⟨hl, hn, hs, h63⟩, hk, hm, q⟩ := h
    refine ⟨_, pss_cons (ps_asg (pe_op op_add (pe_ix ix_list (pv 0) pe_int (fun _ _ => rfl)) pe_int) (pg_sub (pv 0) pe_int set_list))
      (pss_one (ps_ret (pe_op op_mod (pe_callTy call_int1 (by rfl) T.g_int (by decide +kernel) (pa_cons
        (pe_call (ok_num T) hr (by rfl) T.m__law_number T.F__law_number.kp (b_num T) .nil pass0 (pa_cons (pe_ix ix_list (pv 0) pe_int (fun _ _ => rfl))
          (pa_cons (pe_callTy call_int1 (by rfl) T.g_int (by decide +kernel) (pa_cons (pe_ix ix_list (pv 0) pe_int (fun _ _ => rfl)) pa_nil)) pa_nil))) pa_nil)) (pv 1)))), ?_⟩
    have at1 : atI [V.ref a, V.int (k : Nat)] 1 = some (V.int (k : Nat)) := rfl
    refine ⟨_, rfl, d, _, _, _, rfl, rfl, SqL.of hl, at1, _, _, rfl, rfl, _, rfl, d, _, _, 1, rfl, rfl, hl, rfl, ?_⟩
    have e1 : upd H d (.lst (([V.ref a, V.int (k : Nat)]).set 1 (V.int ((k : Int) + 1)))) d = some (.lst [V.ref a, V.int ((k + 1 : Nat) : Int)]) := by
      rw [upd_same]
      rfl
    have b1 : But d H (upd H d (.lst (([V.ref a, V.int (k : Nat)]).set 1 (V.int ((k : Int) + 1))))) := But.put
    have s1 := b1.seq hs hn
    refine ⟨_, rfl, d, _, _, _, rfl, rfl, SqL.of e1, rfl, _, rfl, d, _, _, _, rfl, rfl, SqL.of e1, rfl, .inl ⟨_, rfl, a, ns, k + 1, rfl, s1, h63, by omega, fun H2 r s2 => ?_⟩⟩
    refine .inl ⟨_, rfl, _, rfl, _, _, rfl, rfl, by show (0 : Int) < (m : Nat); omega, ?_⟩
    have m0 := Int.emod_nonneg r (show ((m : Nat) : Int) ≠ 0 by omega)
    have m1 := Int.emod_lt_of_pos r (show (0 : Int) < (m : Nat) by omega)
    obtain ⟨z, hz⟩ : ∃ z : Nat, r % (m : Nat) = (z : Int) := ⟨_, (Int.toNat_of_nonneg m0).symm⟩
    have h := q H2 z (b1.trans (But.of s2)) ⟨s2 _ _ e1, hn, s2.seq s1, h63⟩ (by omega)
    rw [← hz] at h
    exact h
def spPick (K : PySem.W.Frag) : Sp := fun vs H Q _ => ∃ (d a b : Addr) (ns zs : List Int) (k : Nat), vs = [.ref d, .ref b] ∧ DrAt K H d a ns k ∧ k < 50000 ∧ H b = some (.lst (zs.map V.int)) ∧ b ≠ d ∧ 0 < zs.length ∧
  ∀ (H' : Hp) (z : Int), But d H H' → DrAt K H' d a ns (k + 1) → z ∈ zs → Q (.int z) H'
theorem ok_pick (T : Tx K mg A) : FnOk P w K mg base CX0 4 A.f__law_pick A.d__law_pick ["draw", "things"] (spPick K) := by
  refine T.F__law_pick.ok sc__law_pick (fun vs H Q E h => ?_) (fun cdv B outer s H vs Q E hr h => ?_)
  · obtain ⟨d, a, b, ns, zs, k, rfl, _⟩ := h
    rfl
  · obtain ⟨d, a, b, ns, zs, k, rfl, dr, hk, hb, hbd, hz, q⟩ := h
    refine ⟨_, pss_one (ps_ret (pe_ix ix_list (pv 1) (pe_call (ok_take T) hr (by rfl) T.m__law_take T.F__law_take.kp (b_take T) .nil pass0 (pa_cons (pv 0) (pa_cons (pe_callB call_len_seq (by rfl) T.g_len PySem.boot_len (pa_cons (pv 1) pa_nil)) pa_nil))) (fun _ _ => rfl))), ?_⟩
    refine ⟨_, rfl, _, rfl, _, rfl, b, _, rfl, .inl (SqL.of hb), d, a, ns, k, (zs.map V.int).length, rfl, dr, by omega, by rw [List.length_map]; exact hz, fun H1 r b1 dr1 hr1 => ?_⟩
    rw [List.length_map] at hr1
    have e : (zs.map V.int)[r]? = some (V.int zs[r]) := by rw [List.getElem?_map, List.getElem?_eq_getElem hr1]; rfl
    exact ⟨b, _, _, _, rfl, rfl, SqL.of (b1 _ _ hbd hb), atI_nat e, q H1 _ b1 dr1 (List.getElem_mem hr1)⟩
def spArm (K : PySem.W.Frag) : Sp := fun vs H Q _ => ∃ (d a : Addr) (ns : List Int) (k : Nat), vs = [.ref d] ∧ DrAt K H d a ns k ∧ k < 50000 ∧
  ∀ (H' : Hp) (w : Nat), But d H H' → DrAt K H' d a ns (k + 1) → (1 ≤ w ∧ w ≤ 4) → Q (.int w) H'
theorem ok_arm (T : Tx K mg A) : FnOk P w K mg base CX0 5 A.f__law_arms A.d__law_arms ["draw"] (spArm K) := by
  refine T.F__law_arms.ok sc__law_arms (fun vs H Q E h => ?_) (fun cdv B outer s H vs Q E hr h => ?_)
  · obtain ⟨d, a, ns, k, rfl, _⟩ := h
    rfl
  · obtain ⟨d, a, ns, k, rfl, dr, hk, q⟩ := h
    refine ⟨_, pss_one (ps_ret (pe_call (ok_pick T) hr (by rfl) T.m__law_pick T.F__law_pick.kp (b_pick T) .nil pass0 (pa_cons (pv 0) (pa_cons (pe_lst (pa_cons pe_int (pa_cons pe_int (pa_cons pe_int (pa_cons pe_int (pa_cons pe_int (pa_cons pe_int pa_nil))))))) pa_nil)))), ?_⟩
    refine ⟨_, rfl, by show 6 ≤ sizeLine; decide, fun b hb => ?_⟩
    have hbd : b ≠ d := fun z => by rw [z, dr.l] at hb; cases hb
    refine ⟨d, a, b, ns, [2, 2, 2, 3, 1, 4], k, rfl, dr.same (Same.up hb), hk, upd_same, hbd, by decide, fun H1 z b1 dr1 hz => ?_⟩
    have h4 : 1 ≤ z ∧ z ≤ 4 := by
      simp only [List.mem_cons, List.not_mem_nil, or_false] at hz
      omega
    obtain ⟨w, rfl⟩ : ∃ w : Nat, z = (w : Int) := ⟨z.toNat, by omega⟩
    exact q H1 w ((But.of (Same.up hb)).trans b1) dr1 ⟨by omega, by omega⟩
/-- a list or a tuple -/
def Sq (H : Hp) (a : Addr) (xs : List V) : Prop := H a = some (.lst xs) ∨ H a = some (.tup xs)
theorem Sq.same {H H' : Hp} {a : Addr} {xs : List V} (h : Sq H a xs) (s : Same H H') : Sq H' a xs := h.elim (fun e => .inl (s _ _ e)) fun e => .inr (s _ _ e)
/-- the places of a tree -/
def pl (n : Nat) : List V := (List.range n).map fun i => V.int (i : Nat)
/-- its attributes -/
def tf (n w t : Nat) : List (Str × V) := putF "_places" (.ref t) (putF "arms" (.int w) (putF "many" (.int n) []))
theorem tf_pl (n w t : Nat) : (tf n w t).lookup ("_places" : Str) = some (.ref t) := by
  unfold tf
  rw [lookup_putF, if_pos rfl]
/-- a tree of n places and w arms stands at p -/
structure TreeAt (C : Addr) (H : Hp) (p n w : Nat) : Prop where
  ob : ∃ dx t, H p = some (.ins C dx (tf n w t)) ∧ H t = some (.tup (pl n))
  hn : n ≤ 12
  hw : 1 ≤ w ∧ w ≤ 4
theorem TreeAt.same {C : Addr} {H H' : Hp} {p n w : Nat} (h : TreeAt C H p n w) (s : Same H H') : TreeAt C H' p n w :=
  ⟨let ⟨dx, t, a, b⟩ := h.ob; ⟨dx, t, s _ _ a, s _ _ b⟩, h.hn, h.hw⟩
theorem cst {x : Str} {n : Int} (h : mg x = some (.int n 0) ∨ ∃ t, mg x = some (.int n t)) : ∃ t, mg x = some (.int n t) := h.elim (fun e => ⟨0, e⟩) id
/-- True just for ints -/
def spIs (K : PySem.W.Frag) : Sp := fun vs H Q _ => ∃ x : V, vs = [x] ∧
  ((∃ i, x = .int i ∧ Q (.bl true) H) ∨ (∃ n b1 b2, TyX K H x (.type n) ∧ kitB n "int" = some b1 ∧ kitB n "bool" = some b2 ∧ (b1 && !b2) = false ∧ Q (.bl false) H))
theorem ok_is (T : Tx K mg A) : FnOk P w K mg base CX0 1 A.f_is_integer A.d_is_integer ["thing"] (spIs K) := by
  refine T.F_is_integer.ok sc_is_integer (fun vs H Q E h => ?_) (fun cdv B outer s H vs Q E hr h => ?_)
  · obtain ⟨x, rfl, _⟩ := h
    rfl
  · obtain ⟨x, rfl, h⟩ := h
    refine ⟨_, pss_one (ps_ret (pe_and (pe_callB call_isi (by rfl) T.g_isinstance (by decide +kernel) (pa_cons (pv 0) (pa_cons (pe_bltn (v := .ty "int") (by rfl) T.g_int (by decide +kernel) rfl) pa_nil)))
      (pe_one (pe_not (pe_callB call_isi (by rfl) T.g_isinstance (by decide +kernel) (pa_cons (pv 0) (pa_cons (pe_bltn (v := .ty "bool") (by rfl) T.g_bool (by decide +kernel) rfl) pa_nil))))))), ?_⟩
    rcases h with ⟨i, rfl, q⟩ | ⟨n, b1, b2, ty, k1, k2, hb, q⟩
    · refine ⟨_, rfl, _, _, .type "int", .type "int", true, rfl, .ty "int", .base (.int i), kit_ty (by decide +kernel), true, rfl, iteT ?_⟩
      exact ⟨_, rfl, _, _, .type "int", .type "bool", false, rfl, .ty "bool", .base (.int i), kit_ty (by decide +kernel), false, rfl, q⟩
    · refine ⟨_, rfl, _, _, .type n, .type "int", b1, rfl, .ty "int", ty, kit_ty k1, b1, rfl, ?_⟩
      cases b1 with
      | false => exact iteF q
      | true =>
        cases b2 with
        | false => cases hb
        | true => exact iteT ⟨_, rfl, _, _, .type n, .type "bool", true, rfl, .ty "bool", ty, kit_ty k2, true, rfl, q⟩
theorem b_is (T : Tx K mg A) : L2.Binds K A.d_is_integer ["thing"] [] := T.F_is_integer.binds fun _ _ _ _ _ _ us hl => match us, hl with | [_], _ => rfl
/-- True just for ints within; other things by their class -/
def spII (K : PySem.W.Frag) : Sp := fun vs H Q _ => ∃ (x : V) (a b : Int), vs = [x, .int a, .int b] ∧
  ((∃ i, x = .int i ∧ Q (.bl (decide (a ≤ i ∧ i ≤ b))) H) ∨ (∃ n b1 b2, TyX K H x (.type n) ∧ kitB n "int" = some b1 ∧ kitB n "bool" = some b2 ∧ (b1 && !b2) = false ∧ Q (.bl false) H))
theorem ok_ii (T : Tx K mg A) : FnOk P w K mg base CX0 2 A.f_is_integer_from A.d_is_integer_from ["thing", "least", "greatest"] (spII K) := by
  refine T.F_is_integer_from.ok sc_is_integer_from (fun vs H Q E h => ?_) (fun cdv B outer s H vs Q E hr h => ?_)
  · obtain ⟨x, a, b, rfl, _⟩ := h
    rfl
  · obtain ⟨x, a, b, rfl, h⟩ := h
    refine ⟨_, pss_one (ps_ret (pe_and (pe_call (ok_is T) hr (by rfl) T.m_is_integer T.F_is_integer.kp (b_is T) .nil pass0 (pa_cons (pv 0) pa_nil))
        (pe_one (pe_chain op_le op_le (pv 1) (pv 0) (pv 2))))), ?_⟩
    rcases h with ⟨i, rfl, q⟩ | h
    · refine ⟨_, rfl, _, rfl, .inl ⟨i, rfl, true, rfl, iteT ?_⟩⟩
      refine ⟨_, rfl, _, rfl, _, _, rfl, rfl, _, rfl, ?_⟩
      by_cases h1 : a ≤ i
      · rw [decide_eq_true h1]
        refine iteT ⟨_, rfl, _, _, rfl, rfl, ?_⟩
        have e : decide (a ≤ i ∧ i ≤ b) = decide (i ≤ b) := by simp [h1]
        rw [e] at q
        exact q
      · rw [decide_eq_false h1]
        have e : decide (a ≤ i ∧ i ≤ b) = false := by simp [h1]
        rw [e] at q
        exact iteF q
    · obtain ⟨n, b1, b2, ty, k1, k2, hb, q⟩ := h
      exact ⟨_, rfl, _, rfl, .inr ⟨n, b1, b2, ty, k1, k2, hb, false, rfl, iteF q⟩⟩
theorem b_ii (T : Tx K mg A) : L2.Binds K A.d_is_integer_from ["thing", "least", "greatest"] [] := T.F_is_integer_from.binds fun _ _ _ _ _ _ us hl => match us, hl with | [_, _, _], _ => rfl
def spCa : Sp := fun vs H Q _ => ∃ i : Int, vs = [.int i] ∧ (1 ≤ i ∧ i ≤ 4) ∧ Q .non H
theorem ok_ca (T : Tx K mg A) : FnOk P w K mg base CX0 3 A.f_check_arms A.d_check_arms ["arms"] spCa := by
  refine T.F_check_arms.ok sc_check_arms (fun vs H Q E h => ?_) (fun cdv B outer s H vs Q E hr h => ?_)
  · obtain ⟨i, rfl, _⟩ := h
    rfl
  · obtain ⟨i, rfl, hi, q⟩ := h
    obtain ⟨t, hg⟩ := cst T.c_MOST_ARMS
    refine ⟨_, pss_one (ps_if (pt_not (pt_val (pe_call (ok_ii T) hr (by rfl) T.m_is_integer_from T.F_is_integer_from.kp (b_ii T) .nil pass0
      (pa_cons (pv 0) (pa_cons pe_int (pa_cons (pe_glob (by rfl) hg (relI _ _)) pa_nil)))))) (pss_one ps_never) pss_nil), ?_⟩
    refine ⟨_, rfl, _, _, _, rfl, .inl ⟨i, rfl, _, rfl, ?_⟩⟩
    rw [decide_eq_true hi]
    exact iteF q
theorem b_ca (T : Tx K mg A) : L2.Binds K A.d_check_arms ["arms"] [] := T.F_check_arms.binds fun _ _ _ _ _ _ us hl => match us, hl with | [_], _ => rfl
/-- is_key of an int -/
def spKey : Sp := fun vs H Q _ => ∃ i : Int, vs = [.int i] ∧ Q (.bl (decide (-1000000000 ≤ i ∧ i ≤ 1000000000))) H
theorem ok_key (T : Tx K mg A) : FnOk P w K mg base CX0 3 A.f_is_key A.d_is_key ["thing"] spKey := by
  refine T.F_is_key.ok sc_is_key (fun vs H Q E h => ?_) (fun cdv B outer s H vs Q E hr h => ?_)
  · obtain ⟨i, rfl, _⟩ := h
    rfl
  · obtain ⟨i, rfl, q⟩ := h
    obtain ⟨t, hg⟩ := cst T.c_GREATEST_KEY
    refine ⟨_, pss_one (ps_ret (pe_call (ok_ii T) hr (by rfl) T.m_is_integer_from T.F_is_integer_from.kp (b_ii T) .nil pass0
      (pa_cons (pv 0) (pa_cons (pe_un un_neg (pe_glob (by rfl) hg (relI _ _))) (pa_cons (pe_glob (by rfl) hg (relI _ _)) pa_nil))))), ?_⟩
    exact ⟨_, rfl, _, rfl, _, _, _, rfl, .inl ⟨i, rfl, q⟩⟩
theorem b_key (T : Tx K mg A) : L2.Binds K A.d_is_key ["thing"] [] := T.F_is_key.binds fun _ _ _ _ _ _ us hl => match us, hl with | [_], _ => rfl
theorem Sq.len {K : PySem.W.Frag} {H : Hp} {a : Addr} {xs : List V} (h : Sq H a xs) : SqL K H a xs ∨ SqT K H a xs := h.elim (fun e => .inl (SqL.of e)) fun e => .inr (SqT.of e)
/-- keys go in, a tuple of them comes out -/
def spRow (K : PySem.W.Frag) : Sp := fun vs H Q _ => ∃ (a : Addr) (ns : List Int), vs = [.ref a] ∧ Sq H a (ns.map V.int) ∧ ns.length ≤ 12 ∧ (∀ n ∈ ns, -1000000000 ≤ n ∧ n ≤ 1000000000) ∧
  ∀ H' p, Same H H' → H' p = some (.tup (ns.map V.int)) → Q (.ref p) H'
theorem ok_row (T : Tx K mg A) : FnOk P w K mg base CX0 4 A.f_row_of A.d_row_of ["row"] (spRow K) := by
  refine T.F_row_of.ok sc_row_of (fun vs H Q E h => ?_) (fun cdv B outer s H vs Q E hr h => ?_)
  · obtain ⟨a, ns, rfl, _⟩ := h
    rfl
  · obtain ⟨a, ns, rfl, ha, hl, hk, q⟩ := h
    obtain ⟨t, hg⟩ := cst T.c_MOST_PLACES
    refine ⟨_, pss_cons (ps_if (PW.pt (pw_or (pt_not (pt_val (pe_callB call_isiT (by rfl) T.g_isinstance (by decide +kernel) (pa_cons (pv 0) (pa_cons (pe_tup (pa_cons (pe_bltn (v := .ty "list") (by rfl) T.g_list (by decide +kernel) rfl) (pa_cons (pe_bltn (v := .ty "tuple") (by rfl) T.g_tuple (by decide +kernel) rfl) pa_nil))) pa_nil)))))
        (pw_or1 (pt_cmpR op_gt (pe_callB call_len_seq (by rfl) T.g_len PySem.boot_len (pa_cons (pv 0) pa_nil)) (pe_glob (by rfl) hg (relI _ _)) (nomark _))))) (pss_one ps_never) pss_nil)
      (C8.pss_cut (ps_for PassesOwn.never rfl (pi_enS (by rfl) T.g_enumerate (pa_cons (pv 0) pa_nil)) (pg_tup rfl (pgs_cons (pg_name (i := 1) sc_row_of.nd rfl (Or.inl rfl)) (pgs_cons (pg_name (i := 2) sc_row_of.nd rfl (Or.inl rfl)) pgs_nil)))
        (pss_one (ps_if (pt_not (pt_val (pe_call (ok_key T) hr (by rfl) T.m_is_key T.F_is_key.kp (b_key T) .nil pass0 (pa_cons (pv 2) pa_nil)))) (pss_one ps_never) pss_nil)))
      (pss_one (ps_ret (pe_callTy call_tuple_of (by rfl) T.g_tuple (by decide +kernel) (pa_cons (pv 0) pa_nil))))), ?_⟩
    refine ⟨_, rfl, by show 2 ≤ sizeLine; decide, fun tp htp => ?_⟩
    have ha1 : Sq (upd H tp (.tup [.ty "list", .ty "tuple"])) a (ns.map V.int) := ha.same (Same.up htp)
    have isi : ∃ c b1, TyX K (upd H tp (.tup [.ty "list", .ty "tuple"])) (.ref a) (.type c) ∧ PySem.W.kitOne K (.type c) (.type "list") = some b1 ∧ (b1 = false → PySem.W.kitOne K (.type c) (.type "tuple") = some true) := by
      rcases ha1 with h | h
      · exact ⟨"list", true, .base (.lst h), kit_ty (by decide +kernel), fun z => by cases z⟩
      · exact ⟨"tuple", false, .base (.tup h), kit_ty (by decide +kernel), fun _ => kit_ty (by decide +kernel)⟩
    obtain ⟨c, b1, ty, k1, k2⟩ := isi
    refine ⟨_, tp, _, .type c, [.type "list", .type "tuple"], true, rfl, upd_same, .cons (.ty _) (.cons (.ty _) .nil), ty, kitAny_cons k1 (fun z => kitAny_cons (k2 z) (fun z => by cases z) (fun _ => rfl)) (fun _ => rfl), true, rfl, ?_⟩
    refine iteF ⟨_, rfl, a, _, rfl, ha1.len, _, _, rfl, rfl, _, rfl, ite2 (fun z => ?_) (fun _ => ?_)⟩
    · exfalso
      rw [List.length_map] at z
      have := of_decide_eq_true z
      omega
    refine ⟨fun σ H' => ∃ z y, σ = [some (.ref a), z, y] ∧ Same H H', ?_, ?_⟩
    · rcases ha with ha | ha
      · refine ⟨_, rfl, a, _, rfl, .inl ⟨SqL.of ((Same.up htp) _ _ ha), for_it (walk_enum (xs := ns.map V.int)) (fun i σ H' => ∃ z y, σ = [some (.ref a), z, y] ∧ Same H H') ⟨none, none, rfl, Same.up htp⟩ (fun i σ H' _ ⟨_, _, _, s⟩ => SqL.of (s _ _ ha)) ?_ ?_⟩⟩
        · rintro i v σ H2 H3 hi ⟨z, y, rfl, s⟩ ⟨T', x, x2, rfl, hT, rfl, e1, e2⟩
          obtain ⟨hi', rfl⟩ := ints_at e2
          cases e1
          refine ⟨_, _, rfl, SqT.of upd_same, rfl, _, _, rfl, _, _, rfl, rfl, ?_⟩
          refine ⟨_, rfl, _, rfl, _, rfl, ?_⟩
          rw [decide_eq_true (hk _ (List.getElem_mem hi'))]
          exact iteF ⟨_, _, rfl, s.trans (Same.up hT)⟩
        · rintro σ H2 ⟨z, y, rfl, s⟩
          exact ⟨_, _, rfl, s⟩
      · refine ⟨_, rfl, a, _, rfl, .inr ⟨SqT.of ((Same.up htp) _ _ ha), for_it (walk_enumT (xs := ns.map V.int)) (fun i σ H' => ∃ z y, σ = [some (.ref a), z, y] ∧ Same H H') ⟨none, none, rfl, Same.up htp⟩ (fun i σ H' _ ⟨_, _, _, s⟩ => SqT.of (s _ _ ha)) ?_ ?_⟩⟩
        · rintro i v σ H2 H3 hi ⟨z, y, rfl, s⟩ ⟨T', x, x2, rfl, hT, rfl, e1, e2⟩
          obtain ⟨hi', rfl⟩ := ints_at e2
          cases e1
          refine ⟨_, _, rfl, SqT.of upd_same, rfl, _, _, rfl, _, _, rfl, rfl, ?_⟩
          refine ⟨_, rfl, _, rfl, _, rfl, ?_⟩
          rw [decide_eq_true (hk _ (List.getElem_mem hi'))]
          exact iteF ⟨_, _, rfl, s.trans (Same.up hT)⟩
        · rintro σ H2 ⟨z, y, rfl, s⟩
          exact ⟨_, _, rfl, s⟩
    · rintro σ H2 ⟨z, y, rfl, s⟩
      rcases ha with ha | ha
      · exact ⟨_, rfl, a, _, rfl, .inl ⟨SqL.of (s _ _ ha), fun p hp => q _ _ (s.trans (Same.up hp)) upd_same⟩⟩
      · exact ⟨_, rfl, a, _, rfl, .inr ⟨SqT.of (s _ _ ha), q _ _ s (s _ _ ha)⟩⟩
theorem b_row (T : Tx K mg A) : L2.Binds K A.d_row_of ["row"] [] := T.F_row_of.binds fun _ _ _ _ _ _ us hl => match us, hl with | [_], _ => rfl
def spCm : Sp := fun vs H Q _ => ∃ i : Int, vs = [.int i] ∧ (0 ≤ i ∧ i ≤ 12) ∧ Q .non H
theorem ok_cm (T : Tx K mg A) : FnOk P w K mg base CX0 3 A.f_check_many A.d_check_many ["many"] spCm := by
  refine T.F_check_many.ok sc_check_many (fun vs H Q E h => ?_) (fun cdv B outer s H vs Q E hr h => ?_)
  · obtain ⟨i, rfl, _⟩ := h
    rfl
  · obtain ⟨i, rfl, hi, q⟩ := h
    obtain ⟨t, hg⟩ := cst T.c_MOST_PLACES
    refine ⟨_, pss_one (ps_if (pt_not (pt_val (pe_call (ok_ii T) hr (by rfl) T.m_is_integer_from T.F_is_integer_from.kp (b_ii T) .nil pass0
      (pa_cons (pv 0) (pa_cons pe_int (pa_cons (pe_glob (by rfl) hg (relI _ _)) pa_nil)))))) (pss_one ps_never) pss_nil), ?_⟩
    refine ⟨_, rfl, _, _, _, rfl, .inl ⟨i, rfl, _, rfl, ?_⟩⟩
    rw [decide_eq_true hi]
    exact iteF q
theorem b_cm (T : Tx K mg A) : L2.Binds K A.d_check_many ["many"] [] := T.F_check_many.binds fun _ _ _ _ _ _ us hl => match us, hl with | [_], _ => rfl
theorem rg_pl (n : Nat) : rgV 0 (n : Int) = pl n := by
  unfold rgV pl
  rw [show ((n : Int) - 0).toNat = n by omega]
  exact congrArg (fun f => (List.range n).map f) (funext fun i => by rw [Int.zero_add])
theorem n1 : ¬ (("many" : Str) = "arms") := by decide +kernel
def spInit (C : Addr) : Sp := fun vs H Q _ => ∃ (p dx n w : Nat), vs = [.ref p, .int n, .int w] ∧ n ≤ 12 ∧ (1 ≤ w ∧ w ≤ 4) ∧ H p = some (.ins C dx []) ∧
  ∀ (H' : Hp), (∀ b o, H b = some o → b ≠ p → H' b = some o) → TreeAt C H' p n w → Q .non H'
theorem ok_init (T : Tx K mg A) : FnOk P w K mg base CX0 4 A.f_t___init__ A.d_t___init__ ["self", "many", "arms"] (spInit A.C) := by
  refine T.F_t___init__.ok sc_t___init__ (fun vs H Q E h => ?_) (fun cdv B outer s H vs Q E hr h => ?_)
  · obtain ⟨p, dx, n, w, rfl, _⟩ := h
    rfl
  · obtain ⟨p, dx, n, w, rfl, hn, hw, hp, q⟩ := h
    refine ⟨_, PSs.nox (pss_cons (ps_expr (pe_call (ok_ca T) hr (by rfl) T.m_check_arms T.F_check_arms.kp (b_ca T) .nil pass0 (pa_cons (pv 2) pa_nil)))
      (pss_cons (ps_expr (pe_call (ok_cm T) hr (by rfl) T.m_check_many T.F_check_many.kp (b_cm T) .nil pass0 (pa_cons (pv 1) pa_nil)))
      (pss_cons (ps_fld (pv 0) (pv 1) rfl) (pss_cons (ps_fld (pv 0) (pv 2) rfl)
      (pss_one (ps_fld (pv 0) (pe_tupRg rfl (by rfl) T.g_tuple (prg_1 (by rfl) T.g_range (pv 1))) rfl)))))), ?_⟩
    refine ⟨_, rfl, _, rfl, ⟨by omega, by omega⟩, _, rfl, _, rfl, ⟨by omega, by omega⟩, ?_⟩
    refine ⟨_, rfl, _, rfl, p, A.C, dx, _, rfl, hp, T.cT, T.nMany, (by show 0 < 1000; decide), ?_⟩
    refine ⟨_, rfl, _, rfl, p, A.C, dx, _, rfl, upd_same, T.cT, T.nArms, (by show 1 < 1000; decide), ?_⟩
    refine ⟨_, rfl, _, rfl, RgOk.of_le (by omega) (by omega) (by omega) (by omega), fun t ht => ?_⟩
    have npt : p ≠ t := fun z => by
      rw [z, upd_same] at ht
      cases ht
    refine ⟨_, rfl, p, A.C, dx, _, rfl, Eq.trans (upd_ne npt) upd_same, T.cT, T.nPl, (by simp only [putF, n1, if_false]; show 2 < 1000; decide), ?_⟩
    refine q _ (fun b o e hb => ?_) ⟨⟨dx, t, upd_same, ?_⟩, hn, hw⟩
    · have nbt : b ≠ t := ne_of_none (by rw [upd_ne hb, upd_ne hb]; exact e) ht
      rw [upd_ne hb, upd_ne nbt, upd_ne hb, upd_ne hb]
      exact e
    · rw [upd_ne npt.symm, upd_same, rg_pl]
end
end Tw

set_option Elab.async false
set_option linter.all false
set_option maxRecDepth 100000
set_option maxHeartbeats 2000000
namespace Tw
open PySem PySem.Spec PyProof.Rows L2
section
variable {P : Program} {w : World} {K : PySem.W.Frag} {mg : Str → Option Value} {base : Heap} {A : Ad}
open LamX (ExtN Tabs TabS)
theorem kb_init (T : Tx K mg A) : ∃ mv : List Value, KBn K A.d_t___init__ ["self", "many", "arms"] 2 ["arms"] (fun us ws => us ++ (mv ++ ws)) (fun vs zs => vs ++ zs) := by
  obtain ⟨mv, h⟩ := T.F_t___init__.kbinds0 (ps := ["self", "many", "arms"]) 2 ["arms"] [] (fun us mv ws => us ++ (mv ++ ws)) (by simp) (by simp) (fun r1 r2 r3 => r1.append (r2.append r3))
    (fun D doc pm an cdv ct us mv ws h1 h2 h3 => by
      match us, mv, ws, h1, h2, h3 with
      | [a, b], [], [c], _, _, _ => rfl)
  exact ⟨mv, h⟩
def spOf (K : PySem.W.Frag) (C : Addr) : Sp := fun vs H Q _ => ∃ (a w : Nat) (ns : List Int), vs = [.ref C, .ref a, .int w] ∧ (1 ≤ w ∧ w ≤ 4) ∧ Sq H a (ns.map V.int) ∧ ns.length ≤ 12 ∧ (∀ n ∈ ns, -1000000000 ≤ n ∧ n ≤ 1000000000) ∧
  ∀ (H' : Hp) p, Same H H' → H p = none → TreeAt C H' p ns.length w → Q (.ref p) H'
theorem ok_of (T : Tx K mg A) : FnOk P w K mg base CX0 6 A.f_t_of A.d_t_of ["cls", "row", "arms"] (spOf K A.C) := by
  obtain ⟨mv, kb⟩ := kb_init T
  refine T.F_t_of.ok sc_t_of (fun vs H Q E h => ?_) (fun cdv B outer s H vs Q E hr h => ?_)
  · obtain ⟨a, w, ns, rfl, _⟩ := h
    rfl
  · obtain ⟨a, w, ns, rfl, hw, ha, hl, hk, q⟩ := h
    refine ⟨_, PSs.nox (pss_cons (ps_expr (pe_call (ok_ca T) (hr.mono (by decide)) (by rfl) T.m_check_arms T.F_check_arms.kp (b_ca T) .nil pass0 (pa_cons (pv 2) pa_nil)))
      (pss_one (ps_ret (pe_makeLK (i := 0) T.mkC (ok_init T) hr kb pass0 (pa_cons (pe_callB call_len_seq (by rfl) T.g_len PySem.boot_len (pa_cons (pe_call (ok_row T) (hr.mono (by decide)) (by rfl) T.m_row_of T.F_row_of.kp (b_row T) .nil pass0 (pa_cons (pv 1) pa_nil)) pa_nil)) pa_nil)
        (pk_cons (pv 2) pk_nil) rfl (Or.inl rfl))))), ?_⟩
    refine ⟨_, rfl, _, rfl, ⟨by omega, by omega⟩, rfl, _, rfl, a, ns, rfl, ha, hl, hk, fun H1 p s1 hp => ?_⟩
    refine ⟨p, _, rfl, .inr (SqT.of hp), _, rfl, rfl, rfl, fun x dx nx ndx nex => ?_⟩
    refine ⟨x, dx, ns.length, w, by rw [List.length_map]; rfl, hl, hw, upd_same, fun H2 k2 t2 => ⟨rfl, q H2 x (fun b o e => k2 b o ?_ (ne_of_none (s1 _ _ e) nx)) (s1.free nx) t2⟩⟩
    rw [upd_ne (ne_of_none (s1 _ _ e) nx), upd_ne (ne_of_none (s1 _ _ e) ndx)]
    exact s1 _ _ e
theorem b_len (T : Tx K mg A) : L2.Binds K A.d_t___len__ ["self"] [] := T.F_t___len__.binds fun _ _ _ _ _ _ us hl => match us, hl with | [_], _ => rfl
theorem b_iter (T : Tx K mg A) : L2.Binds K A.d_t___iter__ ["self"] [] := T.F_t___iter__.binds fun _ _ _ _ _ _ us hl => match us, hl with | [_], _ => rfl
theorem b_gi (T : Tx K mg A) : L2.Binds K A.d_t___getitem__ ["self", "place"] [] := T.F_t___getitem__.binds fun _ _ _ _ _ _ us hl => match us, hl with | [_, _], _ => rfl
theorem pl_len (n : Nat) : (pl n).length = n := by unfold pl; rw [List.length_map, List.length_range]
def spLen (C : Addr) : Sp := fun vs H Q _ => ∃ (p n w : Nat), vs = [.ref p] ∧ TreeAt C H p n w ∧ Q (.int n) H
theorem ok_len (T : Tx K mg A) : FnOk P w K mg base CX0 2 A.f_t___len__ A.d_t___len__ ["self"] (spLen A.C) := by
  refine T.F_t___len__.ok sc_t___len__ (fun vs H Q E h => ?_) (fun cdv B outer s H vs Q E hr h => ?_)
  · obtain ⟨p, n, w, rfl, _⟩ := h
    rfl
  · obtain ⟨p, n, w, rfl, t, q⟩ := h
    obtain ⟨dx, l, h1, h2⟩ := t.ob
    refine ⟨_, pss_one (ps_ret (pe_callB call_len_seq (by rfl) T.g_len PySem.boot_len (pa_cons (pe_fld (pv 0) rfl) pa_nil))), ?_⟩
    refine ⟨_, rfl, p, A.C, dx, _, _, rfl, h1, T.cT, T.nPl, tf_pl _ _ _, l, _, rfl, .inr (SqT.of h2), ?_⟩
    rw [pl_len]
    exact q
theorem ok_iter (T : Tx K mg A) : FnIt P w K mg base 2 A.f_t___iter__ A.d_t___iter__ ["self"] (spIter K A.C "_places") := by
  refine fnIt_of T.F_t___iter__ sc_t___iter__ (fun cdv B outer s H vs Q hr h => ?_)
  obtain ⟨a, dx, fs, t, zs, rfl, ha, hf, ht, q⟩ := h
  refine ⟨_, pss_one (ps_ret (pe_callB call_iterT (by rfl) T.g_iter (by decide +kernel) (pa_cons (pe_fld (pv 0) rfl) pa_nil))), ?_⟩
  exact ⟨_, rfl, a, A.C, dx, _, _, rfl, ha, T.cT, T.nPl, hf, t, zs, rfl, ht, q⟩
def spCp : Sp := fun vs H Q _ => ∃ i n : Int, vs = [.int i, .int n] ∧ (0 ≤ i ∧ i < n) ∧ Q .non H
theorem ok_cp (T : Tx K mg A) : FnOk P w K mg base CX0 3 A.f_check_place A.d_check_place ["place", "many"] spCp := by
  refine T.F_check_place.ok sc_check_place (fun vs H Q E h => ?_) (fun cdv B outer s H vs Q E hr h => ?_)
  · obtain ⟨i, n, rfl, _⟩ := h
    rfl
  · obtain ⟨i, n, rfl, hi, q⟩ := h
    refine ⟨_, pss_one (ps_if (pt_not (pt_val (pe_call (ok_ii T) hr (by rfl) T.m_is_integer_from T.F_is_integer_from.kp (b_ii T) .nil pass0
      (pa_cons (pv 0) (pa_cons pe_int (pa_cons (pe_op op_sub (pv 1) pe_int) pa_nil)))))) (pss_one ps_never) pss_nil), ?_⟩
    refine ⟨_, rfl, _, rfl, _, _, rfl, rfl, _, _, _, rfl, .inl ⟨i, rfl, _, rfl, ?_⟩⟩
    rw [decide_eq_true (show 0 ≤ i ∧ i ≤ n - 1 by omega)]
    exact iteF q
theorem b_cp (T : Tx K mg A) : L2.Binds K A.d_check_place ["place", "many"] [] := T.F_check_place.binds fun _ _ _ _ _ _ us hl => match us, hl with | [_, _], _ => rfl
theorem n2 : ¬ (("many" : Str) = "_places") := by decide +kernel
theorem tf_many (n w t : Nat) : (tf n w t).lookup ("many" : Str) = some (.int n) := by
  unfold tf
  rw [lookup_putF, if_neg n2, lookup_putF, if_neg n1, lookup_putF, if_pos rfl]
theorem n3 : ¬ (("arms" : Str) = "_places") := by decide +kernel
theorem tf_arms (n w t : Nat) : (tf n w t).lookup ("arms" : Str) = some (.int w) := by
  unfold tf
  rw [lookup_putF, if_neg n3, lookup_putF, if_pos rfl]
/-- the children of a place, as the program cuts them -/
def kids (n w i : Nat) : List V := cutV (pl n) (some ((i : Int) * (w : Int) + 1)) (some ((i : Int) * (w : Int) + 1 + (w : Int)))
def spGi (C : Addr) : Sp := fun vs H Q _ => ∃ (p n w i : Nat), vs = [.ref p, .int i] ∧ TreeAt C H p n w ∧ i < n ∧ ∀ H' q, Same H H' → H' q = some (.tup (kids n w i)) → Q (.ref q) H'
theorem ok_gi (T : Tx K mg A) : FnOk P w K mg base CX0 4 A.f_t___getitem__ A.d_t___getitem__ ["self", "place"] (spGi A.C) := by
  refine T.F_t___getitem__.ok sc_t___getitem__ (fun vs H Q E h => ?_) (fun cdv B outer s H vs Q E hr h => ?_)
  · obtain ⟨p, n, w, i, rfl, _⟩ := h
    rfl
  · obtain ⟨p, n, w, i, rfl, t, hi, q⟩ := h
    obtain ⟨dx, l, h1, h2⟩ := t.ob
    refine ⟨_, pss_cons (ps_expr (pe_call (ok_cp T) hr (by rfl) T.m_check_place T.F_check_place.kp (b_cp T) .nil pass0 (pa_cons (pv 1) (pa_cons (pe_fld (pv 0) rfl) pa_nil))))
      (pss_cons (ps_set (i := 2) sc_t___getitem__.nd rfl (Or.inl rfl) (pe_op op_add (pe_op op_mul (pv 1) (pe_fld (pv 0) rfl)) pe_int))
      (pss_one (ps_ret (pe_slice sl_tup (pe_fld (pv 0) rfl) (po_some (pv 2)) (po_some (pe_op op_add (pv 2) (pe_fld (pv 0) rfl))))))), ?_⟩
    refine ⟨_, rfl, _, rfl, p, A.C, dx, _, _, rfl, h1, T.cT, T.nMany, tf_many _ _ _, _, _, rfl, ⟨by omega, by omega⟩, ?_⟩
    refine ⟨_, rfl, _, rfl, p, A.C, dx, _, _, rfl, h1, T.cT, T.nArms, tf_arms _ _ _, _, _, rfl, rfl, .inl ⟨by have := t.hn; omega, by have := t.hn; omega⟩, _, _, rfl, rfl, ?_⟩
    refine ⟨_, rfl, p, A.C, dx, _, _, rfl, h1, T.cT, T.nPl, tf_pl _ _ _, ?_⟩
    refine ⟨_, rfl, _, rfl, _, rfl, _, rfl, p, A.C, dx, _, _, rfl, h1, T.cT, T.nArms, tf_arms _ _ _, _, _, rfl, rfl, _, rfl, ?_⟩
    refine ⟨l, pl n, rfl, SqT.of h2, fun z => ?_, fun r hr0 => q _ r (Same.up hr0) upd_same⟩
    have z1 := z.1
    rw [pl_len, show ((i : Int) * (w : Int) + 1) = ((i * w + 1 : Nat) : Int) by push_cast; rfl, HT.sIx_nat] at z1
    omega
def vi (l : List Nat) : List V := l.map fun i => V.int (i : Nat)
def kidsN (n w i : Nat) : List Nat := ((List.range n).drop (min (i * w + 1) n)).take (min (i * w + 1 + w) n - min (i * w + 1) n)
theorem kids_same : ∀ n, n < 13 → ∀ w, w < 5 → ∀ i, i < n → 1 ≤ w → kidsN n w i = kidL n w i := by decide +kernel
theorem kids_eq (n w i : Nat) : kids n w i = vi (kidsN n w i) := by
  unfold kids cutV kidsN
  rw [pl_len, show ((i : Int) * (w : Int) + 1) = ((i * w + 1 : Nat) : Int) by push_cast; rfl, show (((i * w + 1 : Nat) : Int) + (w : Int)) = ((i * w + 1 + w : Nat) : Int) by push_cast; rfl, HT.sIx_nat, HT.sIx_nat]
  unfold vi pl
  rw [List.map_take, List.map_drop]
theorem kb_of (T : Tx K mg A) : ∃ mv : List Value, KBn K A.d_t_of ["cls", "row", "arms"] 2 ["arms"] (fun us ws => us ++ (mv ++ ws)) (fun vs zs => vs ++ zs) := by
  obtain ⟨mv, h⟩ := T.F_t_of.kbinds0 (ps := ["cls", "row", "arms"]) 2 ["arms"] [] (fun us mv ws => us ++ (mv ++ ws)) (by simp) (by simp) (fun r1 r2 r3 => r1.append (r2.append r3))
    (fun D doc pm an cdv ct us mv ws h1 h2 h3 => by
      match us, mv, ws, h1, h2, h3 with
      | [a, b], [], [c], _, _, _ => rfl)
  exact ⟨mv, h⟩
/-- what stood before an instance was made stands behind its making -/
theorem new_same {C x dx : Addr} {H H' : Hp} (nx : H x = none) (ndx : H dx = none) (k : ∀ b o, (upd (upd H dx (.own x)) x (.ins C dx [])) b = some o → b ≠ x → H' b = some o) : Same H H' := fun b o e => by
  refine k b o ?_ (ne_of_none e nx)
  rw [upd_ne (ne_of_none e nx), upd_ne (ne_of_none e ndx)]
  exact e
def RowIn (H : Hp) (a : Addr) (ns : List Int) : Prop := Sq H a (ns.map V.int) ∧ ns.length ≤ 12 ∧ (∀ n ∈ ns, -1000000000 ≤ n ∧ n ≤ 1000000000)
theorem RowIn.same {H H' : Hp} {a : Addr} {ns : List Int} (h : RowIn H a ns) (s : Same H H') : RowIn H' a ns := ⟨h.1.same s, h.2⟩
def zf (t1 t2 lk : Nat) : List (Str × V) := putF "looks" (.int lk) (putF "way" (.ref t2) (putF "row" (.ref t1) []))
theorem zf_row (t1 t2 lk : Nat) : (zf t1 t2 lk).lookup ("row" : Str) = some (.ref t1) := by
  unfold zf
  rw [lookup_putF, if_neg m2, lookup_putF, if_neg m1, lookup_putF, if_pos rfl]
theorem zf_way (t1 t2 lk : Nat) : (zf t1 t2 lk).lookup ("way" : Str) = some (.ref t2) := by
  unfold zf
  rw [lookup_putF, if_neg m3, lookup_putF, if_pos rfl]
theorem zf_looks (t1 t2 lk : Nat) : (zf t1 t2 lk).lookup ("looks" : Str) = some (.int lk) := by
  unfold zf
  rw [lookup_putF, if_pos rfl]
/-- a Sift stands at p -/
def SiftAt (C : Addr) (H : Hp) (p : Addr) (ks ws : List Int) (lk : Nat) : Prop := ∃ (dx t1 t2 : Addr), H p = some (.ins C dx (zf t1 t2 lk)) ∧ H t1 = some (.tup (ks.map V.int)) ∧ H t2 = some (.tup (ws.map V.int))
theorem SiftAt.ext {C : Addr} {H H' : Hp} {p : Addr} {ks ws : List Int} {lk : Nat} (h : SiftAt C H p ks ws lk) (e : ∀ b o, H b = some o → (∀ ps, o ≠ .tbl ps) → H' b = some o) : SiftAt C H' p ks ws lk := by
  obtain ⟨dx, t1, t2, a, b, c⟩ := h
  exact ⟨dx, t1, t2, e _ _ a (fun ps z => nomatch z), e _ _ b (fun ps z => nomatch z), e _ _ c (fun ps z => nomatch z)⟩
theorem SiftAt.same {C : Addr} {H H' : Hp} {p : Addr} {ks ws : List Int} {lk : Nat} (h : SiftAt C H p ks ws lk) (s : Same H H') : SiftAt C H' p ks ws lk := h.ext fun b o e _ => s b o e
def wz (l : List Nat) : List Int := l.map fun i => ((i : Nat) : Int)
/-- two lists of one's own, where code may be made -/
structure TwoE (T : List (Addr × Str)) (H : Hp) (D W : Addr) (xs ys : List V) (H' : Hp) : Prop where
  e : ExtN H H'
  t : Tabs T H'
  d : H' D = some (.lst xs)
  w : H' W = some (.lst ys)
  nD : H D = Option.none
  nW : H W = Option.none
  ne : D ≠ W
theorem tabs_upd {T : List (Addr × Str)} {H : Hp} {D : Addr} {xs : List V} {o : HO} (t : Tabs T H) (h : H D = some (.lst xs)) : Tabs T (upd H D o) := fun p hp => by
  obtain ⟨ps, h1, h2, h3⟩ := t p hp
  refine ⟨ps, by rw [upd_ne (ne_of h1 h (by intro z; cases z))]; exact h1, h2, fun pos cv hc => ?_⟩
  obtain ⟨c, e1, e2⟩ := h3 pos cv hc
  exact ⟨c, e1, by rw [upd_ne (ne_of e2 h (by intro z; unfold LamX.CodeO at z; cases z))]; exact e2⟩
section
variable {T : List (Addr × Str)} {H H' H2 : Hp} {D W : Addr} {xs ys zs : List V}
theorem TwoE.setD (h : TwoE T H D W xs ys H') : TwoE T H D W zs ys (upd H' D (.lst zs)) :=
  ⟨fun b o e n => by rw [upd_ne (ne_of_none e h.nD)]; exact h.e _ _ e n, tabs_upd h.t h.d, upd_same, by rw [upd_ne h.ne.symm]; exact h.w, h.nD, h.nW, h.ne⟩
theorem TwoE.setW (h : TwoE T H D W xs ys H') : TwoE T H D W xs zs (upd H' W (.lst zs)) :=
  ⟨fun b o e n => by rw [upd_ne (ne_of_none e h.nW)]; exact h.e _ _ e n, tabs_upd h.t h.w, by rw [upd_ne h.ne]; exact h.d, upd_same, h.nD, h.nW, h.ne⟩
theorem TwoE.same (h : TwoE T H D W xs ys H') (s : Same H' H2) : TwoE T H D W xs ys H2 := ⟨h.e.trans (extN_of s), h.t.ext s, s _ _ h.d, s _ _ h.w, h.nD, h.nW, h.ne⟩
theorem TwoE.ext (h : TwoE T H D W xs ys H') (e : ExtN H' H2) (t : Tabs T H2) : TwoE T H D W xs ys H2 := ⟨h.e.trans e, t, e _ _ h.d (fun ps z => nomatch z), e _ _ h.w (fun ps z => nomatch z), h.nD, h.nW, h.ne⟩
end
theorem TreeAt.ext {C : Addr} {H H' : Hp} {p n w : Nat} (h : TreeAt C H p n w) (e : ExtN H H') : TreeAt C H' p n w :=
  ⟨let ⟨dx, t, a, b⟩ := h.ob; ⟨dx, t, e _ _ a (fun ps z => nomatch z), e _ _ b (fun ps z => nomatch z)⟩, h.hn, h.hw⟩
theorem Sq.ext {H H' : Hp} {a : Addr} {xs : List V} (h : Sq H a xs) (e : ExtN H H') : Sq H' a xs := h.elim (fun x => .inl (e _ _ x (fun ps z => nomatch z))) fun x => .inr (e _ _ x (fun ps z => nomatch z))
theorem RowIn.ext {H H' : Hp} {a : Addr} {ns : List Int} (h : RowIn H a ns) (e : ExtN H H') : RowIn H' a ns := ⟨h.1.ext e, h.2⟩
theorem vi_len (l : List Nat) : (vi l).length = l.length := by unfold vi; rw [List.length_map]
theorem vi_app (a b : List Nat) : vi (a ++ b) = vi a ++ vi b := by unfold vi; rw [List.map_append]
theorem kid_len : ∀ n, n < 13 → ∀ w, w < 5 → ∀ i, i < n → 1 ≤ w → (kidL n w i).length ≤ 4 := by decide +kernel
def spZi (C : Addr) : Sp := fun vs H Q _ => ∃ (p dx a b lk : Nat) (ks ws : List Int), vs = [.ref p, .ref a, .ref b, .int lk] ∧ H p = some (.ins C dx []) ∧ Sq H a (ks.map V.int) ∧ Sq H b (ws.map V.int) ∧ 
  ∀ (H' : Hp), (∀ b o, H b = some o → b ≠ p → H' b = some o) → SiftAt C H' p ks ws lk → Q .non H'
theorem ok_zi (T : Tx K mg A) : FnOk P w K mg base CX0 2 A.f_z___init__ A.d_z___init__ ["self", "row", "way", "looks"] (spZi A.CS) := by
  refine T.F_z___init__.ok sc_z___init__ (fun vs H Q E h => ?_) (fun cdv B outer s H vs Q E hr h => ?_)
  · obtain ⟨p, dx, a, b, lk, ks, ws, rfl, _⟩ := h
    rfl
  · obtain ⟨p, dx, a, b, lk, ks, ws, rfl, hp, ha, hb, q⟩ := h
    refine ⟨_, C8.pss_cut (ps_fld (pv 0) (pe_callTy call_tuple_of (by rfl) T.g_tuple (by decide +kernel) (pa_cons (pv 1) pa_nil)) rfl)
      (C8.pss_cut (ps_fld (pv 0) (pe_callTy call_tuple_of (by rfl) T.g_tuple (by decide +kernel) (pa_cons (pv 2) pa_nil)) rfl)
      (pss_one (ps_fld (pv 0) (pv 3) rfl))), ?_⟩
    have npa : p ≠ a := fun z => by rcases ha with h | h <;> rw [← z, hp] at h <;> cases h
    have npb : p ≠ b := fun z => by rcases hb with h | h <;> rw [← z, hp] at h <;> cases h
    refine ⟨fun σ H' => ∃ t1 : Addr, σ = L2.start ["self", "row", "way", "looks"] [.ref p, .ref a, .ref b, .int lk] ∧ (∀ c o, H c = some o → c ≠ p → H' c = some o) ∧ H' p = some (.ins A.CS dx (putF "row" (.ref t1) [])) ∧ H' t1 = some (.tup (ks.map V.int)) ∧ t1 ≠ p, ?_, ?_⟩
    · have go : ∀ (H1 : Hp) (t1 : Addr), Same H H1 → H1 t1 = some (.tup (ks.map V.int)) → ∃ t2 : Addr, (L2.start ["self", "row", "way", "looks"] [.ref p, .ref a, .ref b, .int lk]) = L2.start ["self", "row", "way", "looks"] [.ref p, .ref a, .ref b, .int lk] ∧ (∀ c o, H c = some o → c ≠ p → upd H1 p (.ins A.CS dx (putF "row" (.ref t1) [])) c = some o) ∧ upd H1 p (.ins A.CS dx (putF "row" (.ref t1) [])) p = some (.ins A.CS dx (putF "row" (.ref t2) [])) ∧ upd H1 p (.ins A.CS dx (putF "row" (.ref t1) [])) t2 = some (.tup (ks.map V.int)) ∧ t2 ≠ p := fun H1 t1 s1 e1 => by
        have n1 : t1 ≠ p := fun z => by rw [z, s1 _ _ hp] at e1; cases e1
        exact ⟨t1, rfl, fun c o e n => by rw [upd_ne n]; exact s1 _ _ e, upd_same, by rw [upd_ne n1]; exact e1, n1⟩
      rcases ha with h | h
      · exact ⟨_, rfl, a, _, rfl, .inl ⟨SqL.of h, fun t1 ht1 => ⟨_, rfl, p, A.CS, dx, _, rfl, (Same.up ht1) _ _ hp, T.cTS, T.nRow, (by show 0 < 1000; decide), go _ t1 (Same.up ht1) upd_same⟩⟩⟩
      · exact ⟨_, rfl, a, _, rfl, .inr ⟨SqT.of h, _, rfl, p, A.CS, dx, _, rfl, hp, T.cTS, T.nRow, (by show 0 < 1000; decide), go H a (Same.refl _) h⟩⟩
    rintro σ H1 ⟨t1, rfl, k1, hp1, e1, n1⟩
    have hb1 : Sq H1 b (ws.map V.int) := hb.elim (fun h => .inl (k1 _ _ h npb.symm)) fun h => .inr (k1 _ _ h npb.symm)
    refine ⟨fun σ H' => ∃ t2 : Addr, σ = L2.start ["self", "row", "way", "looks"] [.ref p, .ref a, .ref b, .int lk] ∧ (∀ c o, H1 c = some o → c ≠ p → H' c = some o) ∧ H' p = some (.ins A.CS dx (putF "way" (.ref t2) (putF "row" (.ref t1) []))) ∧ H' t2 = some (.tup (ws.map V.int)) ∧ t2 ≠ p, ?_, ?_⟩
    · have go : ∀ (H2 : Hp) (t2 : Addr), Same H1 H2 → H2 t2 = some (.tup (ws.map V.int)) → ∃ t3 : Addr, (L2.start ["self", "row", "way", "looks"] [.ref p, .ref a, .ref b, .int lk]) = L2.start ["self", "row", "way", "looks"] [.ref p, .ref a, .ref b, .int lk] ∧ (∀ c o, H1 c = some o → c ≠ p → upd H2 p (.ins A.CS dx (putF "way" (.ref t2) (putF "row" (.ref t1) []))) c = some o) ∧ upd H2 p (.ins A.CS dx (putF "way" (.ref t2) (putF "row" (.ref t1) []))) p = some (.ins A.CS dx (putF "way" (.ref t3) (putF "row" (.ref t1) []))) ∧ upd H2 p (.ins A.CS dx (putF "way" (.ref t2) (putF "row" (.ref t1) []))) t3 = some (.tup (ws.map V.int)) ∧ t3 ≠ p := fun H2 t2 s2 e2 => by
        have n2 : t2 ≠ p := fun z => by rw [z, s2 _ _ hp1] at e2; cases e2
        exact ⟨t2, rfl, fun c o e n => by rw [upd_ne n]; exact s2 _ _ e, upd_same, by rw [upd_ne n2]; exact e2, n2⟩
      rcases hb1 with h | h
      · exact ⟨_, rfl, b, _, rfl, .inl ⟨SqL.of h, fun t2 ht2 => ⟨_, rfl, p, A.CS, dx, _, rfl, (Same.up ht2) _ _ hp1, T.cTS, T.nWay, (by show 1 < 1000; decide), go _ t2 (Same.up ht2) upd_same⟩⟩⟩
      · exact ⟨_, rfl, b, _, rfl, .inr ⟨SqT.of h, _, rfl, p, A.CS, dx, _, rfl, hp1, T.cTS, T.nWay, (by show 1 < 1000; decide), go H1 b (Same.refl _) h⟩⟩
    rintro σ H2 ⟨t2, rfl, k2, hp2, e2, n2⟩
    refine ⟨_, rfl, _, rfl, p, A.CS, dx, _, rfl, hp2, T.cTS, T.nLooks, (by simp only [putF, m1, if_false]; show 2 < 1000; decide), ?_⟩
    refine q _ (fun c o e hc => ?_) ⟨dx, t1, t2, upd_same, ?_, ?_⟩
    · rw [upd_ne hc]
      exact k2 _ _ (k1 _ _ e hc) hc
    · rw [upd_ne n1]
      exact k2 _ _ e1 n1
    · rw [upd_ne n2]
      exact e2
theorem b_zi (T : Tx K mg A) : L2.Binds K A.d_z___init__ ["self", "row", "way", "looks"] [] := T.F_z___init__.binds fun _ _ _ _ _ _ us hl => match us, hl with | [_, _, _, _], _ => rfl
/-- least_child -/
def spLc (K : PySem.W.Frag) (A : Ad) : Sp := fun vs H Q _ => ∃ (l a : Addr) (ks ns : List Int), vs = [.ref l, .ref a] ∧ SqL K H l (ks.map V.int) ∧ SqT K H a (ns.map V.int) ∧ 0 < ns.length ∧ (∀ n ∈ ns, 0 ≤ n ∧ n < ks.length) ∧ LamX.Tabs (TT A) H ∧
  ∀ (m : Int) (H' : Hp), LamX.ExtN H H' → LamX.Tabs (TT A) H' → Cl.LeastAt ks ns m → Q (.int m) H'
theorem ok_lc (T : Tx K mg A) (TB : LamX.TabB base mg A.c_least_child A.P_least_child) : FnOk P w K mg base CX0 2 A.f_least_child A.d_least_child ["keys", "children"] (spLc K A) := by
  obtain ⟨oc, od, kV, doc, pm, an, ct, osl, ed, lk, hcd⟩ := T.L_least_child
  rw [ed] at lk ⊢
  refine fn_of lk hcd sc_least_child (fun vs H Q E h => ?_) (fun B outer s H vs Q E hr h => ?_)
  · obtain ⟨l, a, ks, ns, rfl, _⟩ := h
    rfl
  · obtain ⟨l, a, ks, ns, rfl, hl, ha, hne, hin, hT, q⟩ := h
    refine ⟨_, PSs.nox (pss_one (ps_ret (Cl.pe_minlam (T := TT A) (x := "place") (y := "keys") (j := 0) (by rfl) T.g_min (pv 1) hr.depth hr.hd TB rfl (tt_mem0 A) (tt_un0 T.pne)
      ⟨rfl, rfl, rfl, by decide +kernel, by decide +kernel, by decide +kernel⟩ (show (defScope s_least_child).names.lookup ("keys" : Str) = some NameKind.cell by decide +kernel) (by decide +kernel) rfl rfl (fun _ _ _ _ _ _ => rfl)))), ?_⟩
    exact ⟨_, rfl, a, l, ns, ks, rfl, ha, rfl, hl, hne, hin, hT, fun m H2 e t lm => q m H2 e t lm⟩
theorem b_lc (T : Tx K mg A) : L2.Binds K A.d_least_child ["keys", "children"] [] := T.F_least_child.binds fun _ _ _ _ _ _ us hl => match us, hl with | [_, _], _ => rfl
theorem vi_ints (l : List Nat) : vi l = (l.map fun i => ((i : Nat) : Int)).map V.int := by unfold vi; rw [List.map_map]; rfl
theorem vi_wz (l : List Nat) : vi l = (wz l).map V.int := vi_ints l
theorem key_at {ks : List Int} {p : Nat} (h : p < ks.length) : atI (ks.map V.int) (p : Int) = some (V.int (keyAt ks p)) := by
  have e : (ks.map V.int)[p]? = some (V.int (keyAt ks p)) := by
    unfold keyAt
    rw [List.getElem?_map, List.getD_eq_getElem?_getD, List.getElem?_eq_getElem h]
    rfl
  exact atI_nat e
theorem ixN_nat {n p : Nat} (h : p < n) : ixN n (p : Int) = some p := by
  unfold ixN
  rw [if_pos (by omega), if_pos (by omega), Int.toNat_natCast]
theorem last_at {xs : List V} {y : V} : atI (xs ++ [y]) (-1) = some y := by
  unfold atI ixN
  rw [if_neg (by omega), if_pos (by simp; omega), show ((-1 : Int) + ((xs ++ [y]).length : Nat)).toNat = xs.length by rw [List.length_append, List.length_singleton]; omega]
  simp
theorem set_int (ks : List Int) (p : Nat) (v : Int) : (ks.map V.int).set p (V.int v) = (ks.set p v).map V.int := (List.map_set ..).symm
theorem wz_get (l : List Nat) (i : Nat) : (wz l).getD i 0 = ((l.getD i 0 : Nat) : Int) := by
  unfold wz
  rw [List.getD_eq_getElem?_getD, List.getD_eq_getElem?_getD, List.getElem?_map]
  cases l[i]? <;> rfl
theorem least_wz {ks : List Int} {l : List Nat} {m : Int} (h : Cl.LeastAt ks (wz l) m) : m = ((leastC ks l : Nat) : Int) := by
  obtain ⟨j, fl, e⟩ := h
  rw [wz_get] at e
  have hl : (wz l).length = l.length := by unfold wz; rw [List.length_map]
  have ef : (fun i => ks.getD ((wz l).getD i 0).toNat 0) = fun i => keyAt ks (l.getD i 0) := by
    funext i
    rw [wz_get, Int.toNat_natCast]
    rfl
  rw [hl, ef] at fl
  rw [e, least_of fl]
def muW (σ : L2.St) (H : Hp) : Nat := match σ[6]? with
  | some (some (V.ref W)) => (match H W with | some (.lst xs) => 40 - xs.length | _ => 0)
  | _ => 0
theorem muW_at {σ : L2.St} {H : Hp} {W : Addr} {xs : List V} (h : σ[6]? = some (some (V.ref W))) (hw : H W = some (.lst xs)) : muW σ H = 40 - xs.length := by
  unfold muW
  rw [h]
  show (match H W with | some (.lst xs) => 40 - xs.length | _ => 0) = _
  rw [hw]
def resSift (C : Addr) (H : Hp) (q : Addr) (r : List Int × List Nat × Nat) : Prop := SiftAt C H q r.1 (wz r.2.1) r.2.2
def spDown (A : Ad) : Sp := fun vs H Q _ => ∃ (r p w : Nat) (ks : List Int), vs = [.ref r, .int p, .int w] ∧ (1 ≤ w ∧ w ≤ 4) ∧ RowIn H r ks ∧ p < ks.length ∧ Tabs (TT A) H ∧
  ∀ (H' : Hp) (q : Addr), ExtN H H' → Tabs (TT A) H' → resSift A.CS H' q (goDown ks.length w 20 ks p [p] 0) → Q (.ref q) H'
theorem ok_down (T : Tx K mg A) (TB : LamX.TabB base mg A.c_least_child A.P_least_child) : FnOk P w K mg base CX0 7 A.f_sift_down A.d_sift_down ["row", "place", "arms"] (spDown A) := by
  obtain ⟨mo, ko⟩ := kb_of T
  refine T.F_sift_down.ok sc_sift_down (fun vs H Q E h => ?_) (fun cdv B outer s H vs Q E hr h => ?_)
  · obtain ⟨r, p, w, ks, rfl, _⟩ := h
    rfl
  · obtain ⟨r, p, w, ks, rfl, hw, hrow, hp, hT, q⟩ := h
    have nd := sc_sift_down.nd
    refine ⟨_, PSs.nox (pss_cons (ps_set (i := 3) nd rfl (Or.inl rfl) (pe_cmethK (pe_glob (v := .ref A.C) (by rfl) T.mC (relR _)) T.cr T.cof (ok_of T) hr ko pass0 (pa_cons (pv 0) pa_nil) (pk_cons (pv 2) pk_nil)))
      (pss_cons (ps_set (i := 4) nd rfl (Or.inl rfl) (pe_gi T.D_t___getitem__ (ok_gi T) (hr.mono (by decide)) (b_gi T) pass0 (pv 3) (pv 1)))
      (pss_cons (ps_set (i := 5) nd rfl (Or.inl rfl) (pe_callTy call_list_of (by rfl) T.g_list (by decide +kernel) (pa_cons (pv 0) pa_nil)))
      (pss_cons (ps_set (i := 6) nd rfl (Or.inl rfl) (pe_lst (pa_cons (pv 1) pa_nil)))
      (pss_cons (ps_set (i := 7) nd rfl (Or.inl rfl) pe_int)
      (C8.pss_cut (ps_while PassesOwn.never (pt_truth (pv 4) (fun _ => rfl)) (pss_cons (ps_set (i := 8) nd rfl (Or.inl rfl) (pe_ix ix_list (pv 6) (pe_un un_neg pe_int) (fun _ _ => rfl)))
      (pss_cons (ps_aug (i := 7) nd rfl (Or.inl rfl) (pe_callB call_len_seq (by rfl) T.g_len PySem.boot_len (pa_cons (pv 4) pa_nil)) ip_add)
      (pss_cons (ps_set (i := 9) nd rfl (Or.inl rfl) (pe_call (ok_lc T TB) (hr.mono (by decide)) (by rfl) T.m_least_child T.F_least_child.kp (b_lc T) .nil pass0 (pa_cons (pv 5) (pa_cons (pv 4) pa_nil))))
      (pss_cons (ps_if (pt_cmpR op_le (pe_ix ix_list (pv 5) (pv 8) (fun _ _ => rfl)) (pe_ix ix_list (pv 5) (pv 9) (fun _ _ => rfl)) (nomark _)) (pss_one ps_break) pss_nil)
      (pss_cons (ps_asg (pe_tup (pa_cons (pe_ix ix_list (pv 5) (pv 9) (fun _ _ => rfl)) (pa_cons (pe_ix ix_list (pv 5) (pv 8) (fun _ _ => rfl)) pa_nil))) (pg_tup rfl (pgs_cons (pg_sub (pv 5) (pv 8) set_list) (pgs_cons (pg_sub (pv 5) (pv 9) set_list) pgs_nil))))
      (pss_cons (ps_expr (pe_bm PySem.F.plainAttrs_list PySem.F.slot_list_append PySem.F.type_list_append mt_append (pv 6) (pa_cons (pv 9) pa_nil)))
      (pss_one (ps_set (i := 4) nd rfl (Or.inl rfl) (pe_gi T.D_t___getitem__ (ok_gi T) (hr.mono (by decide)) (b_gi T) pass0 (pv 3) (pv 9)))))))))))
      (pss_one (ps_ret (pe_make T.mkCS (ok_zi T) (hr.mono (by decide)) (by rfl) T.mCS (b_zi T) .nil pass0 (pa_cons (pv 5) (pa_cons (pv 6) (pa_cons (pv 7) pa_nil)))))))))))), ?_⟩
    refine ⟨rfl, _, rfl, _, rfl, rfl, rfl, r, w, ks, rfl, hw, hrow.1, hrow.2.1, hrow.2.2, fun H1 tr s1 p0 t1 => ?_⟩
    obtain ⟨dx, l, h1, h2⟩ := t1.ob
    have hk12 := hrow.2.1
    refine ⟨_, rfl, _, rfl, tr, dx, _, rfl, h1, tr, ks.length, w, p, rfl, t1, hp, fun H2 ch s2 hch => ?_⟩
    rw [kids_eq, kids_same ks.length (by omega) w (by omega) p hp hw.1] at hch
    have s12 : Same H H2 := s1.trans s2
    refine ⟨_, rfl, r, _, rfl, (hrow.1.same s12).len, fun D nD => ?_⟩
    refine ⟨_, rfl, by show 1 ≤ sizeLine; decide, fun W nW => ?_⟩
    have nDW : D ≠ W := ne_of_none (upd_same (H := H2) (a := D)) nW
    have s24 : Same H2 (upd (upd H2 D (.lst (ks.map V.int))) W (.lst [V.int (p : Nat)])) := (Same.up nD).trans (Same.up nW)
    have two0 : TwoE (TT A) H2 D W (ks.map V.int) (vi ([] ++ [p])) (upd (upd H2 D (.lst (ks.map V.int))) W (.lst [V.int (p : Nat)])) :=
      ⟨extN_of s24, (hT.ext s12).ext s24, by rw [upd_ne nDW]; exact upd_same, upd_same, nD, (Same.up nD).free nW, nDW⟩
    have hch4 := s24 _ _ hch
    generalize upd (upd H2 D (.lst (ks.map V.int))) W (.lst [V.int (p : Nat)]) = H4 at two0 hch4
    have t2 := t1.same s2
    generalize en : ks.length = n at *
    refine ⟨fun σ' H' => ∃ (x4 x8 x9 : Option V), σ' = [some (.ref r), some (.int p), some (.int w), some (.ref tr), x4, some (.ref D), some (.ref W), some (.int ((goDown n w 20 ks p [p] 0).2.2 : Nat)), x8, x9] ∧ TwoE (TT A) H2 D W ((goDown n w 20 ks p [p] 0).1.map V.int) (vi (goDown n w 20 ks p [p] 0).2.1) H', ?_, ?_⟩
    · refine while_by (fun σ' H' => ∃ (f : Nat) (ks' : List Int) (cur : Nat) (way : List Nat) (lk : Nat) (x8 x9 : Option V) (ch : Addr), σ' = [some (.ref r), some (.int p), some (.int w), some (.ref tr), some (.ref ch), some (.ref D), some (.ref W), some (.int lk), x8, x9] ∧
        TwoE (TT A) H2 D W (ks'.map V.int) (vi (way ++ [cur])) H' ∧ H' ch = some (.tup (vi (kidL n w cur))) ∧ cur < n ∧ ks'.length = n ∧ way.length + f = 20 ∧ n - cur < f ∧ goDown n w 20 ks p [p] 0 = goDown n w f ks' cur (way ++ [cur]) lk) muW ?_ ?_ ?_
      · exact ⟨20, ks, p, [], 0, none, none, ch, rfl, two0, hch4, hp, en, rfl, by omega, rfl⟩
      · rintro σ' H' ⟨f, ks', cur, way, lk, x8, x9, ch', rfl, two, hch', hcur, hkl, hwf, hf, eg⟩
        refine ⟨_, rfl, !(vi (kidL n w cur)).isEmpty, .inr (.inl ⟨_, SqT.of hch', rfl⟩), ?_⟩
        obtain ⟨f, rfl⟩ : ∃ f', f = f' + 1 := ⟨f - 1, by omega⟩
        have hlast : atI (vi (way ++ [cur])) (-1) = some (V.int ((cur : Nat) : Int)) := by
          rw [vi_app]
          exact last_at
        have hmu0 : muW [some (.ref r), some (.int p), some (.int w), some (.ref tr), some (.ref ch'), some (.ref D), some (.ref W), some (.int lk), x8, x9] H' = 40 - (way.length + 1) := by
          rw [muW_at rfl two.w, vi_len, List.length_append]
          rfl
        by_cases hk0 : kidL n w cur = []
        · rw [hk0]
          refine iteF ?_
          rw [goDown_leaf hk0] at eg
          rw [eg]
          exact ⟨_, _, _, rfl, two⟩
        · have e0 : (!(vi (kidL n w cur)).isEmpty) = true := by
            cases e : kidL n w cur with
            | nil => exact absurd e hk0
            | cons a b => rfl
          rw [e0]
          refine iteT ?_
          have hmem := least_mem (ks := ks') hk0
          have hk4 := kid_len n (by omega) w (by omega) cur hcur hw.1
          obtain ⟨hb1, hb2⟩ := kid_in hw.1 hmem
          refine ⟨_, rfl, _, rfl, W, _, _, _, rfl, rfl, SqL.of two.w, hlast, ?_⟩
          refine ⟨_, rfl, _, rfl, ch', _, rfl, .inr (SqT.of hch'), _, _, rfl, rfl, ?_⟩
          refine ⟨_, rfl, _, rfl, D, ch', ks', wz (kidL n w cur), rfl, SqL.of two.d, by rw [← vi_wz]; exact SqT.of hch', ?_, ?_, two.t, fun m H5 e5 t5 hm => ?_⟩
          · unfold wz
            rw [List.length_map]
            exact List.length_pos_iff.mpr hk0
          · intro z hz
            unfold wz at hz
            obtain ⟨j, hj, rfl⟩ := List.mem_map.mp hz
            have := kid_in hw.1 hj
            omega
          have em := least_wz hm
          subst em
          generalize ebb : leastC ks' (kidL n w cur) = b at *
          have two5 := two.ext e5 t5
          have hch5 := e5 _ _ hch' (fun ps z => nomatch z)
          have hc1 : cur < ks'.length := by omega
          have hc2 : b < ks'.length := by omega
          rw [vi_len]
          refine ⟨_, rfl, _, rfl, D, _, _, _, rfl, rfl, SqL.of two5.d, key_at hc1, _, rfl, _, rfl, D, _, _, _, rfl, rfl, SqL.of two5.d, key_at hc2, _, _, rfl, rfl, _, rfl, ?_⟩
          by_cases hlt : keyAt ks' b < keyAt ks' cur
          · rw [decide_eq_false (show ¬ keyAt ks' cur ≤ keyAt ks' b by omega)]
            refine iteF ?_
            rw [goDown_go hk0 ebb hlt] at eg
            refine ⟨_, rfl, _, rfl, D, _, _, _, rfl, rfl, SqL.of two5.d, key_at hc2, _, rfl, _, rfl, D, _, _, _, rfl, rfl, SqL.of two5.d, key_at hc1, by show 2 ≤ sizeLine; decide, fun t ht => ?_⟩
            have two2 := two5.same (Same.up (o := .tup [V.int (keyAt ks' b), V.int (keyAt ks' cur)]) ht)
            have et : upd H5 t (.tup [V.int (keyAt ks' b), V.int (keyAt ks' cur)]) t = some (.tup [V.int (keyAt ks' b), V.int (keyAt ks' cur)]) := upd_same
            generalize upd H5 t (.tup [V.int (keyAt ks' b), V.int (keyAt ks' cur)]) = G at two2 et
            refine ⟨t, _, rfl, SqT.of et, rfl, _, _, rfl, _, rfl, _, rfl, D, _, _, cur, rfl, rfl, two2.d, ixN_nat (by rw [List.length_map]; exact hc1), ?_⟩
            rw [set_int]
            have two3 : TwoE (TT A) H2 D W ((ks'.set cur (keyAt ks' b)).map V.int) (vi (way ++ [cur])) (upd G D (.lst ((ks'.set cur (keyAt ks' b)).map V.int))) := two2.setD
            generalize upd G D (.lst ((ks'.set cur (keyAt ks' b)).map V.int)) = G2 at two3
            refine ⟨_, _, rfl, _, rfl, _, rfl, D, _, _, b, rfl, rfl, two3.d, ixN_nat (by rw [List.length_map, List.length_set]; exact hc2), ?_⟩
            rw [set_int, show (ks'.set cur (keyAt ks' b)).set b (keyAt ks' cur) = swp ks' cur b from rfl]
            have two4 : TwoE (TT A) H2 D W ((swp ks' cur b).map V.int) (vi (way ++ [cur])) (upd G2 D (.lst ((swp ks' cur b).map V.int))) := two3.setD
            generalize upd G2 D (.lst ((swp ks' cur b).map V.int)) = G3 at two4
            refine ⟨rfl, _, rfl, .inl ⟨rfl, _, SqL.of two4.w⟩, _, rfl, W, _, _, rfl, rfl, two4.w, small1000 (by rw [vi_len, List.length_append, List.length_singleton]; omega), ?_⟩
            have em : vi (way ++ [cur]) ++ [V.int (b : Nat)] = vi ((way ++ [cur]) ++ [b]) := by rw [vi_app (way ++ [cur])]; rfl
            rw [em]
            have two6 : TwoE (TT A) H2 D W ((swp ks' cur b).map V.int) (vi ((way ++ [cur]) ++ [b])) (upd G3 W (.lst (vi ((way ++ [cur]) ++ [b])))) := two4.setW
            generalize upd G3 W (.lst (vi ((way ++ [cur]) ++ [b]))) = G4 at two6
            have t6 := t2.ext two6.e
            obtain ⟨dx6, l6, h16, h26⟩ := t6.ob
            refine ⟨_, rfl, _, rfl, tr, dx6, _, rfl, h16, tr, n, w, b, rfl, t6, hb2, fun H7 ch7 s7 hch7 => ?_⟩
            rw [kids_eq, kids_same n (by omega) w (by omega) b hb2 hw.1] at hch7
            have two7 := two6.same s7
            refine ⟨⟨f, swp ks' cur b, b, way ++ [cur], _, _, _, ch7, rfl, two7, hch7, hb2, by rw [swp_len]; exact hkl, by rw [List.length_append, List.length_singleton]; omega, by omega, eg⟩, ?_⟩
            rw [hmu0]
            show muW [some (.ref r), some (.int p), some (.int w), some (.ref tr), some (.ref ch7), some (.ref D), some (.ref W), _, _, _] H7 < _
            rw [muW_at rfl two7.w, vi_len, List.length_append, List.length_append, List.length_singleton, List.length_singleton]
            omega
          · rw [decide_eq_true (show keyAt ks' cur ≤ keyAt ks' b by omega)]
            refine iteT ?_
            rw [goDown_stay hk0 (by rw [ebb]; exact hlt)] at eg
            rw [eg]
            exact ⟨_, _, _, rfl, two5⟩
      · rintro σ' H1 Q1 Q2 mono ⟨v, hv, k, tv, z⟩
        exact ⟨v, hv, k, tv, mono _ _ z⟩
    · rintro σ' H' ⟨x4, x8, x9, rfl, two⟩
      refine ⟨_, rfl, _, rfl, _, rfl, fun x dx2 nx ndx nex => ?_⟩
      have hD := (Same.up (o := .own x) ndx) _ _ two.d
      have hW := (Same.up (o := .own x) ndx) _ _ two.w
      have nx2 : upd H' dx2 (.own x) x = none := by rw [upd_ne nex.symm]; exact nx
      refine ⟨x, dx2, D, W, _, (goDown n w 20 ks p [p] 0).1, wz (goDown n w 20 ks p [p] 0).2.1, rfl, upd_same, .inl ((Same.up nx2) _ _ hD), .inl (by rw [← vi_wz]; exact (Same.up nx2) _ _ hW), fun H6 k6 st => ⟨rfl, q H6 x ?_ ?_ st⟩⟩
      · exact (extN_of s12).trans (two.e.trans (extN_of (new_same nx ndx k6)))
      · exact two.t.ext (new_same nx ndx k6)
end
end Tw

set_option Elab.async false
set_option linter.all false
set_option maxRecDepth 100000
set_option maxHeartbeats 2000000
namespace Tw
open PySem PySem.Spec PyProof.Rows L2
section
variable {P : Program} {w : World} {K : PySem.W.Frag} {mg : Str → Option Value} {base : Heap} {A : Ad}
open LamX (ExtN Tabs TabS)
theorem kb_down (T : Tx K mg A) : ∃ mv : List Value, KBn K A.d_sift_down ["row", "place", "arms"] 2 ["arms"] (fun us ws => us ++ (mv ++ ws)) (fun vs zs => vs ++ zs) := by
  obtain ⟨mv, h⟩ := T.F_sift_down.kbinds0 (ps := ["row", "place", "arms"]) 2 ["arms"] [] (fun us mv ws => us ++ (mv ++ ws)) (by simp) (by simp) (fun r1 r2 r3 => r1.append (r2.append r3))
    (fun D doc pm an cdv ct us mv ws h1 h2 h3 => by
      match us, mv, ws, h1, h2, h3 with
      | [a, b], [], [c], _, _, _ => rfl)
  exact ⟨mv, h⟩
theorem new_up {C x dx : Addr} {H : Hp} (nx : H x = none) (ndx : H dx = none) (nex : dx ≠ x) : Same H (upd (upd H dx (.own x)) x (.ins C dx [])) :=
  (Same.up ndx).trans (Same.up (by rw [upd_ne nex.symm]; exact nx))
theorem down_way (n w : Nat) : ∀ f ks p way lk, way ≠ [] → (goDown n w f ks p way lk).2.1 ≠ []
  | 0, ks, p, way, lk, h => h
  | f + 1, ks, p, way, lk, h => by
    unfold goDown
    split
    · exact h
    · split
      · exact down_way n w f _ _ _ _ (by simp)
      · exact h
theorem down_ways (n w : Nat) : ∀ f ks p way lk, (goDown n w f ks p way lk).2.1.length ≤ way.length + f
  | 0, ks, p, way, lk => Nat.le_refl _
  | f + 1, ks, p, way, lk => by
    unfold goDown
    split
    · exact Nat.le_add_right _ _
    · split
      · have := down_ways n w f (swp ks p (leastC ks (kidL n w p))) (leastC ks (kidL n w p)) (way ++ [leastC ks (kidL n w p)]) (lk + (kidL n w p).length)
        rw [List.length_append, List.length_singleton] at this
        omega
      · exact Nat.le_add_right _ _
theorem bld_stops (n w : Nat) (ks : List Int) : ∀ i, (bld n w ks i).2.1.length ≤ i
  | 0 => Nat.le_refl _
  | i + 1 => by
    have := bld_stops n w ks i
    unfold bld bstep
    split
    · omega
    · show ((bld n w ks i).2.1 ++ [_]).length ≤ _
      rw [List.length_append, List.length_singleton]
      omega
/-- a pair of ints at an address -/
def PrAt (H : Hp) (v : V) (p : Int × Int) : Prop := ∃ t, v = .ref t ∧ H t = some (.tup [.int p.1, .int p.2])
abbrev PrsAt (H : Hp) : List V → List (Int × Int) → Prop := Paired (PrAt H)
theorem PrsAt.ext {H H' : Hp} {xs : List V} {ps : List (Int × Int)} (h : PrsAt H xs ps) (e : ExtN H H') : PrsAt H' xs ps := L2.Paired.mapP h fun _ _ ⟨t, q, z⟩ => ⟨t, q, e _ _ z fun ps z => nomatch z⟩
theorem PrsAt.same {H H' : Hp} {xs : List V} {ps : List (Int × Int)} (h : PrsAt H xs ps) (s : Same H H') : PrsAt H' xs ps := h.ext (extN_of s)
theorem PrsAt.push {H : Hp} {x : V} {p : Int × Int} (hp : PrAt H x p) : ∀ {xs : List V} {ps : List (Int × Int)}, PrsAt H xs ps → PrsAt H (xs ++ [x]) (ps ++ [p])
  | _, _, .nil => .cons hp .nil
  | _, _, .cons a b => .cons a (PrsAt.push hp b)
theorem PrsAt.put {H : Hp} {D : Addr} {o : HO} {xs zs : List V} {ps : List (Int × Int)} (hD : H D = some (.lst zs)) : PrsAt H xs ps → PrsAt (upd H D o) xs ps := fun h =>
  L2.Paired.mapP h fun _ _ ⟨t, e, z⟩ => ⟨t, e, by rw [upd_ne (ne_of z hD (by intro q; cases q))]; exact z⟩
def uf (t1 t2 ch lk : Nat) : List (Str × V) := putF "looks" (.int lk) (putF "changes" (.int ch) (putF "stops" (.ref t2) (putF "row" (.ref t1) [])))
/-- a Built stands at p -/
def BuiltAt (C : Addr) (H : Hp) (p : Addr) (ks : List Int) (ps : List (Int × Int)) (ch lk : Nat) : Prop := ∃ (dx t1 t2 : Addr) (xs : List V), H p = some (.ins C dx (uf t1 t2 ch lk)) ∧ H t1 = some (.tup (ks.map V.int)) ∧ H t2 = some (.tup xs) ∧ PrsAt H xs ps
theorem BuiltAt.ext {C : Addr} {H H' : Hp} {p : Addr} {ks : List Int} {ps : List (Int × Int)} {ch lk : Nat} (h : BuiltAt C H p ks ps ch lk) (e : ExtN H H') : BuiltAt C H' p ks ps ch lk := by
  obtain ⟨dx, t1, t2, xs, a, b, c, d⟩ := h
  exact ⟨dx, t1, t2, xs, e _ _ a (fun ps z => nomatch z), e _ _ b (fun ps z => nomatch z), e _ _ c (fun ps z => nomatch z), d.ext e⟩
theorem BuiltAt.same {C : Addr} {H H' : Hp} {p : Addr} {ks : List Int} {ps : List (Int × Int)} {ch lk : Nat} (h : BuiltAt C H p ks ps ch lk) (s : Same H H') : BuiltAt C H' p ks ps ch lk := h.ext (extN_of s)
/-- for x in e, e a list or a tuple -/
def iSeq (K : PySem.W.Frag) (tl : TE) : TI := fun σ H R => tl σ H fun x H1 => ∃ a xs, x = .ref a ∧ ((SqL K H1 a xs ∧ R (Itl K a) H1) ∨ (SqT K H1 a xs ∧ R (Itt K a) H1))
theorem pi_seq {X : Cx} {tg l : Expr} {tl : TE} (hl : PE X l tl) : PI X tg l (iSeq X.K tl) := by
  refine ⟨fun pins s σ H R I h => thn (hl.run pins s σ H _ I h) fun v s1 ⟨x, H1, I1, r1, a, xs, e, q⟩ => ?_⟩
  subst e
  obtain rfl : v = Value.ref a := r1
  have fp : ∀ b ∈ [s1.heap.objs.size], FpOk X pins H1 b := fun b hb => by
    rw [List.mem_singleton.mp hb]
    exact I1.fpOk (Nat.le_refl _) I1.fresh
  rcases q with ⟨hq, q⟩ | ⟨hq, q⟩
  · obtain ⟨its, rv, pl, hz⟩ := I1.list hq
    exact wpAny_pyIter_list pl.isList ⟨s1.heap.objs.size, _, _, _, H1, rfl, I1.kept (t' := s1.toks) fun _ _ e => Heap.get?_push_of_some _ e, turn_list a _, ⟨_, Heap.get?_push_size _ rfl, rfl, rfl⟩, fp, q⟩
  · obtain ⟨its, rv, pl, hz⟩ := I1.tuple hq
    exact wpAny_pyIter_tuple (show s1.heap.IsTuple a its.toArray from pl) ⟨s1.heap.objs.size, _, _, _, H1, rfl, I1.kept (t' := s1.toks) fun _ _ e => Heap.get?_push_of_some _ e, turn_tuple a _, ⟨_, Heap.get?_push_size _ rfl, rfl, rfl⟩, fp, q⟩
def rTupOf (K : PySem.W.Frag) : List V → Hp → VK → Prop := fun xs H Q => ∃ p ys, xs = [V.ref p] ∧ ((SqL K H p ys ∧ ∀ l, H l = none → Q (.ref l) (upd H l (.tup ys))) ∨ SqT K H p ys ∧ Q (.ref p) H)
theorem call_tupK {X : Cx} : CallR X (.type "tuple") (rTupOf X.K) := call_tuple_of
theorem q3 : ¬ (("stops" : Str) = "changes") := by decide +kernel
theorem prs_get {H : Hp} : ∀ {xs : List V} {ps : List (Int × Int)} {i : Nat} {x : V}, PrsAt H xs ps → xs[i]? = some x → ∃ p, ps[i]? = some p ∧ PrAt H x p
  | _, _, 0, x, .cons a b, h => ⟨_, rfl, by cases h; exact a⟩
  | _, _, i + 1, x, .cons a b, h => prs_get (i := i) b h
def SqV (H : Hp) (a : Addr) (xs : List V) : Prop := H a = some (.lst xs) ∨ H a = some (.tup xs)
def spBi (C : Addr) : Sp := fun vs H Q _ => ∃ (p dx a b ch lk : Nat) (ks : List Int) (xs : List V) (ps : List (Int × Int)), vs = [.ref p, .ref a, .ref b, .int ch, .int lk] ∧ H p = some (.ins C dx []) ∧ Sq H a (ks.map V.int) ∧ SqV H b xs ∧ PrsAt H xs ps ∧ ps.length ≤ 900 ∧
  ∀ (H' : Hp), (∀ b o, H b = some o → b ≠ p → H' b = some o) → BuiltAt C H' p ks ps ch lk → Q .non H'
theorem ok_bi (T : Tx K mg A) : FnOk P w K mg base CX0 2 A.f_u___init__ A.d_u___init__ ["self", "row", "stops", "changes", "looks"] (spBi A.CB) := by
  refine T.F_u___init__.ok sc_u___init__ (fun vs H Q E h => ?_) (fun cdv B outer s H vs Q E hr h => ?_)
  · obtain ⟨p, dx, a, b, ch, lk, ks, xs, ps, rfl, _⟩ := h
    rfl
  · obtain ⟨p, dx, a, b, ch, lk, ks, xs, ps, rfl, hp, ha, hb, hps, hpl, q⟩ := h
    have nd := sc_u___init__.nd
    refine ⟨_, (C8.pss_cut (ps_fld (pv 0) (pe_callTy call_tuple_of (by rfl) T.g_tuple (by decide +kernel) (pa_cons (pv 1) pa_nil)) rfl)
      (C8.pss_cut (ps_fld (pv 0) (pe_callTy call_tuple_of (by rfl) T.g_tuple (by decide +kernel) (pa_cons (pe_lc (own := [("stop", 5)]) (g := gName 5) (tt := tYes) rfl nd (pi_seq (pv 2)) (blkOk_by (own := [("stop", 5)]) (N := ["self", "row", "stops", "changes", "looks", "stop"]) (sc := defScope s_u___init__) (by decide +kernel)) (fun _ _ _ _ _ => pg_name (i := 5) nd rfl (Or.inl rfl)) (fun _ _ _ _ _ => pts_nil) (fun _ _ _ _ _ => (pe_callTy (r := rTupOf K) call_tupK (by rfl) T.g_tuple (by decide +kernel) (pa_cons (pv 5) pa_nil)))) pa_nil)) rfl)
      (pss_cons (ps_fld (pv 0) (pv 3) rfl)
      (pss_one (ps_fld (pv 0) (pv 4) rfl))))), ?_⟩
    have npa : p ≠ a := fun z => by rcases ha with h | h <;> rw [← z, hp] at h <;> cases h
    have npb : p ≠ b := fun z => by rcases hb with h | h <;> rw [← z, hp] at h <;> cases h
    generalize eS : (L2.start ["self", "row", "stops", "changes", "looks", "stop"] [V.ref p, .ref a, .ref b, .int ch, .int lk] : L2.St) = S0
    refine ⟨fun σ H' => ∃ t1 : Addr, σ = S0 ∧ (∀ c o, H c = some o → c ≠ p → H' c = some o) ∧ H' p = some (.ins A.CB dx (putF "row" (.ref t1) [])) ∧ H' t1 = some (.tup (ks.map V.int)) ∧ t1 ≠ p, ?_, ?_⟩
    · subst eS
      have go : ∀ (H1 : Hp) (t1 : Addr), Same H H1 → H1 t1 = some (.tup (ks.map V.int)) → ∃ t2 : Addr, (L2.start ["self", "row", "stops", "changes", "looks", "stop"] [V.ref p, .ref a, .ref b, .int ch, .int lk] : L2.St) = L2.start ["self", "row", "stops", "changes", "looks", "stop"] [V.ref p, .ref a, .ref b, .int ch, .int lk] ∧
          (∀ c o, H c = some o → c ≠ p → upd H1 p (.ins A.CB dx (putF "row" (.ref t1) [])) c = some o) ∧ upd H1 p (.ins A.CB dx (putF "row" (.ref t1) [])) p = some (.ins A.CB dx (putF "row" (.ref t2) [])) ∧ upd H1 p (.ins A.CB dx (putF "row" (.ref t1) [])) t2 = some (.tup (ks.map V.int)) ∧ t2 ≠ p := fun H1 t1 s1 e1 => by
        have n1 : t1 ≠ p := fun z => by rw [z, s1 _ _ hp] at e1; cases e1
        exact ⟨t1, rfl, fun c o e n => by rw [upd_ne n]; exact s1 _ _ e, upd_same, by rw [upd_ne n1]; exact e1, n1⟩
      rcases ha with h | h
      · exact ⟨_, rfl, a, _, rfl, .inl ⟨SqL.of h, fun t1 ht1 => ⟨_, rfl, p, A.CB, dx, _, rfl, (Same.up ht1) _ _ hp, T.cTB, T.bRow, (by show 0 < 1000; decide), go _ t1 (Same.up ht1) upd_same⟩⟩⟩
      · exact ⟨_, rfl, a, _, rfl, .inr ⟨SqT.of h, _, rfl, p, A.CB, dx, _, rfl, hp, T.cTB, T.bRow, (by show 0 < 1000; decide), go H a (Same.refl _) h⟩⟩
    rintro σ H1 ⟨t1, eq, k1, hp1, e1, n1⟩
    subst σ
    have hb1 : SqV H1 b xs := hb.elim (fun h => .inl (k1 _ _ h npb.symm)) fun h => .inr (k1 _ _ h npb.symm)
    have hps1 : PrsAt H1 xs ps := L2.Paired.mapP hps fun _ _ ⟨t, e, z⟩ => ⟨t, e, k1 _ _ z (fun q => by rw [q, hp] at z; cases z)⟩
    refine ⟨fun σ H' => ∃ t2 : Addr, σ = S0 ∧ (∀ c o, H1 c = some o → c ≠ p → H' c = some o) ∧ H' p = some (.ins A.CB dx (putF "stops" (.ref t2) (putF "row" (.ref t1) []))) ∧ H' t2 = some (.tup xs) ∧ t2 ≠ p, ?_, ?_⟩
    · subst eS
      have lenX : xs.length = ps.length := Paired.length hps
      have fin : ∀ H2 : Hp, Same H1 H2 → ∀ (D : Addr), H2 D = some (.lst xs) → ∀ t2, H2 t2 = Option.none → ∃ t3 : Addr, (L2.start ["self", "row", "stops", "changes", "looks", "stop"] [V.ref p, .ref a, .ref b, .int ch, .int lk] : L2.St) = L2.start ["self", "row", "stops", "changes", "looks", "stop"] [V.ref p, .ref a, .ref b, .int ch, .int lk] ∧
          (∀ c o, H1 c = some o → c ≠ p → upd (upd H2 t2 (.tup xs)) p (.ins A.CB dx (putF "stops" (.ref t2) (putF "row" (.ref t1) []))) c = some o) ∧ upd (upd H2 t2 (.tup xs)) p (.ins A.CB dx (putF "stops" (.ref t2) (putF "row" (.ref t1) []))) p = some (.ins A.CB dx (putF "stops" (.ref t3) (putF "row" (.ref t1) []))) ∧ upd (upd H2 t2 (.tup xs)) p (.ins A.CB dx (putF "stops" (.ref t2) (putF "row" (.ref t1) []))) t3 = some (.tup xs) ∧ t3 ≠ p := fun H2 s2 D hD t2 h2 => by
        have n2 : t2 ≠ p := fun z => by rw [z, s2 _ _ hp1] at h2; cases h2
        exact ⟨t2, rfl, fun c o e n => by rw [upd_ne n]; exact (Same.up h2) _ _ (s2 _ _ e), upd_same, by rw [upd_ne n2]; exact upd_same, n2⟩
      rcases hb1 with h | h
      · refine ⟨_, rfl, b, _, rfl, .inl ⟨SqL.of h, fun D hD => ?_⟩⟩
        refine lc_list (K := K) (a := b) (xs := xs) (fun i H' => Acc H1 D (xs.take i) H') (Acc.start hD) (fun i H' _ ac => SqL.of (ac.s _ _ h)) ?_ ?_
        · rintro i x H' hx ac
          obtain ⟨pp, _, t, rfl, ht⟩ := prs_get hps1 hx
          have hi := (List.getElem?_eq_some_iff.mp hx).1
          refine ⟨rfl, iteT (B := Acc H1 D (xs.take (i + 1)) H') ⟨_, rfl, t, _, rfl, .inr ⟨SqT.of (ac.s _ _ ht), _, ac.a, small1000 (by rw [List.length_take]; omega), ?_⟩⟩⟩
          have e : xs.take i ++ [V.ref t] = xs.take (i + 1) := by rw [List.take_succ, hx]; rfl
          rw [e]
          exact ac.push
        · intro H' ac
          have ad := ac.a
          rw [List.take_length] at ad
          exact ⟨_, _, rfl, .inl ⟨SqL.of ad, fun t2 h2 => ⟨_, rfl, p, A.CB, dx, _, rfl, (Same.up h2) _ _ (ac.s _ _ hp1), T.cTB, T.bStops, (by show 1 < 1000; decide), fin H' ac.s D ad t2 h2⟩⟩⟩
      · refine ⟨_, rfl, b, _, rfl, .inr ⟨SqT.of h, fun D hD => ?_⟩⟩
        refine lc_it (walk_tup (xs := xs)) (fun i H' => Acc H1 D (xs.take i) H') (Acc.start hD) (fun i H' _ ac => SqT.of (ac.s _ _ h)) ?_ ?_
        · rintro i x H' H2 hi ac ⟨rfl, hx⟩
          obtain ⟨pp, _, t, rfl, ht⟩ := prs_get hps1 hx
          refine ⟨rfl, iteT (B := Acc H1 D (xs.take (i + 1)) H2) ⟨_, rfl, t, _, rfl, .inr ⟨SqT.of (ac.s _ _ ht), _, ac.a, small1000 (by rw [List.length_take]; omega), ?_⟩⟩⟩
          have e : xs.take i ++ [V.ref t] = xs.take (i + 1) := by rw [List.take_succ, hx]; rfl
          rw [e]
          exact ac.push
        · intro H' ac
          have ad := ac.a
          rw [List.take_length] at ad
          exact ⟨_, _, rfl, .inl ⟨SqL.of ad, fun t2 h2 => ⟨_, rfl, p, A.CB, dx, _, rfl, (Same.up h2) _ _ (ac.s _ _ hp1), T.cTB, T.bStops, (by show 1 < 1000; decide), fin H' ac.s D ad t2 h2⟩⟩⟩
    rintro σ H2 ⟨t2, eq, k2, hp2, e2, n2⟩
    subst σ
    subst eS
    refine ⟨_, rfl, _, rfl, p, A.CB, dx, _, rfl, hp2, T.cTB, T.bChanges, (by simp only [putF, q1, if_false]; show 2 < 1000; decide), ?_⟩
    refine ⟨_, rfl, _, rfl, p, A.CB, dx, _, rfl, upd_same, T.cTB, T.bLooks, (by simp only [putF, q1, q2, q3, if_false]; show 3 < 1000; decide), ?_⟩
    refine q _ (fun c o e hc => ?_) ⟨dx, t1, t2, xs, upd_same, ?_, ?_, ?_⟩
    · rw [upd_ne hc, upd_ne hc]
      exact k2 _ _ (k1 _ _ e hc) hc
    · rw [upd_ne n1, upd_ne n1]
      exact k2 _ _ e1 n1
    · rw [upd_ne n2, upd_ne n2]
      exact e2
    · exact L2.Paired.mapP hps1 fun _ _ ⟨t, e, z⟩ => ⟨t, e, by
        have nt : t ≠ p := fun y => by rw [y, hp1] at z; cases z
        rw [upd_ne nt, upd_ne nt]
        exact k2 _ _ z nt⟩
theorem b_bi (T : Tx K mg A) : L2.Binds K A.d_u___init__ ["self", "row", "stops", "changes", "looks"] [] := T.F_u___init__.binds fun _ _ _ _ _ _ us hl => match us, hl with | [_, _, _, _, _], _ => rfl
theorem last_wz {l : List Nat} (h : l ≠ []) : atI ((wz l).map V.int) (-1) = some (V.int ((lastW l : Nat) : Int)) := by
  obtain ⟨i, y, rfl⟩ : ∃ i y, l = i ++ [y] := ⟨l.dropLast, l.getLast h, (List.dropLast_concat_getLast h).symm⟩
  have e : (wz (i ++ [y])).map V.int = (wz i).map V.int ++ [V.int (y : Nat)] := by unfold wz; rw [List.map_append, List.map_append]; rfl
  have e2 : lastW (i ++ [y]) = y := by unfold lastW; simp
  rw [e, e2]
  exact last_at
theorem pl_at {n i : Nat} {x : V} (h : (pl n)[i]? = some x) : i < n ∧ x = V.int (i : Nat) := by
  unfold pl at h
  rw [List.getElem?_map] at h
  by_cases hi : i < n
  · rw [List.getElem?_range hi] at h
    exact ⟨hi, (Option.some.inj h).symm⟩
  · rw [List.getElem?_eq_none (by rw [List.length_range]; omega)] at h
    cases h
def spBuild (A : Ad) : Sp := fun vs H Q _ => ∃ (r w : Nat) (ks : List Int), vs = [.ref r, .int w] ∧ (1 ≤ w ∧ w ≤ 4) ∧ RowIn H r ks ∧ Tabs (TT A) H ∧
  ∀ (H' : Hp) (q : Addr), ExtN H H' → Tabs (TT A) H' → BuiltAt A.CB H' q (bld ks.length w ks ks.length).1 (bld ks.length w ks ks.length).2.1 (bld ks.length w ks ks.length).2.2.1 (bld ks.length w ks ks.length).2.2.2 → Q (.ref q) H'
theorem ok_build (T : Tx K mg A) (TB : LamX.TabB base mg A.c_least_child A.P_least_child) : FnOk P w K mg base CX0 8 A.f_build A.d_build ["row", "arms"] (spBuild A) := by
  obtain ⟨mo, ko⟩ := kb_of T
  obtain ⟨md, kd⟩ := kb_down T
  refine T.F_build.ok sc_build (fun vs H Q E h => ?_) (fun cdv B outer s H vs Q E hr h => ?_)
  · obtain ⟨r, w, ks, rfl, _⟩ := h
    rfl
  · obtain ⟨r, w, ks, rfl, hw, hrow, hT, q⟩ := h
    have nd := sc_build.nd
    refine ⟨_, PSs.nox (pss_cons (ps_set (i := 2) nd rfl (Or.inl rfl) (pe_cmethK (pe_glob (v := .ref A.C) (by rfl) T.mC (relR _)) T.cr T.cof (ok_of T) (hr.mono (by decide)) ko pass0 (pa_cons (pv 0) pa_nil) (pk_cons (pv 1) pk_nil)))
      (C8.pss_cut (ps_set (i := 3) nd rfl (Or.inl rfl) (pe_callTy call_tuple_of (by rfl) T.g_tuple (by decide +kernel) (pa_cons (pv 0) pa_nil)))
      (pss_cons (ps_set (i := 4) nd rfl (Or.inl rfl) (pe_lst pa_nil))
      (pss_cons (ps_set (i := 5) nd rfl (Or.inl rfl) pe_int)
      (pss_cons (ps_set (i := 6) nd rfl (Or.inl rfl) pe_int)
      (C8.pss_cut (ps_for PassesOwn.never rfl (pi_reversed (by rfl) T.g_reversed (pa_cons (pe_callTy (call_listO T.D_t___iter__ (ok_iter T) (b_iter T) T.D_t___len__ (ok_len T) (b_len T) (hr.mono (by decide))) (by rfl) T.g_list (by decide +kernel) (pa_cons (pv 2) pa_nil)) pa_nil)) (pg_name (i := 7) nd rfl (Or.inl rfl)) (pss_one (ps_if (pt_truth (pe_gi T.D_t___getitem__ (ok_gi T) (hr.mono (by decide)) (b_gi T) pass0 (pv 2) (pv 7)) (fun _ => rfl)) (pss_cons (ps_set (i := 8) nd rfl (Or.inl rfl) (pe_callN (ok_down T TB) (hr.mono (by decide)) (by rfl) T.m_sift_down T.F_sift_down.kp kd pass0 (pa_cons (pv 3) (pa_cons (pv 7) pa_nil)) (pk_cons (pv 1) pk_nil)))
      (pss_cons (ps_set (i := 3) nd rfl (Or.inl rfl) (pe_fld (pv 8) rfl))
      (pss_cons (ps_expr (pe_bm PySem.F.plainAttrs_list PySem.F.slot_list_append PySem.F.type_list_append mt_append (pv 4) (pa_cons (pe_tup (pa_cons (pv 7) (pa_cons (pe_ix (r := rIx K) ix_seq (pe_fld (pv 8) rfl) (pe_un un_neg pe_int) (fun _ _ => rfl)) pa_nil))) pa_nil)))
      (pss_cons (ps_aug (i := 5) nd rfl (Or.inl rfl) (pe_op op_sub (pe_callB call_len_seq (by rfl) T.g_len PySem.boot_len (pa_cons (pe_fld (pv 8) rfl) pa_nil)) pe_int) ip_add)
      (pss_one (ps_aug (i := 6) nd rfl (Or.inl rfl) (pe_fld (pv 8) rfl) ip_add)))))) pss_nil)))
      (pss_one (ps_ret (pe_make T.mkCB (ok_bi T) (hr.mono (by decide)) (by rfl) T.mCB (b_bi T) .nil pass0 (pa_cons (pv 3) (pa_cons (pv 4) (pa_cons (pv 5) (pa_cons (pv 6) pa_nil))))))))))))), ?_⟩
    refine ⟨rfl, _, rfl, _, rfl, rfl, rfl, r, w, ks, rfl, hw, hrow.1, hrow.2.1, hrow.2.2, fun H1 tr s1 p0 t1 => ?_⟩
    have hk12 := hrow.2.1
    have hkb := hrow.2.2
    generalize en : ks.length = n at *
    refine ⟨fun σ' H' => ∃ hp : Addr, σ' = [some (.ref r), some (.int w), some (.ref tr), some (.ref hp), none, none, none, none, none] ∧ Same H1 H' ∧ H' hp = some (.tup (ks.map V.int)), ?_, ?_⟩
    · rcases hrow.1.same s1 with h | h
      · exact ⟨_, rfl, r, _, rfl, .inl ⟨SqL.of h, fun t ht => ⟨t, rfl, Same.up ht, upd_same⟩⟩⟩
      · exact ⟨_, rfl, r, _, rfl, .inr ⟨SqT.of h, r, rfl, Same.refl _, h⟩⟩
    rintro σ' H2 ⟨hp, rfl, s2, e2⟩
    refine ⟨Nat.zero_le _, fun D nD => ?_⟩
    have s3 : Same H2 (upd H2 D (.lst [])) := Same.up nD
    have s13 : Same H (upd H2 D (.lst [])) := s1.trans (s2.trans s3)
    have tt3 := t1.same (s2.trans s3)
    refine ⟨fun σ' H' => ∃ (hp : Addr) (x7 x8 : Option V) (xs : List V), σ' = [some (.ref r), some (.int w), some (.ref tr), some (.ref hp), some (.ref D), some (.int ((bld n w ks n).2.2.1 : Nat)), some (.int ((bld n w ks n).2.2.2 : Nat)), x7, x8] ∧ ExtN H2 H' ∧ Tabs (TT A) H' ∧ H' hp = some (.tup ((bld n w ks n).1.map V.int)) ∧ H' D = some (.lst xs) ∧ PrsAt H' xs (bld n w ks n).2.1, ?_, ?_⟩
    · obtain ⟨dx, l, h1, h2⟩ := tt3.ob
      refine ⟨_, rfl, tr, dx, _, l, pl n, rfl, h1, tf_pl _ _ _, SqT.of h2, by rw [pl_len]; omega, ⟨tr, n, w, rfl, tt3, n, rfl, by omega, rfl⟩, fun c nc => ?_⟩
      have nDc : D ≠ c := ne_of_none (upd_same (H := H2) (a := D)) nc
      have two0 : TwoE (TT A) H2 D c [] (pl n) (upd (upd H2 D (.lst [])) c (.lst (pl n))) :=
        ⟨extN_of (s3.trans (Same.up nc)), ((hT.ext s13).ext (Same.up nc)), (Same.up nc) _ _ upd_same, upd_same, nD, s3.free nc, nDc⟩
      have e24 := (s3.trans (Same.up (o := .lst (pl n)) nc)) _ _ e2
      have tt4 := tt3.same (Same.up (o := .lst (pl n)) nc)
      generalize upd (upd H2 D (.lst [])) c (.lst (pl n)) = H4 at two0 e24 tt4
      refine ⟨c, _, rfl, SqL.of two0.w, RT.for_Itv (fun i σ' H' => ∃ (hp : Addr) (x7 x8 : Option V) (xs : List V), σ' = [some (.ref r), some (.int w), some (.ref tr), some (.ref hp), some (.ref D), some (.int ((bld n w ks i).2.2.1 : Nat)), some (.int ((bld n w ks i).2.2.2 : Nat)), x7, x8] ∧
        TwoE (TT A) H2 D c xs (pl n) H' ∧ TreeAt A.C H' tr n w ∧ H' hp = some (.tup ((bld n w ks i).1.map V.int)) ∧ PrsAt H' xs (bld n w ks i).2.1 ∧ i ≤ n) ?_ ?_ ?_ ?_⟩
      · exact ⟨hp, none, none, [], rfl, two0, tt4, e24, .nil, Nat.zero_le _⟩
      · rintro i σ' H' ⟨_, _, _, _, _, two, _⟩
        exact SqL.of two.w
      · rintro i x σ' H' hi hx ⟨hp, x7, x8, xs, rfl, two, tt, ehp, hps, hi2⟩
        rw [pl_len] at hi hx
        obtain ⟨_, rfl⟩ := pl_at hx
        have hpn : n - 1 - i < n := by omega
        obtain ⟨dx, l, h1, h2⟩ := tt.ob
        refine ⟨_, rfl, _, rfl, tr, dx, _, rfl, h1, tr, n, w, n - 1 - i, rfl, tt, hpn, fun H5 ch s5 hch => ?_⟩
        rw [kids_eq, kids_same n (by omega) w (by omega) (n - 1 - i) hpn hw.1] at hch
        refine ⟨!(vi (kidL n w (n - 1 - i))).isEmpty, .inr (.inl ⟨_, SqT.of hch, rfl⟩), ?_⟩
        have two5 := two.same s5
        have ehp5 := s5 _ _ ehp
        have hps5 := hps.same s5
        have tt5 := tt.same s5
        by_cases h0 : kidL n w (n - 1 - i) = []
        · have eb : bld n w ks (i + 1) = bld n w ks i := by rw [bld, bstep, if_pos h0]
          rw [h0]
          refine iteF ?_
          rw [eb]
          exact ⟨hp, _, _, xs, rfl, two5, tt5, ehp5, hps5, by omega⟩
        · have e0 : (!(vi (kidL n w (n - 1 - i))).isEmpty) = true := by
            cases e : kidL n w (n - 1 - i) with
            | nil => exact absurd e h0
            | cons a b => rfl
          rw [e0]
          have hl := (bld_len n w ks i).trans en
          have hperm := bld_perm hw.1 en i (by omega)
          have eb : bld n w ks (i + 1) = ((goDown n w 20 (bld n w ks i).1 (n - 1 - i) [n - 1 - i] 0).1, (bld n w ks i).2.1 ++ [(((n - 1 - i : Nat) : Int), ((lastW (goDown n w 20 (bld n w ks i).1 (n - 1 - i) [n - 1 - i] 0).2.1 : Nat) : Int))], (bld n w ks i).2.2.1 + ((goDown n w 20 (bld n w ks i).1 (n - 1 - i) [n - 1 - i] 0).2.1.length - 1), (bld n w ks i).2.2.2 + (goDown n w 20 (bld n w ks i).1 (n - 1 - i) [n - 1 - i] 0).2.2) := by rw [bld, bstep, if_neg h0]
          have hst := bld_stops n w ks i
          generalize bld n w ks i = st at *
          generalize er : goDown n w 20 st.1 (n - 1 - i) [n - 1 - i] 0 = res at *
          have hwne : res.2.1 ≠ [] := er ▸ down_way n w 20 st.1 (n - 1 - i) [n - 1 - i] 0 (by simp)
          have hwl : res.2.1.length ≤ 21 := by
            have := down_ways n w 20 st.1 (n - 1 - i) [n - 1 - i] 0
            rw [er, List.length_singleton] at this
            omega
          refine iteT ⟨_, rfl, _, rfl, _, rfl, rfl, rfl, hp, n - 1 - i, w, st.1, rfl, hw, ⟨.inr ehp5, by omega, fun z hz => hkb z (hperm.mem_iff.mp hz)⟩, by omega, two5.t, fun H6 z e6 t6 rz => ?_⟩
          rw [hl, er] at rz
          have two6 := two5.ext e6 t6
          have hps6 := hps5.ext e6
          have tt6 := tt5.ext e6
          obtain ⟨dz, z1, z2, g1, g2, g3⟩ := rz
          refine ⟨_, rfl, z, A.CS, dz, _, _, rfl, g1, T.cTS, T.nRow, zf_row _ _ _, ?_⟩
          refine ⟨_, rfl, .inl ⟨rfl, _, SqL.of two6.d⟩, _, rfl, _, rfl, z, A.CS, dz, _, _, rfl, g1, T.cTS, T.nWay, zf_way _ _ _, _, rfl, .inr (.inl ⟨z2, _, _, _, rfl, rfl, SqT.of g3, last_wz hwne, by show 2 ≤ sizeLine; decide, fun t nt => ?_⟩)⟩
          have s7 : Same H6 (upd H6 t (.tup [V.int ((n - 1 - i : Nat) : Int), V.int ((lastW res.2.1 : Nat) : Int)])) := Same.up nt
          have et : upd H6 t (.tup [V.int ((n - 1 - i : Nat) : Int), V.int ((lastW res.2.1 : Nat) : Int)]) t = some (.tup [V.int ((n - 1 - i : Nat) : Int), V.int ((lastW res.2.1 : Nat) : Int)]) := upd_same
          generalize upd H6 t (.tup [V.int ((n - 1 - i : Nat) : Int), V.int ((lastW res.2.1 : Nat) : Int)]) = H7 at s7 et
          have two7 := two6.same s7
          have hps7 := (hps6.same s7).push (x := .ref t) (p := (((n - 1 - i : Nat) : Int), ((lastW res.2.1 : Nat) : Int))) ⟨t, rfl, et⟩
          have xl : xs.length = st.2.1.length := Paired.length hps
          refine ⟨D, _, _, rfl, rfl, two7.d, small1000 (by omega), ?_⟩
          have two8 : TwoE (TT A) H2 D c (xs ++ [.ref t]) (pl n) (upd H7 D (.lst (xs ++ [.ref t]))) := two7.setD
          have hps8 := PrsAt.put (o := .lst (xs ++ [.ref t])) two7.d hps7
          have sz : ∀ b o, H6 b = some o → (∀ ys, o ≠ .lst ys) → upd H7 D (.lst (xs ++ [.ref t])) b = some o := fun b o e nl => by
            rw [upd_ne (fun y => by rw [y, two6.d] at e; exact nl _ (Option.some.inj e).symm)]
            exact s7 _ _ e
          have tt8 : TreeAt A.C (upd H7 D (.lst (xs ++ [.ref t]))) tr n w := ⟨let ⟨dx, l, a, b⟩ := tt6.ob; ⟨dx, l, sz _ _ a (fun _ y => nomatch y), sz _ _ b (fun _ y => nomatch y)⟩, tt6.hn, tt6.hw⟩
          have g18 := sz _ _ g1 (fun _ y => nomatch y)
          have g28 := sz _ _ g2 (fun _ y => nomatch y)
          have g38 := sz _ _ g3 (fun _ y => nomatch y)
          generalize upd H7 D (.lst (xs ++ [.ref t])) = H8 at *
          refine ⟨_, rfl, _, rfl, z, A.CS, dz, _, _, rfl, g18, T.cTS, T.nWay, zf_way _ _ _, z2, _, rfl, .inr (SqT.of g38), _, _, rfl, rfl, _, _, rfl, rfl, ?_⟩
          refine ⟨_, rfl, _, rfl, z, A.CS, dz, _, _, rfl, g18, T.cTS, T.nLooks, zf_looks _ _ _, _, _, rfl, rfl, ?_⟩
          rw [eb]
          refine ⟨z1, some (V.int ((n - 1 - i : Nat) : Int)), some (.ref z), xs ++ [.ref t], ?_, two8, tt8, g28, hps8, by omega⟩
          have lw : ((wz res.2.1).map V.int).length = res.2.1.length := by unfold wz; rw [List.length_map, List.length_map]
          have hpos := List.length_pos_iff.mpr hwne
          rw [lw]
          show ([some (.ref r), some (.int w), some (.ref tr), some (.ref z1), some (.ref D), some (V.int ((st.2.2.1 : Int) + ((res.2.1.length : Int) - 1))), some (V.int ((st.2.2.2 : Int) + (res.2.2 : Int))), some (V.int ((n - 1 - i : Nat) : Int)), some (.ref z)] : List (Option V)) = _
          rw [show (st.2.2.1 : Int) + ((res.2.1.length : Int) - 1) = ((st.2.2.1 + (res.2.1.length - 1) : Nat) : Int) by omega, show (st.2.2.2 : Int) + (res.2.2 : Int) = ((st.2.2.2 + res.2.2 : Nat) : Int) by omega]
      · rintro σ' H' ⟨hp, x7, x8, xs, rfl, two, tt, ehp, hps, _⟩
        rw [pl_len] at *
        exact ⟨hp, x7, x8, xs, rfl, two.e, two.t, ehp, two.d, hps⟩
    · rintro σ' H' ⟨hp, x7, x8, xs, rfl, e', t', ehp, hD, hps⟩
      have hst := bld_stops n w ks n
      refine ⟨_, rfl, _, rfl, _, rfl, _, rfl, fun x dx2 nx ndx nex => ?_⟩
      have s5 := new_up (C := A.CB) nx ndx nex
      refine ⟨x, dx2, hp, D, _, _, _, xs, _, rfl, upd_same, .inr (s5 _ _ ehp), .inl (s5 _ _ hD), hps.same s5, by omega, fun H6 k6 st => ⟨rfl, q H6 x ?_ ?_ st⟩⟩
      · exact (extN_of (s1.trans s2)).trans (e'.trans (extN_of (new_same nx ndx k6)))
      · exact t'.ext (new_same nx ndx k6)
theorem uf_row (t1 t2 ch lk : Nat) : (uf t1 t2 ch lk).lookup ("row" : Str) = some (.ref t1) := by
  unfold uf
  rw [lookup_putF, if_neg m2, lookup_putF, if_neg q2, lookup_putF, if_neg q1, lookup_putF, if_pos rfl]
theorem q4 : ¬ (("stops" : Str) = "looks") := by decide +kernel
theorem uf_stops (t1 t2 ch lk : Nat) : (uf t1 t2 ch lk).lookup ("stops" : Str) = some (.ref t2) := by
  unfold uf
  rw [lookup_putF, if_neg q4, lookup_putF, if_neg q3, lookup_putF, if_pos rfl]
theorem sq_cut {H : Hp} {r : Addr} {ks : List Int} {lo hi : Option Int} {zs : List Int} {Q : VK} (K : PySem.W.Frag) (h : Sq H r (ks.map V.int)) (c : cutV (ks.map V.int) lo hi = zs.map V.int ∧ ¬ (HT.sIx (ks.map V.int).length 0 lo = 0 ∧ HT.sIx (ks.map V.int).length (ks.map V.int).length hi = (ks.map V.int).length))
    (q : ∀ p G, Same H G → Sq G p (zs.map V.int) → Q (.ref p) G) : rSlL K (.ref r) lo hi H Q ∨ rSlT K (.ref r) lo hi H Q := by
  rcases h with h | h
  · exact .inl ⟨r, _, rfl, SqL.of h, fun p np => by rw [c.1]; exact q p _ (Same.up np) (.inl upd_same)⟩
  · exact .inr ⟨r, _, rfl, SqT.of h, c.2, fun p np => by rw [c.1]; exact q p _ (Same.up np) (.inr upd_same)⟩
theorem inV_int (i : Int) : ∀ ns : List Int, inV (V.int i) (ns.map V.int) = decide (i ∈ ns)
  | [] => by simp [inV]
  | a :: ns => by
    have ih := inV_int i ns
    unfold inV at ih ⊢
    show (eqV (V.int a) (V.int i) || (ns.map V.int).any fun y => eqV y (V.int i)) = _
    rw [ih]
    by_cases h : i = a
    · subst h
      rw [show eqV (V.int i) (V.int i) = true from decide_eq_true rfl, Bool.true_or, decide_eq_true List.mem_cons_self]
    · rw [show eqV (V.int a) (V.int i) = false from decide_eq_false (fun z => h (by have : a = i := z; exact this.symm)), Bool.false_or]
      exact decide_eq_decide.mpr ⟨fun z => List.mem_cons_of_mem _ z, fun z => (List.mem_cons.mp z).resolve_left h⟩
theorem int_flat : ∀ ks : List Int, (ks.map V.int).all flatV = true
  | [] => rfl
  | k :: ks => by
    rw [List.map_cons, List.all_cons, int_flat ks]
    rfl
theorem cut_pre (ks : List Int) {i : Nat} (h : i < ks.length) : cutV (ks.map V.int) none (some (i : Int)) = (ks.take i).map V.int ∧ ¬ (HT.sIx (ks.map V.int).length 0 none = 0 ∧ HT.sIx (ks.map V.int).length (ks.map V.int).length (some (i : Int)) = (ks.map V.int).length) := by
  refine ⟨?_, fun z => ?_⟩
  · unfold cutV
    rw [HT.sIx_none, HT.sIx_nat, List.length_map, Nat.min_eq_left (by omega), List.drop_zero, Nat.sub_zero, List.map_take]
  · have z2 := z.2
    rw [HT.sIx_nat, List.length_map] at z2
    omega
def spCd : Sp := fun vs H Q _ => ∃ (a : Addr) (ks : List Int), vs = [.ref a] ∧ Sq H a (ks.map V.int) ∧ ks.Nodup ∧ ∀ H' : Hp, Same H H' → Q .non H'
theorem not_pre {ks : List Int} (hd : ks.Nodup) {i : Nat} (h : i < ks.length) : decide (ks[i] ∈ ks.take i) = false := decide_eq_false fun z => by
  obtain ⟨j, hj, e⟩ := List.mem_take_iff_getElem.mp z
  have := List.pairwise_iff_getElem.mp (List.nodup_iff_pairwise_ne.mp hd) j i (by omega) h (by omega)
  exact this e
theorem ok_cd (T : Tx K mg A) : FnOk P w K mg base CX0 1 A.f_check_different A.d_check_different ["keys"] spCd := by
  refine T.F_check_different.ok sc_check_different (fun vs H Q E h => ?_) (fun cdv B outer s H vs Q E hr h => ?_)
  · obtain ⟨a, ks, rfl, _⟩ := h
    rfl
  · obtain ⟨a, ks, rfl, ha, hd, q⟩ := h
    have nd := sc_check_different.nd
    refine ⟨_, (pss_one (ps_for PassesOwn.never rfl (pi_enS (by rfl) T.g_enumerate (pa_cons (pv 0) pa_nil)) (pg_tup rfl (pgs_cons (pg_name (i := 1) nd rfl (Or.inl rfl)) (pgs_cons (pg_name (i := 2) nd rfl (Or.inl rfl)) pgs_nil))) (pss_one (ps_if (pt_cmpR (r := L2.rIn K false) op_in_seq (pv 2) (pe_slice (sl_list.or sl_tup) (pv 0) po_none (po_some (pv 1))) (by rfl)) (pss_one ps_never) pss_nil)))), ?_⟩
    rcases ha with ha | ha
    · refine ⟨_, rfl, a, _, rfl, .inl ⟨SqL.of ha, for_it (walk_enum (xs := ks.map V.int)) (fun i σ' H' => (∃ x1 x2 : Option V, σ' = [some (.ref a), x1, x2]) ∧ Same H H') ⟨⟨none, none, rfl⟩, Same.refl _⟩ (fun i σ' H' _ h => SqL.of (h.2 _ _ ha)) ?_ ?_⟩⟩
      · rintro i v σ' H2 H3 hi ⟨⟨x1, x2, rfl⟩, s⟩ ⟨T', x, y, rfl, hT, rfl, e1, e2⟩
        obtain ⟨hi2, rfl⟩ := ints_at e2
        cases e1
        refine ⟨_, _, rfl, SqT.of upd_same, rfl, _, _, rfl, _, _, rfl, rfl, ?_⟩
        have s3 := s.trans (Same.up (o := .tup [V.int (i : Nat), V.int ks[i]]) hT)
        generalize upd H2 T' (.tup [V.int (i : Nat), V.int ks[i]]) = G at s3
        refine ⟨_, rfl, _, rfl, _, rfl, _, rfl, sq_cut K (.inl (s3 _ _ ha)) (cut_pre ks hi2) fun p G2 s4 hp => ⟨p, _, rfl, hp.len, rfl, int_flat _, ?_⟩⟩
        rw [if_neg Bool.false_ne_true, inV_int, not_pre hd hi2]
        exact ⟨_, rfl, iteF ⟨⟨_, _, rfl⟩, s3.trans s4⟩⟩
      · rintro σ' H2 ⟨⟨x1, x2, rfl⟩, s⟩
        exact q _ s
    · refine ⟨_, rfl, a, _, rfl, .inr ⟨SqT.of ha, for_it (walk_enumT (xs := ks.map V.int)) (fun i σ' H' => (∃ x1 x2 : Option V, σ' = [some (.ref a), x1, x2]) ∧ Same H H') ⟨⟨none, none, rfl⟩, Same.refl _⟩ (fun i σ' H' _ h => SqT.of (h.2 _ _ ha)) ?_ ?_⟩⟩
      · rintro i v σ' H2 H3 hi ⟨⟨x1, x2, rfl⟩, s⟩ ⟨T', x, y, rfl, hT, rfl, e1, e2⟩
        obtain ⟨hi2, rfl⟩ := ints_at e2
        cases e1
        refine ⟨_, _, rfl, SqT.of upd_same, rfl, _, _, rfl, _, _, rfl, rfl, ?_⟩
        have s3 := s.trans (Same.up (o := .tup [V.int (i : Nat), V.int ks[i]]) hT)
        generalize upd H2 T' (.tup [V.int (i : Nat), V.int ks[i]]) = G at s3
        refine ⟨_, rfl, _, rfl, _, rfl, _, rfl, sq_cut K (.inr (s3 _ _ ha)) (cut_pre ks hi2) fun p G2 s4 hp => ⟨p, _, rfl, hp.len, rfl, int_flat _, ?_⟩⟩
        rw [if_neg Bool.false_ne_true, inV_int, not_pre hd hi2]
        exact ⟨_, rfl, iteF ⟨⟨_, _, rfl⟩, s3.trans s4⟩⟩
      · rintro σ' H2 ⟨⟨x1, x2, rfl⟩, s⟩
        exact q _ s
end
end Tw

set_option Elab.async false
set_option linter.all false
set_option maxRecDepth 100000
set_option maxHeartbeats 2000000
namespace Tw
open PySem PySem.Spec PyProof.Rows L2
section
variable {P : Program} {w : World} {K : PySem.W.Frag} {mg : Str → Option Value} {base : Heap} {A : Ad}
open LamX (ExtN Tabs TabS)
theorem b_cd (T : Tx K mg A) : L2.Binds K A.d_check_different ["keys"] [] := T.F_check_different.binds fun _ _ _ _ _ _ us hl => match us, hl with | [_], _ => rfl
theorem SqV.same {H H' : Hp} {a : Addr} {xs : List V} (h : SqV H a xs) (s : Same H H') : SqV H' a xs := h.elim (fun e => .inl (s _ _ e)) fun e => .inr (s _ _ e)
/-- a pair of a row and stops -/
def CodeAt (H : Hp) (q : Addr) (ks : List Int) (ps : List (Int × Int)) : Prop := ∃ (t1 t2 : Addr) (xs : List V), H q = some (.tup [.ref t1, .ref t2]) ∧ H t1 = some (.tup (ks.map V.int)) ∧ H t2 = some (.tup xs) ∧ PrsAt H xs ps
theorem CodeAt.same {H H' : Hp} {q : Addr} {ks : List Int} {ps : List (Int × Int)} (h : CodeAt H q ks ps) (s : Same H H') : CodeAt H' q ks ps := let ⟨t1, t2, xs, a, b, c, e⟩ := h; ⟨t1, t2, xs, s _ _ a, s _ _ b, s _ _ c, e.same s⟩
def spCode (A : Ad) : Sp := fun vs H Q _ => ∃ (r w : Nat) (ks : List Int), vs = [.ref r, .int w] ∧ (1 ≤ w ∧ w ≤ 4) ∧ RowIn H r ks ∧ ks.Nodup ∧ Tabs (TT A) H ∧
  ∀ (H' : Hp) (q : Addr), ExtN H H' → Tabs (TT A) H' → CodeAt H' q (bld ks.length w ks ks.length).1 (bld ks.length w ks ks.length).2.1 → Q (.ref q) H'
theorem ok_code (T : Tx K mg A) (TB : LamX.TabB base mg A.c_least_child A.P_least_child) : FnOk P w K mg base CX0 9 A.f_code A.d_code ["row", "arms"] (spCode A) := by
  obtain ⟨mb, kb⟩ := kb_build T
  refine T.F_code.ok sc_code (fun vs H Q E h => ?_) (fun cdv B outer s H vs Q E hr h => ?_)
  · obtain ⟨r, w, ks, rfl, _⟩ := h
    rfl
  · obtain ⟨r, w, ks, rfl, hw, hrow, hd, hT, q⟩ := h
    have nd := sc_code.nd
    refine ⟨_, PSs.nox (pss_cons (ps_set (i := 2) nd rfl (Or.inl rfl) (pe_callN (ok_build T TB) (hr.mono (by decide)) (by rfl) T.m_build T.F_build.kp kb pass0 (pa_cons (pv 0) pa_nil) (pk_cons (pv 1) pk_nil)))
      (pss_cons (ps_expr (pe_call (ok_cd T) (hr.mono (by decide)) (by rfl) T.m_check_different T.F_check_different.kp (b_cd T) .nil pass0 (pa_cons (pv 0) pa_nil)))
      (pss_one (ps_ret (pe_tup (pa_cons (pe_fld (pv 2) rfl) (pa_cons (pe_fld (pv 2) rfl) pa_nil))))))), ?_⟩
    refine ⟨_, rfl, _, rfl, rfl, rfl, r, w, ks, rfl, hw, hrow, hT, fun H1 m e1 t1 bm => ?_⟩
    refine ⟨_, rfl, r, ks, rfl, hrow.1.ext e1, hd, fun H2 s2 => ?_⟩
    obtain ⟨dx, u1, u2, xs, g1, g2, g3, g4⟩ := bm.same s2
    refine ⟨_, rfl, m, A.CB, dx, _, _, rfl, g1, T.cTB, T.bRow, uf_row _ _ _ _, _, rfl, m, A.CB, dx, _, _, rfl, g1, T.cTB, T.bStops, uf_stops _ _ _ _, by show 2 ≤ sizeLine; decide, fun t nt => ?_⟩
    have s3 := Same.up (o := .tup [.ref u1, .ref u2]) nt
    exact q _ t (e1.trans (extN_of (s2.trans s3))) (t1.ext (s2.trans s3)) ⟨u1, u2, xs, upd_same, s3 _ _ g2, s3 _ _ g3, g4.same s3⟩
def stpL (n w : Nat) (f : Nat → Nat) : Nat → List (Int × Int)
  | 0 => []
  | i + 1 => if kidL n w (n - 1 - i) = [] then stpL n w f i else stpL n w f i ++ [(((n - 1 - i : Nat) : Int), ((f (n - 1 - i) : Nat) : Int))]
def pathL (w p s : Nat) : List Nat := (wayL w s).drop ((wayL w p).length - 1)
def backL (n w : Nat) (f : Nat → Nat) (R : List Int) : Nat → List Int
  | 0 => R
  | j + 1 => if kidL n w j = [] then backL n w f R j else undoS (backL n w f R j) (pathL w j (f j))
/-- stop by stop, from the last one on -/
def undoP (w : Nat) (R : List Int) (x : Int × Int) : List Int := undoS R (pathL w x.1.toNat x.2.toNat)
theorem back_succ (n w : Nat) (f : Nat → Nat) (R : List Int) (j : Nat) : backL n w f R (j + 1) = if kidL n w j = [] then backL n w f R j else undoS (backL n w f R j) (pathL w j (f j)) := rfl
theorem stp_succ (n w : Nat) (f : Nat → Nat) (i : Nat) : stpL n w f (i + 1) = if kidL n w (n - 1 - i) = [] then stpL n w f i else stpL n w f i ++ [(((n - 1 - i : Nat) : Int), ((f (n - 1 - i) : Nat) : Int))] := rfl
theorem back_stp {n w : Nat} {f : Nat → Nat} {R : List Int} : ∀ i, i ≤ n → (stpL n w f i).foldr (fun x r => undoP w r x) (backL n w f R (n - i)) = backL n w f R n
  | 0, _ => rfl
  | i + 1, hi => by
    have ih := back_stp (n := n) (w := w) (f := f) (R := R) i (by omega)
    have e : n - i = (n - 1 - i) + 1 := by omega
    rw [e, back_succ] at ih
    rw [show n - (i + 1) = n - 1 - i by omega, stp_succ]
    by_cases h0 : kidL n w (n - 1 - i) = []
    · rw [if_pos h0] at ih ⊢
      exact ih
    · rw [if_neg h0] at ih ⊢
      rw [List.foldr_append]
      show List.foldr _ (undoP w (backL n w f R (n - 1 - i)) (((n - 1 - i : Nat) : Int), ((f (n - 1 - i) : Nat) : Int))) _ = _
      unfold undoP
      rw [Int.toNat_natCast, Int.toNat_natCast]
      exact ih
theorem tf_no (n w t : Nat) {m : Str} (h1 : ¬ m = "many") (h2 : ¬ m = "arms") (h3 : ¬ m = "_places") : (tf n w t).lookup m = none := by
  unfold tf
  rw [lookup_putF, if_neg h3, lookup_putF, if_neg h2, lookup_putF, if_neg h1]
  rfl
theorem b_par (T : Tx K mg A) : L2.Binds K A.d_t_parent ["self", "place"] [] := T.F_t_parent.binds fun _ _ _ _ _ _ us hl => match us, hl with | [_, _], _ => rfl
/-- the parent as the program says it -/
def parV (w p : Nat) : V := if p = 0 then .non else .int ((p - 1) / w : Nat)
def spPar (C : Addr) : Sp := fun vs H Q _ => ∃ (p n w i : Nat), vs = [.ref p, .int i] ∧ TreeAt C H p n w ∧ i < n ∧ Q (parV w i) H
theorem ok_par (T : Tx K mg A) : FnOk P w K mg base CX0 4 A.f_t_parent A.d_t_parent ["self", "place"] (spPar A.C) := by
  refine T.F_t_parent.ok sc_t_parent (fun vs H Q E h => ?_) (fun cdv B outer s H vs Q E hr h => ?_)
  · obtain ⟨p, n, w, i, rfl, _⟩ := h
    rfl
  · obtain ⟨p, n, w, i, rfl, t, hi, q⟩ := h
    obtain ⟨dx, l, h1, h2⟩ := t.ob
    refine ⟨_, pss_cons (ps_expr (pe_call (ok_cp T) hr (by rfl) T.m_check_place T.F_check_place.kp (b_cp T) .nil pass0 (pa_cons (pv 1) (pa_cons (pe_fld (pv 0) rfl) pa_nil))))
      (pss_cons (ps_if (pt_cmpR op_eq (pv 1) pe_int (nomark _)) (pss_one (ps_ret pe_non)) pss_nil)
      (pss_one (ps_ret (pe_op op_fdivN (pe_op op_sub (pv 1) pe_int) (pe_fld (pv 0) rfl))))), ?_⟩
    refine ⟨_, rfl, _, rfl, p, A.C, dx, _, _, rfl, h1, T.cT, T.nMany, tf_many _ _ _, _, _, rfl, ⟨by omega, by omega⟩, ?_⟩
    refine ⟨_, rfl, rfl, _, rfl, ?_⟩
    by_cases h0 : i = 0
    · rw [decide_eq_true (show V.int (i : Nat) = V.int 0 by rw [h0]; rfl)]
      refine iteT ?_
      unfold parV at q
      rw [if_pos h0] at q
      exact q
    · rw [decide_eq_false (show ¬ V.int (i : Nat) = V.int 0 by intro z; injection z with z; omega)]
      refine iteF ?_
      refine ⟨_, rfl, _, _, rfl, rfl, _, rfl, p, A.C, dx, _, _, rfl, h1, T.cT, T.nArms, tf_arms _ _ _, _, _, rfl, rfl, ⟨by have := t.hw; omega, by have := t.hw; omega⟩, ?_⟩
      unfold parV at q
      rw [if_neg h0] at q
      have e : Int.fdiv ((i : Int) - 1) (w : Int) = ((i - 1) / w : Nat) := by
        rw [Int.fdiv_eq_ediv_of_nonneg _ (by omega), show ((i : Int) - 1) = ((i - 1 : Nat) : Int) by omega]
        rfl
      show Q (V.int (Int.fdiv ((i : Int) - 1) (w : Int))) H
      rw [e]
      exact q
theorem ix_sq {H : Hp} {a : Addr} {ns : List Int} {i : Nat} {Q : VK} (h : Sq H a (ns.map V.int)) (hi : i < ns.length) (q : Q (.int (ns.getD i 0)) H) : rIx K (.ref a) (.int i) H Q := by
  have e : (ns.map V.int)[i]? = some (V.int (ns.getD i 0)) := by
    rw [List.getElem?_map, List.getElem?_eq_getElem hi, List.getD_eq_getElem?_getD, List.getElem?_eq_getElem hi]
    rfl
  rcases h with h | h
  · exact .inl ⟨a, _, _, _, rfl, rfl, SqL.of h, atI_nat e, q⟩
  · exact .inr (.inl ⟨a, _, _, _, rfl, rfl, SqT.of h, atI_nat e, q⟩)
theorem filt_pick (l : List Nat) (b : Nat → Bool) : vi (l.filter b) = l.filterMap fun j => if b j = true then some (V.int (j : Nat)) else none := by
  unfold vi
  induction l with
  | nil => rfl
  | cons a l ih =>
    by_cases h : b a = true
    · rw [List.filter_cons_of_pos h, List.map_cons, ih, List.filterMap_cons, if_pos h]
    · rw [List.filter_cons_of_neg h, ih, List.filterMap_cons, if_neg h]
def spFau : Sp := fun vs H Q _ => ∃ (a w : Nat) (ns : List Int), vs = [.ref a, .int w] ∧ (1 ≤ w ∧ w ≤ 4) ∧ RowIn H a ns ∧ ∀ H' q, Same H H' → H q = none → H' q = some (.lst (vi (faultL ns w))) → Q (.ref q) H'
theorem ok_fau (T : Tx K mg A) : FnOk P w K mg base CX0 7 A.f_faults A.d_faults ["row", "arms"] spFau := by
  obtain ⟨mo, ko⟩ := kb_of T
  refine T.F_faults.ok sc_faults (fun vs H Q E h => ?_) (fun cdv B outer s H vs Q E hr h => ?_)
  · obtain ⟨a, w, ns, rfl, _⟩ := h
    rfl
  · obtain ⟨a, w, ns, rfl, hw, hrow, q⟩ := h
    have nd := sc_faults.nd
    refine ⟨_, PSs.nox (pss_cons (ps_set (i := 2) nd rfl (Or.inr rfl) (pe_cmethK (pe_glob (v := .ref A.C) (by rfl) T.mC (relR _)) T.cr T.cof (ok_of T) hr ko pass0 (pa_cons (pv 0) pa_nil) (pk_cons (pv 1) pk_nil)))
      (pss_one (ps_ret (pe_lc (own := [("place", 3)]) (g := gName 3) rfl nd (pi_own T.D_t___iter__ (ok_iter T) (hr.mono (by decide)) (b_iter T) (pv 2)) (blkOk_by (own := [("place", 3)]) (N := ["row", "arms", "tree", "place"]) (sc := defScope s_faults) (by decide +kernel))
        (fun _ _ _ _ _ => pg_name (i := 3) nd rfl (Or.inl rfl))
        (fun _ _ _ _ _ => pts_one (PW.pt (pw_and (pt_cmpR op_gt (pv 3) pe_int (nomark _)) (pw_and1 (pt_cmpR op_lt (pe_ix (r := rIx K) ix_seq (pv 0) (pv 3) (fun _ _ => rfl))
          (pe_ix (r := rIx K) ix_seq (pv 0) (pe_meth (pv 2) T.cT T.M_t_parent (ok_par T) (hr.mono (by decide)) (b_par T) .nil pass0 (pa_cons (pv 3) pa_nil)) (fun _ _ => rfl)) (nomark _))))))
        (fun _ _ _ _ _ => pv 3))))), ?_⟩
    refine ⟨rfl, _, rfl, _, rfl, rfl, rfl, a, w, ns, rfl, hw, hrow.1, hrow.2.1, hrow.2.2, fun H1 p s1 p0 t1 => ?_⟩
    obtain ⟨dx, l, h1, h2⟩ := t1.ob
    have noP : (tf ns.length w l).lookup ("parent" : Str) = none := tf_no _ _ _ (by decide +kernel) (by decide +kernel) (by decide +kernel)
    have hlen := hrow.2.1
    refine ⟨_, rfl, p, dx, _, l, _, rfl, h1, tf_pl _ _ _, SqT.of h2, fun D hD => ?_⟩
    refine lc_it (walk_tup (xs := pl ns.length)) (PickI H1 D (List.range ns.length) fun j => if faultB ns w j = true then some (V.int (j : Nat)) else none) (pick_start hD) (fun k H' _ h => SqT.of (h.s _ _ h2)) ?_ ?_
    · rintro k x H2 H3 hk pk ⟨rfl, ex⟩
      obtain ⟨hk', rfl⟩ := map_at ex
      rw [List.getElem_range]
      have hk2 : k < ns.length := by rw [List.length_range] at hk'; exact hk'
      have hrow3 := (hrow.1.same s1).same pk.s
      refine ⟨rfl, _, rfl, _, _, rfl, rfl, _, rfl, ?_⟩
      by_cases h0 : 0 < k
      · rw [decide_eq_true (show (0 : Int) < (k : Nat) by omega)]
        have ep : parV w k = V.int ((k - 1) / w : Nat) := by unfold parV; rw [if_neg (by omega)]
        have hlt : (k - 1) / w < k := Nat.lt_of_le_of_lt (Nat.div_le_self _ _) (by omega)
        refine iteT ⟨_, rfl, _, rfl, ix_sq hrow3 hk2 ⟨_, rfl, _, rfl, p, dx, _, rfl, pk.s _ _ h1, noP, _, rfl, p, ns.length, w, k, rfl, t1.same pk.s, hk2, ?_⟩⟩
        rw [ep]
        refine ix_sq hrow3 (by omega) ⟨_, _, rfl, rfl, _, rfl, ?_⟩
        have ef : faultB ns w k = decide (ns.getD k 0 < ns.getD ((k - 1) / w) 0) := by unfold faultB; rw [decide_eq_true h0, Bool.true_and]
        by_cases hf : ns.getD k 0 < ns.getD ((k - 1) / w) 0
        · rw [decide_eq_true hf] at ef ⊢
          exact iteT ⟨_, rfl, pick_yes hk' (by rw [List.length_range]; omega) (by rw [List.getElem_range, ef]; rfl) (Same.refl _) pk⟩
        · rw [decide_eq_false hf] at ef ⊢
          exact iteF (pick_no hk' (by rw [List.getElem_range, ef]; rfl) (Same.refl _) pk)
      · rw [decide_eq_false (show ¬ (0 : Int) < (k : Nat) by omega)]
        have ef : faultB ns w k = false := by unfold faultB; rw [decide_eq_false h0, Bool.false_and]
        exact iteF (iteF (pick_no hk' (by rw [List.getElem_range, ef]; rfl) (Same.refl _) pk))
    · intro H2 pk
      have ac := pick_end (by rw [pl_len, List.length_range]) pk
      refine q _ D (s1.trans ac.s) (s1.free hD) ?_
      rw [ac.a]
      unfold faultL
      rw [filt_pick]
theorem kb_fau (T : Tx K mg A) : ∃ mv : List Value, KBn K A.d_faults ["row", "arms"] 1 ["arms"] (fun us ws => us ++ (mv ++ ws)) (fun vs zs => vs ++ zs) := by
  obtain ⟨mv, h⟩ := T.F_faults.kbinds0 (ps := ["row", "arms"]) 1 ["arms"] [] (fun us mv ws => us ++ (mv ++ ws)) (by simp) (by simp) (fun r1 r2 r3 => r1.append (r2.append r3))
    (fun D doc pm an cdv ct us mv ws h1 h2 h3 => by
      match us, mv, ws, h1, h2, h3 with
      | [a], [], [c], _, _, _ => rfl)
  exact ⟨mv, h⟩
def spHp : Sp := fun vs H Q _ => ∃ (r w : Nat) (ks : List Int), vs = [.ref r, .int w] ∧ (1 ≤ w ∧ w ≤ 4) ∧ RowIn H r ks ∧ faultL ks w = [] ∧ ∀ H' q, Same H H' → H' q = some (.tup (ks.map V.int)) → Q (.ref q) H'
theorem ok_hp (T : Tx K mg A) : FnOk P w K mg base CX0 8 A.f_heap_of A.d_heap_of ["row", "arms"] spHp := by
  obtain ⟨mf, kf⟩ := kb_fau T
  refine T.F_heap_of.ok sc_heap_of (fun vs H Q E h => ?_) (fun cdv B outer s H vs Q E hr h => ?_)
  · obtain ⟨r, w, ks, rfl, _⟩ := h
    rfl
  · obtain ⟨r, w, ks, rfl, hw, hrow, hf, q⟩ := h
    have nd := sc_heap_of.nd
    refine ⟨_, PSs.nox (pss_cons (ps_set (i := 2) nd rfl (Or.inl rfl) (pe_callN (ok_fau T) (hr.mono (by decide)) (by rfl) T.m_faults T.F_faults.kp kf pass0 (pa_cons (pv 0) pa_nil) (pk_cons (pv 1) pk_nil)))
      (pss_cons (ps_if (pt_truth (pv 2) (fun _ => rfl)) (pss_one ps_never) pss_nil)
      (pss_one (ps_ret (pe_callTy (r := rTupOf K) call_tupK (by rfl) T.g_tuple (by decide +kernel) (pa_cons (pv 0) pa_nil)))))), ?_⟩
    refine ⟨_, rfl, _, rfl, rfl, rfl, r, w, ks, rfl, hw, hrow, fun H1 d s1 d0 hd => ?_⟩
    refine ⟨_, rfl, !(vi (faultL ks w)).isEmpty, .inl ⟨_, SqL.of hd, rfl⟩, ?_⟩
    rw [hf]
    refine iteF ?_
    rcases hrow.1.same s1 with h | h
    · exact ⟨_, rfl, r, _, rfl, .inl ⟨SqL.of h, fun t nt => q _ t (s1.trans (Same.up nt)) upd_same⟩⟩
    · exact ⟨_, rfl, r, _, rfl, .inr ⟨SqT.of h, q _ r s1 h⟩⟩
theorem b_hp (T : Tx K mg A) : L2.Binds K A.d_heap_of ["row", "arms"] [] := T.F_heap_of.binds fun _ _ _ _ _ _ us hl => match us, hl with | [_, _], _ => rfl
def spDh : Sp := fun vs H Q _ => ∃ (r w : Nat) (ks : List Int), vs = [.ref r, .int w] ∧ (1 ≤ w ∧ w ≤ 4) ∧ RowIn H r ks ∧ faultL ks w = [] ∧ ks.Nodup ∧ ∀ H' q, Same H H' → H' q = some (.tup (ks.map V.int)) → Q (.ref q) H'
theorem ok_dh (T : Tx K mg A) : FnOk P w K mg base CX0 9 A.f_different_heap_of A.d_different_heap_of ["row", "arms"] spDh := by
  refine T.F_different_heap_of.ok sc_different_heap_of (fun vs H Q E h => ?_) (fun cdv B outer s H vs Q E hr h => ?_)
  · obtain ⟨r, w, ks, rfl, _⟩ := h
    rfl
  · obtain ⟨r, w, ks, rfl, hw, hrow, hf, hd, q⟩ := h
    have nd := sc_different_heap_of.nd
    refine ⟨_, (pss_cons (ps_set (i := 2) nd rfl (Or.inl rfl) (pe_call (ok_hp T) (hr.mono (by decide)) (by rfl) T.m_heap_of T.F_heap_of.kp (b_hp T) .nil pass0 (pa_cons (pv 0) (pa_cons (pv 1) pa_nil))))
      (pss_cons (ps_expr (pe_call (ok_cd T) (hr.mono (by decide)) (by rfl) T.m_check_different T.F_check_different.kp (b_cd T) .nil pass0 (pa_cons (pv 2) pa_nil)))
      (pss_one (ps_ret (pv 2))))), ?_⟩
    refine ⟨_, rfl, _, rfl, r, w, ks, rfl, hw, hrow, hf, fun H1 t s1 e1 => ?_⟩
    exact ⟨_, rfl, t, ks, rfl, .inr e1, hd, fun H2 s2 => ⟨_, rfl, q H2 t (s1.trans s2) (s2 _ _ e1)⟩⟩
theorem b_dh (T : Tx K mg A) : L2.Binds K A.d_different_heap_of ["row", "arms"] [] := T.F_different_heap_of.binds fun _ _ _ _ _ _ us hl => match us, hl with | [_, _], _ => rfl
theorem way_end (w p : Nat) (hw : 1 ≤ w ∧ w ≤ 4) (hp : p ≤ 12) : ∃ x, wayL w p = x ++ [p] := by
  by_cases h0 : p = 0
  · subst h0
    exact ⟨[], way_zero w (by omega) hw.1⟩
  · exact ⟨_, way_rec w p hw hp (by omega)⟩
theorem way_down {n w : Nat} (hw : 1 ≤ w ∧ w ≤ 4) (hn : n ≤ 12) : ∀ (l : List Nat) (p : Nat), p < n → Down n w p l → wayL w (endOf p l) = wayL w p ++ l
  | [], p, _, _ => (List.append_nil _).symm
  | b :: l, p, hp, ⟨hb, hd⟩ => by
    obtain ⟨b1, b2⟩ := kid_in hw.1 hb
    rw [end_cons, way_down hw hn l b b2 hd, way_rec w b hw (by omega) (by omega), (mem_kid.mp hb).2.2, List.append_assoc]
    rfl
theorem path_down {n w : Nat} (hw : 1 ≤ w ∧ w ≤ 4) (hn : n ≤ 12) {p : Nat} {l : List Nat} (hp : p < n) (hd : Down n w p l) : pathL w p (endOf p l) = p :: l := by
  obtain ⟨x, e⟩ := way_end w p hw (by omega)
  unfold pathL
  rw [way_down hw hn l p hp hd, e, List.length_append, List.length_singleton, Nat.add_sub_cancel, List.append_assoc, List.drop_append_of_le_length (Nat.le_refl _), List.drop_length]
  rfl
theorem down_snoc {n w : Nat} : ∀ (l : List Nat) (p b : Nat), Down n w p l → b ∈ kidL n w (endOf p l) → Down n w p (l ++ [b])
  | [], p, b, _, hb => ⟨hb, trivial⟩
  | c :: l, p, b, ⟨h1, h2⟩, hb => ⟨h1, down_snoc l c b h2 (by rw [end_cons] at hb; exact hb)⟩
theorem end_snoc (l : List Nat) (p b : Nat) : endOf p (l ++ [b]) = b := by
  unfold endOf
  rw [List.getLastD_eq_getLast?, List.getLast?_append]
  rfl
theorem of_sub {n w : Nat} (hw : 1 ≤ w ∧ w ≤ 4) (hn : n ≤ 12) : ∀ (k s p : Nat), s ≤ k → s < n → p ∈ wayL w s → ∃ l, Down n w p l ∧ endOf p l = s
  | 0, s, p, hk, hs, hm => by
    obtain rfl : s = 0 := by omega
    rw [way_zero w (by omega) hw.1] at hm
    rw [List.mem_singleton.mp hm]
    exact ⟨[], trivial, rfl⟩
  | k + 1, s, p, hk, hs, hm => by
    by_cases h0 : s = 0
    · subst h0
      rw [way_zero w (by omega) hw.1] at hm
      rw [List.mem_singleton.mp hm]
      exact ⟨[], trivial, rfl⟩
    · rw [way_rec w s hw (by omega) (by omega)] at hm
      have hlt : (s - 1) / w ≤ s - 1 := Nat.div_le_self _ _
      rcases List.mem_append.mp hm with hm | hm
      · obtain ⟨l, h1, h2⟩ := of_sub hw hn k ((s - 1) / w) p (by omega) (by omega) hm
        exact ⟨l ++ [s], down_snoc l p s h1 (by rw [h2]; exact mem_kid.mpr ⟨by omega, hs, rfl⟩), end_snoc l p s⟩
      · rw [List.mem_singleton.mp hm]
        exact ⟨[], trivial, rfl⟩
/-- t[lo:hi], by what it holds -/
def rSlS (K : PySem.W.Frag) : V → Option Int → Option Int → Hp → VK → Prop := fun x lo hi H Q => ∃ a xs, x = .ref a ∧ SqT K H a xs ∧ ∀ (p : Addr) (H' : Hp), Same H H' → SqT K H' p (cutV xs lo hi) → Q (.ref p) H'
theorem sl_tupS {X : Cx} : SlR X (rSlS X.K) := by
  intro pins s σ H x v vl vu lo hi sl Q I rx hs pl pu h
  obtain ⟨a, xs, ex, hx, q⟩ := h
  refine sl_tupA pins s σ H x v vl vu lo hi sl Q I rx hs pl pu ⟨a, xs, ex, hx, fun y => ?_, fun _ p np => q p _ (Same.up np) (SqT.of upd_same)⟩
  refine q a H (Same.refl _) ?_
  have : cutV xs lo hi = xs := by
    unfold cutV
    rw [y.1, y.2, List.drop_zero, Nat.sub_zero, List.take_length]
  rw [this]
  exact hx
theorem SqT.sm {K : PySem.W.Frag} {H H' : Hp} {a : Addr} {xs : List V} (s : Same H H') (h : SqT K H a xs) : SqT K H' a xs := by
  rcases h with (h | ⟨o, h⟩) | h
  · exact .inl (.inl (s _ _ h))
  · exact .inl (.inr ⟨o, s _ _ h⟩)
  · exact .inr h
theorem cut_from (xs : List V) (k : Nat) : cutV xs (some (k : Int)) none = xs.drop k := by
  unfold cutV
  rw [HT.sIx_none, HT.sIx_nat]
  rcases Nat.le_total k xs.length with h | h
  · rw [Nat.min_eq_left h, List.take_of_length_le (by rw [List.length_drop]; exact Nat.le_refl _)]
  · rw [Nat.min_eq_right h, List.drop_length, List.drop_eq_nil_of_le h, List.take_nil]
theorem down_get {n w : Nat} (hw : 1 ≤ w) : ∀ (l : List Nat) (p : Nat), p < n → Down n w p l → ∀ j (h : j < l.length), (l[j] - 1) / w = (p :: l).getD j 0 ∧ (p :: l).getD j 0 < n ∧ p < l[j] ∧ l[j] < n
  | [], _, _, _, j, h => absurd h (by simp)
  | b :: l, p, hp, ⟨hb, hd⟩, 0, h => by
    obtain ⟨b1, b2⟩ := kid_in hw hb
    exact ⟨(mem_kid.mp hb).2.2, hp, b1, b2⟩
  | b :: l, p, hp, ⟨hb, hd⟩, j + 1, h => by
    obtain ⟨b1, b2⟩ := kid_in hw hb
    have hj : j < l.length := by simpa using h
    obtain ⟨h1, h2, h3, h4⟩ := down_get hw l b b2 hd j hj
    exact ⟨h1, h2, Nat.lt_trans b1 h3, h4⟩
theorem SqT.put {H : Hp} {a D : Addr} {xs zs : List V} {o : HO} (hD : H D = some (.lst zs)) (h : SqT K H a xs) : SqT K (upd H D o) a xs := by
  rcases h with (h | ⟨o, h⟩) | h
  · exact .inl (.inl (by rw [upd_ne (ne_of h hD (by intro q; cases q))]; exact h))
  · exact .inl (.inr ⟨o, by rw [upd_ne (ne_of h hD (by intro q; cases q))]; exact h⟩)
  · exact .inr h
def rbL (n w : Nat) (R : List Int) (p : Nat) (l : List Nat) (j : Nat) : List Int := (List.range n).map fun q => if q = p then keyAt R (endOf p l) else if q ∈ l.take j then keyAt R ((q - 1) / w) else keyAt R q
theorem rb_len (n w : Nat) (R : List Int) (p : Nat) (l : List Nat) (j : Nat) : (rbL n w R p l j).length = n := by
  unfold rbL
  rw [List.length_map, List.length_range]
theorem el_key {l : List Int} {i : Nat} (h : i < l.length) : l[i] = keyAt l i := by
  unfold keyAt
  rw [List.getD_eq_getElem?_getD, List.getElem?_eq_getElem h]
  rfl
theorem ext_key {a b : List Int} (hl : a.length = b.length) (h : ∀ q, q < a.length → keyAt a q = keyAt b q) : a = b :=
  List.ext_getElem hl fun q h1 h2 => by rw [el_key h1, el_key h2, h q h1]
theorem rb_at {n w : Nat} {R : List Int} {p : Nat} {l : List Nat} {j q : Nat} (hq : q < n) : keyAt (rbL n w R p l j) q = if q = p then keyAt R (endOf p l) else if q ∈ l.take j then keyAt R ((q - 1) / w) else keyAt R q := by
  have e : (rbL n w R p l j)[q]? = some (if q = p then keyAt R (endOf p l) else if q ∈ l.take j then keyAt R ((q - 1) / w) else keyAt R q) := by
    unfold rbL
    rw [List.getElem?_map, List.getElem?_range hq]
    rfl
  show (rbL n w R p l j).getD q 0 = _
  rw [List.getD_eq_getElem?_getD, e]
  rfl
theorem rb_zero {n w : Nat} {R : List Int} (hl : R.length = n) {p : Nat} (hp : p < n) (l : List Nat) : R.set p (keyAt R (endOf p l)) = rbL n w R p l 0 := by
  refine ext_key (by rw [List.length_set, rb_len, hl]) fun q h1 => ?_
  rw [List.length_set, hl] at h1
  rw [keyAt_set (by omega), rb_at h1, List.take_zero, if_neg (show ¬ q ∈ [] by simp)]
theorem rb_succ {n w : Nat} (hw : 1 ≤ w) {R : List Int} {p : Nat} (hp : p < n) {l : List Nat} (hd : Down n w p l) {j : Nat} (h : j < l.length) : (rbL n w R p l j).set l[j] (keyAt R ((p :: l).getD j 0)) = rbL n w R p l (j + 1) := by
  obtain ⟨g1, g2, g3, g4⟩ := down_get hw l p hp hd j h
  refine ext_key (by rw [List.length_set, rb_len, rb_len]) fun q h1 => ?_
  rw [List.length_set, rb_len] at h1
  rw [keyAt_set (by rw [rb_len]; exact g4), rb_at h1, rb_at h1, ← List.take_append_getElem h]
  by_cases e : q = l[j]
  · subst e
    rw [if_pos rfl, if_neg (by omega), if_pos (List.mem_append_right _ (List.mem_singleton.mpr rfl)), g1]
  · rw [if_neg e]
    by_cases e2 : q = p
    · rw [if_pos e2, if_pos e2]
    · rw [if_neg e2, if_neg e2]
      by_cases e3 : q ∈ l.take j
      · rw [if_pos e3, if_pos (List.mem_append_left _ e3)]
      · rw [if_neg e3, if_neg fun z => (List.mem_append.mp z).elim e3 fun y => e (List.mem_singleton.mp y)]
theorem rb_end {n w : Nat} (hw : 1 ≤ w) {R : List Int} (hl : R.length = n) {p : Nat} (hp : p < n) {l : List Nat} (hd : Down n w p l) : rbL n w R p l l.length = undoS R (p :: l) := by
  refine ext_key (by rw [undo_len, rb_len, hl]) fun q h1 => ?_
  rw [rb_len] at h1
  rw [undo_at hw hl l p hp hd, rb_at h1, List.take_length]
theorem vi_getD {l : List Nat} {p : Nat} (h : p < l.length) : (vi l)[p]? = some (V.int (l.getD p 0 : Nat)) := by
  unfold vi
  rw [List.getElem?_map, List.getElem?_eq_getElem h, List.getD_eq_getElem?_getD, List.getElem?_eq_getElem h]
  rfl
theorem vi_cons (p : Nat) (l : List Nat) : vi (p :: l) = V.int (p : Nat) :: vi l := rfl
theorem vi_last (p : Nat) (l : List Nat) : atI (vi (p :: l)) (-1) = some (V.int ((endOf p l : Nat) : Int)) := by
  rw [vi_wz]
  have := last_wz (l := [p] ++ l) (by simp)
  rw [last_end] at this
  exact this
theorem vi_first (p : Nat) (l : List Nat) : atI (vi (p :: l)) 0 = some (V.int ((p : Nat) : Int)) := by
  show atI (vi (p :: l)) ((0 : Nat) : Int) = _
  exact atI_nat rfl
def spRb (K : PySem.W.Frag) : Sp := fun vs H Q _ => ∃ (a b p n w : Nat) (R : List Int) (l : List Nat), vs = [.ref a, .ref b] ∧ H a = some (.tup (R.map V.int)) ∧ SqT K H b (vi (p :: l)) ∧ R.length = n ∧ n ≤ 12 ∧ 1 ≤ w ∧ p < n ∧ Down n w p l ∧
  ∀ (H' : Hp) (t : Addr), Same H H' → H' t = some (.tup ((undoS R (p :: l)).map V.int)) → Q (.ref t) H'
theorem ok_rb (T : Tx K mg A) : FnOk P w K mg base CX0 1 A.f_row_before A.d_row_before ["row", "way"] (spRb K) := by
  refine T.F_row_before.ok sc_row_before (fun vs H Q E h => ?_) (fun cdv B outer s H vs Q E hr h => ?_)
  · obtain ⟨a, b, p, n, w, R, l, rfl, _⟩ := h
    rfl
  · obtain ⟨a, b, p, n, w, R, l, rfl, ha, hb, hl, hn, hw, hp, hd, q⟩ := h
    have nd := sc_row_before.nd
    obtain ⟨_, _, he⟩ := down_lt hw l p hp hd
    refine ⟨_, PSs.nox (C8.pss_cut (ps_set (i := 2) nd rfl (Or.inl rfl) (pe_callTy call_list_of (by rfl) T.g_list (by decide +kernel) (pa_cons (pv 0) pa_nil)))
      (C8.pss_cut (ps_asg (pe_ix (r := rIxT K) ix_tup (pv 0) (pe_ix (r := rIxT K) ix_tup (pv 1) (pe_un un_neg pe_int) (fun _ _ => rfl)) (fun _ _ => rfl)) (pg_sub (pv 2) (pe_ix (r := rIxT K) ix_tup (pv 1) pe_int (fun _ _ => rfl)) set_list))
      (C8.pss_cut (ps_for PassesOwn.never rfl (RZ.pi_zipA (by rfl) T.g_zip (pa_cons (pv 1) (pa_cons (pe_slice (r := rSlS K) sl_tupS (pv 1) (po_some pe_int) po_none) pa_nil))) (pg_tup rfl (pgs_cons (pg_name (i := 3) nd rfl (Or.inl rfl)) (pgs_cons (pg_name (i := 4) nd rfl (Or.inl rfl)) pgs_nil))) (pss_one (ps_asg (pe_ix (r := rIxT K) ix_tup (pv 0) (pv 3) (fun _ _ => rfl)) (pg_sub (pv 2) (pv 4) set_list))))
      (pss_one (ps_ret (pe_callTy call_tuple_of (by rfl) T.g_tuple (by decide +kernel) (pa_cons (pv 2) pa_nil))))))), ?_⟩
    refine ⟨fun σ' H' => ∃ D : Addr, σ' = [some (.ref a), some (.ref b), some (.ref D), none, none] ∧ Acc H D (R.map V.int) H', ?_, ?_⟩
    · exact ⟨_, rfl, a, _, rfl, .inr (SqT.of ha), fun D nD => ⟨D, rfl, Same.up nD, nD, upd_same⟩⟩
    rintro σ' H1 ⟨D, rfl, ac1⟩
    refine ⟨fun σ' H' => σ' = [some (.ref a), some (.ref b), some (.ref D), none, none] ∧ Acc H D ((rbL n w R p l 0).map V.int) H', ?_, ?_⟩
    · refine ⟨_, rfl, _, rfl, _, rfl, b, _, _, _, rfl, rfl, SqT.sm ac1.s hb, vi_last p l, a, _, _, _, rfl, rfl, SqT.of (ac1.s _ _ ha), key_at (by omega), ?_⟩
      refine ⟨_, rfl, _, rfl, b, _, _, _, rfl, rfl, SqT.sm ac1.s hb, vi_first p l, D, _, _, p, rfl, rfl, ac1.a, ixN_nat (by rw [List.length_map]; omega), rfl, ?_⟩
      rw [set_int, rb_zero hl hp]
      exact ac1.push
    rintro σ' H2 ⟨rfl, ac2⟩
    refine ⟨fun σ' H' => (∃ x3 x4 : Option V, σ' = [some (.ref a), some (.ref b), some (.ref D), x3, x4]) ∧ Acc H D ((undoS R (p :: l)).map V.int) H', ?_, ?_⟩
    · refine ⟨_, rfl, _, rfl, _, rfl, b, _, rfl, SqT.sm ac2.s hb, fun u H3 s3 eu => ?_⟩
      have ac3 := ac2.same s3
      rw [show (1 : Int) = ((1 : Nat) : Int) from rfl, cut_from, vi_cons, List.drop_one, List.tail_cons] at eu
      have hb3 := SqT.sm ac3.s hb
      refine ⟨b, u, _, _, rfl, .inr ⟨hb3, eu, for_it (walk_zipT (n := l.length) (by rw [List.length_cons, vi_len]; omega)) (fun j σ' H' => (∃ x3 x4 : Option V, σ' = [some (.ref a), some (.ref b), some (.ref D), x3, x4]) ∧ Acc H D ((rbL n w R p l j).map V.int) H' ∧ SqT K H' b (V.int (p : Nat) :: vi l) ∧ SqT K H' u (vi l)) ⟨⟨none, none, rfl⟩, ac3, hb3, eu⟩ (fun j σ' H' _ h => ⟨h.2.2.1, h.2.2.2⟩) ?_ ?_⟩⟩
      · rintro j v σ' H4 H5 hj ⟨⟨x3, x4, rfl⟩, ac, sb, su⟩ ⟨T', x, y, rfl, hT, rfl, e1, e2⟩
        have e1 : (vi (p :: l))[j]? = some x := e1
        rw [vi_getD (by rw [List.length_cons]; omega)] at e1
        have e2 : (vi l)[j]? = some y := e2
        rw [vi_getD hj] at e2
        cases e1
        cases e2
        have el : l.getD j 0 = l[j] := by rw [List.getD_eq_getElem?_getD, List.getElem?_eq_getElem hj]; rfl
        rw [el]
        obtain ⟨g1, g2, g3, g4⟩ := down_get hw l p hp hd j hj
        refine ⟨_, _, rfl, SqT.of upd_same, rfl, _, _, rfl, _, _, rfl, rfl, ?_⟩
        have s5 := Same.up (o := .tup [V.int ((p :: l).getD j 0 : Nat), V.int (l[j] : Nat)]) hT
        have ac5 := ac.same s5
        have sb5 := SqT.sm s5 sb
        have su5 := SqT.sm s5 su
        generalize upd H4 T' (.tup [V.int ((p :: l).getD j 0 : Nat), V.int (l[j] : Nat)]) = G at ac5 sb5 su5
        refine ⟨_, rfl, _, rfl, a, _, _, _, rfl, rfl, SqT.of (ac5.s _ _ ha), key_at (by omega), _, rfl, _, rfl, D, _, _, l[j], rfl, rfl, ac5.a, ixN_nat (by rw [List.length_map, rb_len]; exact g4), ?_⟩
        rw [set_int, rb_succ hw hp hd hj]
        exact ⟨⟨_, _, rfl⟩, ac5.push, SqT.put ac5.a sb5, SqT.put ac5.a su5⟩
      · rintro σ' H4 ⟨⟨x3, x4, rfl⟩, ac, _, _⟩
        rw [rb_end hw hl hp hd] at ac
        exact ⟨⟨_, _, rfl⟩, ac⟩
    rintro σ' H3 ⟨⟨x3, x4, rfl⟩, ac3⟩
    exact ⟨_, rfl, D, _, rfl, .inl ⟨SqL.of ac3.a, fun t nt => q _ t (ac3.s.trans (Same.up nt)) upd_same⟩⟩
end
end Tw

set_option Elab.async false
set_option linter.all false
set_option maxRecDepth 100000
set_option maxHeartbeats 2000000
namespace Tw
open PySem PySem.Spec PyProof.Rows L2
section
variable {P : Program} {w : World} {K : PySem.W.Frag} {mg : Str → Option Value} {base : Heap} {A : Ad}
open LamX (ExtN Tabs TabS)
theorem b_rb (T : Tx K mg A) : L2.Binds K A.d_row_before ["row", "way"] [] := T.F_row_before.binds fun _ _ _ _ _ _ us hl => match us, hl with | [_, _], _ => rfl
theorem b_way (T : Tx K mg A) : L2.Binds K A.d_t_way_to ["self", "place"] [] := T.F_t_way_to.binds fun _ _ _ _ _ _ us hl => match us, hl with | [_, _], _ => rfl
theorem b_dep (T : Tx K mg A) : L2.Binds K A.d_t_depth ["self", "place"] [] := T.F_t_depth.binds fun _ _ _ _ _ _ us hl => match us, hl with | [_, _], _ => rfl
theorem up_len : ∀ w, w < 5 → ∀ p, p < 13 → 1 ≤ w → (upL w p).length ≤ 13 := by decide +kernel
theorem vi_rev (a : List Nat) : (vi a).reverse = vi a.reverse := by unfold vi; rw [List.map_reverse]
/-- a number that falls while a place goes up -/
def muV : Option (Option V) → Nat
  | some (some (V.int z)) => z.toNat + 1
  | _ => 0
def spWay (C : Addr) : Sp := fun vs H Q _ => ∃ (p n w i : Nat), vs = [.ref p, .int i] ∧ TreeAt C H p n w ∧ i < n ∧ ∀ H' q, Same H H' → H q = none → H' q = some (.tup (vi (wayL w i))) → Q (.ref q) H'
theorem ok_way (T : Tx K mg A) : FnOk P w K mg base CX0 5 A.f_t_way_to A.d_t_way_to ["self", "place"] (spWay A.C) := by
  refine T.F_t_way_to.ok sc_t_way_to (fun vs H Q E h => ?_) (fun cdv B outer s H vs Q E hr h => ?_)
  · obtain ⟨p, n, w, i, rfl, _⟩ := h
    rfl
  · obtain ⟨p, n, w, i, rfl, t, hi, q⟩ := h
    refine ⟨_, pss_cons (ps_set (i := 2) sc_t_way_to.nd rfl (Or.inl rfl) (pe_lst (pa_cons (pv 1) pa_nil)))
      (pss_cons (ps_set (i := 3) sc_t_way_to.nd rfl (Or.inl rfl) (pe_meth (pv 0) T.cT T.M_t_parent (ok_par T) hr (b_par T) .nil pass0 (pa_cons (pv 1) pa_nil)))
      (pss_cons (ps_while PassesOwn.never (pt_cmpR op_notN (pv 3) pe_non (nomark _))
        (pss_cons (ps_expr (pe_bm PySem.F.plainAttrs_list PySem.F.slot_list_append PySem.F.type_list_append mt_append (pv 2) (pa_cons (pv 3) pa_nil)))
        (pss_one (ps_set (i := 3) sc_t_way_to.nd rfl (Or.inl rfl) (pe_meth (pv 0) T.cT T.M_t_parent (ok_par T) hr (b_par T) .nil pass0 (pa_cons (pv 3) pa_nil))))))
      (pss_one (ps_ret (pe_callTy call_tuple_of (by rfl) T.g_tuple (by decide +kernel) (pa_cons (pe_revL (pv 2)) pa_nil)))))), ?_⟩
    obtain ⟨dx, l, h1, h2⟩ := t.ob
    have noP : (tf n w l).lookup ("parent" : Str) = none := tf_no _ _ _ (by decide +kernel) (by decide +kernel) (by decide +kernel)
    refine ⟨_, rfl, by show 1 ≤ sizeLine; decide, fun d hd => ?_⟩
    have s1 : Same H (upd H d (.lst [V.int (i : Nat)])) := Same.up hd
    refine ⟨_, rfl, p, dx, _, rfl, s1 _ _ h1, noP, _, rfl, p, n, w, i, rfl, t.same s1, hi, ?_⟩
    refine while_by (fun σ H' => ∃ (c : Nat) (acc : List Nat), σ = [some (.ref p), some (.int i), some (.ref d), some (parV w c)] ∧ c < n ∧ Acc H d (vi (acc ++ [c])) H' ∧ acc ++ upL w c = upL w i ∧ acc.length ≤ 12)
      (fun σ _ => muV σ[3]?) ⟨i, [], rfl, hi, ⟨s1, hd, upd_same⟩, rfl, Nat.zero_le _⟩ ?_ ?_
    · rintro σ H' ⟨c, acc, rfl, hc, ac, ea, hl⟩
      have hn := t.hn
      have hw := t.hw
      have eu := up_eq w (by omega) c (by omega) hw.1
      refine ⟨_, rfl, rfl, _, rfl, ?_⟩
      by_cases h0 : c = 0
      · have ev : parV w c = V.non := by unfold parV; rw [if_pos h0]
        rw [ev, decide_eq_true (rfl : V.non = V.non)]
        refine iteF ?_
        rw [if_pos h0] at eu
        refine ⟨_, rfl, d, _, rfl, SqL.of ac.a, fun r hr0 => ⟨r, _, rfl, .inl ⟨SqL.of upd_same, fun u hu => q _ u (ac.s.trans ((Same.up hr0).trans (Same.up hu))) (ac.s.free ((Same.up hr0).free hu)) ?_⟩⟩⟩
        unfold wayL
        rw [upd_same, vi_rev, ← ea, eu, h0]
      · have ev : parV w c = V.int ((c - 1) / w : Nat) := by unfold parV; rw [if_neg h0]
        rw [ev, decide_eq_false (show ¬ V.int ((c - 1) / w : Nat) = V.non from fun z => nomatch z)]
        refine iteT ?_
        rw [if_neg h0] at eu
        have hlt : (c - 1) / w < c := Nat.lt_of_le_of_lt (Nat.div_le_self _ _) (by omega)
        have hL : acc.length + 1 + (upL w ((c - 1) / w)).length = (upL w i).length := by
          rw [← ea, eu, List.length_append, List.length_cons]
          omega
        have hL2 := up_len w (by omega) i (by omega) hw.1
        have hL3 := up_eq w (by omega) ((c - 1) / w) (by omega) hw.1
        have hL4 : 1 ≤ (upL w ((c - 1) / w)).length := by
          rw [hL3]
          split
          · exact Nat.le_refl _
          · rw [List.length_cons]; omega
        refine ⟨_, rfl, .inl ⟨rfl, _, SqL.of ac.a⟩, _, rfl, d, _, _, rfl, rfl, ac.a, small1000 (by rw [vi_len, List.length_append, List.length_singleton]; omega), ?_⟩
        have e2 : vi (acc ++ [c]) ++ [V.int ((c - 1) / w : Nat)] = vi (acc ++ [c] ++ [(c - 1) / w]) := by rw [vi_app (acc ++ [c])]; rfl
        rw [e2]
        have ac2 : Acc H d (vi (acc ++ [c] ++ [(c - 1) / w])) (upd H' d (.lst (vi (acc ++ [c] ++ [(c - 1) / w])))) := ac.push
        refine ⟨_, rfl, p, dx, _, rfl, ac2.s _ _ h1, noP, _, rfl, p, n, w, (c - 1) / w, rfl, t.same ac2.s, by omega, ?_⟩
        refine ⟨⟨(c - 1) / w, acc ++ [c], rfl, by omega, ac2, ?_, by rw [List.length_append, List.length_singleton]; omega⟩, ?_⟩
        · rw [← ea, eu, List.append_assoc]
          rfl
        · show muV (some (some (parV w ((c - 1) / w)))) < muV (some (some (V.int ((c - 1) / w : Nat))))
          unfold parV
          split
          · show 0 < _
            exact Nat.succ_pos _
          · rename_i h9
            show (((((c - 1) / w - 1) / w : Nat) : Int)).toNat + 1 < ((((c - 1) / w : Nat) : Int)).toNat + 1
            rw [Int.toNat_natCast, Int.toNat_natCast]
            exact Nat.succ_lt_succ (Nat.lt_of_le_of_lt (Nat.div_le_self _ _) (Nat.sub_lt (Nat.pos_of_ne_zero h9) Nat.one_pos))
    · rintro σ' H1 Q1 Q2 mono ⟨v, hv, e1, b1, e2, z⟩
      exact ⟨v, hv, e1, b1, e2, mono _ _ z⟩
def spDep (C : Addr) : Sp := fun vs H Q _ => ∃ (p n w i : Nat), vs = [.ref p, .int i] ∧ TreeAt C H p n w ∧ i < n ∧ ∀ H', Same H H' → Q (.int (((wayL w i).length : Int) - 1)) H'
theorem ok_dep (T : Tx K mg A) : FnOk P w K mg base CX0 6 A.f_t_depth A.d_t_depth ["self", "place"] (spDep A.C) := by
  refine T.F_t_depth.ok sc_t_depth (fun vs H Q E h => ?_) (fun cdv B outer s H vs Q E hr h => ?_)
  · obtain ⟨p, n, w, i, rfl, _⟩ := h
    rfl
  · obtain ⟨p, n, w, i, rfl, t, hi, q⟩ := h
    obtain ⟨dx, l, h1, h2⟩ := t.ob
    have noW : (tf n w l).lookup ("way_to" : Str) = none := tf_no _ _ _ (by decide +kernel) (by decide +kernel) (by decide +kernel)
    refine ⟨_, pss_one (ps_ret (pe_op op_sub (pe_callB call_len_seq (by rfl) T.g_len PySem.boot_len (pa_cons (pe_meth (pv 0) T.cT T.M_t_way_to (ok_way T) hr (b_way T) .nil pass0 (pa_cons (pv 1) pa_nil)) pa_nil)) pe_int)), ?_⟩
    refine ⟨_, rfl, p, dx, _, rfl, h1, noW, _, rfl, p, n, w, i, rfl, t, hi, fun H1 r s1 r0 hr1 => ?_⟩
    refine ⟨r, _, rfl, .inr (SqT.of hr1), _, _, rfl, rfl, ?_⟩
    rw [vi_len]
    exact q _ s1
def spWd (K : PySem.W.Frag) (C : Addr) : Sp := fun vs H Q _ => ∃ (x n w p e : Nat), vs = [.ref x, .int p, .int e] ∧ TreeAt C H x n w ∧ p < n ∧ e < n ∧ ∀ (H' : Hp) (q : Addr), Same H H' → SqT K H' q (vi (pathL w p e)) → Q (.ref q) H'
theorem ok_wd (T : Tx K mg A) : FnOk P w K mg base CX0 7 A.f_way_down A.d_way_down ["tree", "place", "stop"] (spWd K A.C) := by
  refine T.F_way_down.ok sc_way_down (fun vs H Q E h => ?_) (fun cdv B outer s H vs Q E hr h => ?_)
  · obtain ⟨x, n, w, p, e, rfl, _⟩ := h
    rfl
  · obtain ⟨x, n, w, p, e, rfl, t, hp, he, q⟩ := h
    obtain ⟨dx, l, h1, h2⟩ := id t.ob
    have noW : (tf n w l).lookup ("way_to" : Str) = none := tf_no _ _ _ (by decide +kernel) (by decide +kernel) (by decide +kernel)
    have noD : (tf n w l).lookup ("depth" : Str) = none := tf_no _ _ _ (by decide +kernel) (by decide +kernel) (by decide +kernel)
    refine ⟨_, (pss_one (ps_ret (pe_slice (r := rSlS K) sl_tupS (pe_meth (pv 0) T.cT T.M_t_way_to (ok_way T) (hr.mono (by decide)) (b_way T) .nil pass0 (pa_cons (pv 2) pa_nil)) (po_some (pe_meth (pv 0) T.cT T.M_t_depth (ok_dep T) (hr.mono (by decide)) (b_dep T) .nil pass0 (pa_cons (pv 1) pa_nil))) po_none))), ?_⟩
    refine ⟨_, rfl, x, dx, _, rfl, h1, noW, _, rfl, x, n, w, e, rfl, t, he, fun H1 z s1 n1 e1 => ?_⟩
    refine ⟨_, rfl, x, dx, _, rfl, s1 _ _ h1, noD, _, rfl, x, n, w, p, rfl, t.same s1, hp, fun H2 s2 => ?_⟩
    refine ⟨_, rfl, z, _, rfl, SqT.of (s2 _ _ e1), fun u H3 s3 eu => q _ u (s1.trans (s2.trans s3)) ?_⟩
    have ew : ((wayL w p).length : Int) - 1 = (((wayL w p).length - 1 : Nat) : Int) := by
      have hw := t.hw
      have := t.hn
      obtain ⟨y, ey⟩ := way_end w p hw (by omega)
      rw [ey, List.length_append, List.length_singleton]
      omega
    rw [ew, cut_from] at eu
    unfold pathL
    have : vi ((wayL w e).drop ((wayL w p).length - 1)) = (vi (wayL w e)).drop ((wayL w p).length - 1) := by unfold vi; rw [List.map_drop]
    rw [this]
    exact eu
theorem b_wd (T : Tx K mg A) : L2.Binds K A.d_way_down ["tree", "place", "stop"] [] := T.F_way_down.binds fun _ _ _ _ _ _ us hl => match us, hl with | [_, _, _], _ => rfl
theorem undoP_len (w : Nat) (R : List Int) (z : Int × Int) : (undoP w R z).length = R.length := by
  unfold undoP
  rw [undo_len]
theorem fold_len (w : Nat) (R : List Int) : ∀ ps : List (Int × Int), (ps.foldr (fun x r => undoP w r x) R).length = R.length
  | [] => rfl
  | z :: ps => by rw [List.foldr_cons, undoP_len, fold_len w R ps]
theorem SqV.len {H : Hp} {a : Addr} {xs : List V} (h : SqV H a xs) : SqL K H a xs ∨ SqT K H a xs := h.elim (fun e => .inl (SqL.of e)) fun e => .inr (SqT.of e)
def StopP (n w : Nat) (z : Int × Int) : Prop := ∃ p e : Nat, z = ((p : Int), (e : Int)) ∧ p < n ∧ e < n ∧ p ∈ wayL w e
def spRw (C : Addr) : Sp := fun vs H Q _ => ∃ (a b x n w : Nat) (ms : List Int) (xs : List V) (ps : List (Int × Int)), vs = [.ref a, .ref b, .ref x] ∧ H a = some (.tup (ms.map V.int)) ∧ SqV H b xs ∧ PrsAt H xs ps ∧ TreeAt C H x n w ∧ ms.length = n ∧ (∀ z ∈ ps, StopP n w z) ∧ ps.length ≤ 12 ∧
  ∀ (H' : Hp) (t : Addr), Same H H' → H' t = some (.tup ((ps.foldr (fun x r => undoP w r x) ms).map V.int)) → Q (.ref t) H'
theorem ok_rw (T : Tx K mg A) : FnOk P w K mg base CX0 8 A.f_row_with A.d_row_with ["heap", "stops", "tree"] (spRw A.C) := by
  refine T.F_row_with.ok sc_row_with (fun vs H Q E h => ?_) (fun cdv B outer s H vs Q E hr h => ?_)
  · obtain ⟨a, b, x, n, w, ms, xs, ps, rfl, _⟩ := h
    rfl
  · obtain ⟨a, b, x, n, w, ms, xs, ps, rfl, ha, hb, hps, t, hl, hst, hpl, q⟩ := h
    have nd := sc_row_with.nd
    have hn12 := t.hn
    have hw := t.hw
    have xl : xs.length = ps.length := Paired.length hps
    refine ⟨_, PSs.nox (C8.pss_cut (ps_set (i := 3) nd rfl (Or.inl rfl) (pe_callTy call_tuple_of (by rfl) T.g_tuple (by decide +kernel) (pa_cons (pv 0) pa_nil)))
      (C8.pss_cut (ps_for PassesOwn.never rfl (pi_reversed (by rfl) T.g_reversed (pa_cons (pe_callTy call_list_of (by rfl) T.g_list (by decide +kernel) (pa_cons (pv 1) pa_nil)) pa_nil)) (pg_tup rfl (pgs_cons (pg_name (i := 4) nd rfl (Or.inl rfl)) (pgs_cons (pg_name (i := 5) nd rfl (Or.inl rfl)) pgs_nil))) (pss_one (ps_set (i := 3) nd rfl (Or.inl rfl) (pe_call (ok_rb T) (hr.mono (by decide)) (by rfl) T.m_row_before T.F_row_before.kp (b_rb T) .nil pass0 (pa_cons (pv 3) (pa_cons (pe_call (ok_wd T) (hr.mono (by decide)) (by rfl) T.m_way_down T.F_way_down.kp (b_wd T) .nil pass0 (pa_cons (pv 2) (pa_cons (pv 4) (pa_cons (pv 5) pa_nil)))) pa_nil))))))
      (pss_one (ps_ret (pv 3))))), ?_⟩
    refine ⟨fun σ' H' => σ' = [some (.ref a), some (.ref b), some (.ref x), some (.ref a), none, none] ∧ Same H H', ?_, ?_⟩
    · exact ⟨_, rfl, a, _, rfl, .inr ⟨SqT.of ha, rfl, Same.refl _⟩⟩
    rintro σ' H1 ⟨rfl, s1⟩
    refine ⟨fun σ' H' => ∃ (r : Addr) (x4 x5 : Option V), σ' = [some (.ref a), some (.ref b), some (.ref x), some (.ref r), x4, x5] ∧ Same H H' ∧ H' r = some (.tup ((ps.foldr (fun x r => undoP w r x) ms).map V.int)), ?_, ?_⟩
    · refine ⟨_, rfl, b, _, rfl, (hb.same s1).len, fun D nD => ?_⟩
      have s2 := s1.trans (Same.up (o := .lst xs) nD)
      have eD : upd H1 D (.lst xs) D = some (.lst xs) := upd_same
      generalize upd H1 D (.lst xs) = H2 at s2 eD
      refine ⟨D, _, rfl, SqL.of eD, RT.for_Itv (fun i σ' H' => ∃ (r : Addr) (x4 x5 : Option V), σ' = [some (.ref a), some (.ref b), some (.ref x), some (.ref r), x4, x5] ∧ Same H2 H' ∧ H' r = some (.tup (((ps.drop (ps.length - i)).foldr (fun x r => undoP w r x) ms).map V.int)) ∧ i ≤ ps.length)
        ⟨a, none, none, rfl, Same.refl _, by rw [Nat.sub_zero, List.drop_length]; exact s2 _ _ ha, Nat.zero_le _⟩ (fun i σ' H' ⟨_, _, _, _, h, _⟩ => SqL.of (h _ _ eD)) ?_ ?_⟩
      · rintro i y σ' H3 hi hx ⟨r, x4, x5, rfl, s3, er, hi2⟩
        rw [xl] at hi hx
        obtain ⟨z, hz, hpr⟩ := prs_get (hps.same (s2.trans s3)) hx
        obtain ⟨u, rfl, eu⟩ := hpr
        have hj : ps.length - 1 - i < ps.length := by omega
        have ez : z = ps[ps.length - 1 - i] := by rw [List.getElem?_eq_getElem hj] at hz; exact (Option.some.inj hz).symm
        obtain ⟨p, e, epe, hp, he, hmem⟩ := hst z (ez ▸ List.getElem_mem hj)
        have ed : ps.drop (ps.length - (i + 1)) = z :: ps.drop (ps.length - i) := by
          rw [show ps.length - (i + 1) = ps.length - 1 - i by omega, List.drop_eq_getElem_cons hj, ← ez, show ps.length - 1 - i + 1 = ps.length - i by omega]
        rw [ed, List.foldr_cons]
        have hrl := fold_len w ms (ps.drop (ps.length - i))
        generalize (ps.drop (ps.length - i)).foldr (fun x r => undoP w r x) ms = R at er hrl ⊢
        subst epe
        obtain ⟨l, d1, d2⟩ := of_sub hw hn12 e e p (Nat.le_refl _) he hmem
        have epth := path_down hw hn12 hp d1
        rw [d2] at epth
        refine ⟨_, _, rfl, SqT.of eu, rfl, _, _, rfl, _, _, rfl, rfl, ?_⟩
        refine ⟨_, rfl, _, rfl, _, rfl, _, rfl, x, n, w, p, e, rfl, t.same (s2.trans s3), hp, he, fun H4 v s4 ev => ?_⟩
        rw [epth] at ev
        refine ⟨r, v, p, n, w, R, l, rfl, s4 _ _ er, ev, by rw [hrl, hl], hn12, hw.1, hp, d1, fun H5 t5 s5 e5 => ?_⟩
        refine ⟨t5, _, _, rfl, s3.trans (s4.trans s5), ?_, by omega⟩
        unfold undoP
        rw [Int.toNat_natCast, Int.toNat_natCast, epth]
        exact e5
      · rintro σ' H3 ⟨r, x4, x5, rfl, s3, er, _⟩
        rw [xl, Nat.sub_self, List.drop_zero] at er
        exact ⟨r, _, _, rfl, s2.trans s3, er⟩
    · rintro σ' H2 ⟨r, x4, x5, rfl, s2, er⟩
      exact ⟨_, rfl, q H2 r s2 er⟩
theorem b_rw (T : Tx K mg A) : L2.Binds K A.d_row_with ["heap", "stops", "tree"] [] := T.F_row_with.binds fun _ _ _ _ _ _ us hl => match us, hl with | [_, _, _], _ => rfl
def plS (n w : Nat) : Nat → List Nat
  | 0 => []
  | i + 1 => if kidL n w (n - 1 - i) = [] then plS n w i else plS n w i ++ [n - 1 - i]
theorem plS_len (n w : Nat) : ∀ i, (plS n w i).length ≤ i
  | 0 => Nat.le_refl _
  | i + 1 => by
    have := plS_len n w i
    unfold plS
    split
    · omega
    · rw [List.length_append, List.length_singleton]
      omega
/-- the places of a subtree -/
def subL (n w i : Nat) : List Nat := (List.range n).filter fun j => decide (i ∈ wayL w j)
def StOk (n w : Nat) (f : Nat → Nat) : Prop := ∀ p, p < n → kidL n w p ≠ [] → f p ∈ subL n w p
theorem plS_mem {n w : Nat} : ∀ i, i ≤ n → ∀ p ∈ plS n w i, p < n ∧ kidL n w p ≠ []
  | 0, _, p, h => nomatch h
  | i + 1, hi, p, h => by
    unfold plS at h
    split at h
    · exact plS_mem i (by omega) p h
    · rename_i h0
      rcases List.mem_append.mp h with h | h
      · exact plS_mem i (by omega) p h
      · rw [List.mem_singleton.mp h]
        exact ⟨by omega, h0⟩
theorem plS_succ (n w i : Nat) : plS n w (i + 1) = if kidL n w (n - 1 - i) = [] then plS n w i else plS n w i ++ [n - 1 - i] := rfl
theorem stp_pl (n w : Nat) (f : Nat → Nat) : ∀ i, stpL n w f i = (plS n w i).map fun (p : Nat) => ((p : Int), ((f p : Nat) : Int))
  | 0 => rfl
  | i + 1 => by
    rw [stp_succ, stp_pl n w f i, plS_succ]
    split
    · rfl
    · rw [List.map_append]
      rfl
theorem stp_stopP {n w : Nat} {f : Nat → Nat} (hf : StOk n w f) : ∀ z ∈ stpL n w f n, StopP n w z := fun z hz => by
  rw [stp_pl] at hz
  obtain ⟨p, hp, rfl⟩ := List.mem_map.mp hz
  obtain ⟨h1, h2⟩ := plS_mem n (Nat.le_refl _) p hp
  obtain ⟨h3, h4⟩ := List.mem_filter.mp (hf p h1 h2)
  exact ⟨p, f p, rfl, h1, List.mem_range.mp h3, of_decide_eq_true h4⟩
theorem stp_len (n w : Nat) (f : Nat → Nat) : (stpL n w f n).length = (plS n w n).length := by rw [stp_pl, List.length_map]
/-- truth, as a comprehension's test -/
def tTru (K : PySem.W.Frag) (ta : TE) : L2.TT := fun σ H Q => ta σ H fun x H' => ∃ k, TruV K x H' k ∧ Q k H'
theorem pt_tru {X : Cx} {a : Expr} {ta : TE} (h : PE X a ta) (hw : ∀ (whole : Sem Value), PySem.isTrue a X.env whole = do
          let v ← whole
          standAt a.pos
          holding [v] (truthy v)) : PT X a (tTru X.K ta) := pt_truth h hw
theorem pt_truK {X : Cx} {K : PySem.W.Frag} {a : Expr} {ta : TE} (hK : X.K = K) (h : PE X a ta) (hw : ∀ (whole : Sem Value), PySem.isTrue a X.env whole = do
          let v ← whole
          standAt a.pos
          holding [v] (truthy v)) : PT X a (tTru K ta) := hK ▸ pt_tru h hw
def spPst (C : Addr) : Sp := fun vs H Q _ => ∃ (x n w : Nat), vs = [.ref x] ∧ TreeAt C H x n w ∧ ∀ (H' : Hp) (q : Addr), Same H H' → H q = none → H' q = some (.lst (vi (plS n w n))) → Q (.ref q) H'
theorem ok_pst (T : Tx K mg A) : FnOk P w K mg base CX0 8 A.f_places_that_stop A.d_places_that_stop ["tree"] (spPst A.C) := by
  refine T.F_places_that_stop.ok sc_places_that_stop (fun vs H Q E h => ?_) (fun cdv B outer s H vs Q E hr h => ?_)
  · obtain ⟨x, n, w, rfl, _⟩ := h
    rfl
  · obtain ⟨x, n, w, rfl, t, q⟩ := h
    have nd := sc_places_that_stop.nd
    obtain ⟨dx, l, h1, h2⟩ := id t.ob
    have hw := t.hw
    have hn := t.hn
    refine ⟨_, (pss_one (ps_ret (pe_lc (own := [("place", 1)]) (g := gName 1) rfl nd (pi_reversed (by rfl) T.g_reversed (pa_cons (pe_callTy (call_listO T.D_t___iter__ (ok_iter T) (b_iter T) T.D_t___len__ (ok_len T) (b_len T) (hr.mono (by decide))) (by rfl) T.g_list (by decide +kernel) (pa_cons (pv 0) pa_nil)) pa_nil)) (blkOk_by (own := [("place", 1)]) (N := ["tree", "place"]) (sc := (defScope s_places_that_stop)) (by decide +kernel)) (fun _ _ _ _ _ => pg_name (i := 1) nd rfl (Or.inl rfl)) (fun _ _ _ _ _ => pts_one (pt_truK (K := K) rfl (pe_gi T.D_t___getitem__ (ok_gi T) (hr.mono (by decide)) (b_gi T) pass0 (pv 0) (pv 1)) (fun _ => rfl))) (fun _ _ _ _ _ => (pv 1))))), ?_⟩
    refine ⟨_, rfl, x, dx, _, l, pl n, rfl, h1, tf_pl _ _ _, SqT.of h2, by rw [pl_len]; omega, ⟨x, n, w, rfl, t, n, rfl, by omega, rfl⟩, fun c nc => ?_⟩
    have s1 := Same.up (o := .lst (pl n)) nc
    have ec : upd H c (.lst (pl n)) c = some (.lst (pl n)) := upd_same
    generalize upd H c (.lst (pl n)) = H1 at s1 ec
    refine ⟨c, _, rfl, SqL.of ec, fun D nD => ?_⟩
    refine lc_it (walk_rev (xs := pl n)) (fun i H' => Acc H1 D (vi (plS n w i)) H') (Acc.start nD) (fun i H' _ ac => SqL.of (ac.s _ _ ec)) ?_ ?_
    · rintro i y H2o H2 hi ac ⟨rfl, hy⟩
      rw [pl_len] at hi hy
      obtain ⟨_, rfl⟩ := pl_at hy
      have hpn : n - 1 - i < n := by omega
      have t2 := (t.same s1).same ac.s
      have h12 := ac.s _ _ (s1 _ _ h1)
      refine ⟨rfl, _, rfl, _, rfl, x, dx, _, rfl, h12, x, n, w, n - 1 - i, rfl, t2, hpn, fun H5 ch s5 hch => ?_⟩
      rw [kids_eq, kids_same n (by omega) w (by omega) (n - 1 - i) hpn hw.1] at hch
      refine ⟨!(vi (kidL n w (n - 1 - i))).isEmpty, .inr (.inl ⟨_, SqT.of hch, rfl⟩), ?_⟩
      have ac5 := ac.same s5
      by_cases h0 : kidL n w (n - 1 - i) = []
      · rw [h0]
        refine iteF ?_
        rw [plS_succ, if_pos h0]
        exact ac5
      · have e0 : (!(vi (kidL n w (n - 1 - i))).isEmpty) = true := by
          cases e : kidL n w (n - 1 - i) with
          | nil => exact absurd e h0
          | cons a b => rfl
        rw [e0]
        have hpl := plS_len n w i
        refine iteT ⟨_, rfl, _, ac5.a, by rw [vi_len, sizeLine_eq]; omega, ?_⟩
        rw [plS_succ, if_neg h0, vi_app]
        exact ac5.push
    · intro H2 ac
      rw [pl_len] at ac
      exact q _ D (s1.trans ac.s) (s1.free nD) ac.a
theorem b_pst (T : Tx K mg A) : L2.Binds K A.d_places_that_stop ["tree"] [] := T.F_places_that_stop.binds fun _ _ _ _ _ _ us hl => match us, hl with | [_], _ => rfl
theorem b_cont (T : Tx K mg A) : L2.Binds K A.d_t___contains__ ["self", "thing"] [] := T.F_t___contains__.binds fun _ _ _ _ _ _ us hl => match us, hl with | [_, _], _ => rfl
theorem b_sub (T : Tx K mg A) : L2.Binds K A.d_t_subtree ["self", "place"] [] := T.F_t_subtree.binds fun _ _ _ _ _ _ us hl => match us, hl with | [_, _], _ => rfl
/-- thing in tree -/
def spCont (K : PySem.W.Frag) (C : Addr) : Sp := fun vs H Q _ => ∃ (p n w : Nat) (x : V), vs = [.ref p, x] ∧ TreeAt C H p n w ∧
  ((∃ i : Int, x = .int i ∧ Q (.bl (decide (0 ≤ i ∧ i ≤ (n : Int) - 1))) H) ∨ (∃ c b1 b2, TyX K H x (.type c) ∧ kitB c "int" = some b1 ∧ kitB c "bool" = some b2 ∧ (b1 && !b2) = false ∧ Q (.bl false) H))
theorem ok_cont (T : Tx K mg A) : FnOk P w K mg base CX0 3 A.f_t___contains__ A.d_t___contains__ ["self", "thing"] (spCont K A.C) := by
  refine T.F_t___contains__.ok sc_t___contains__ (fun vs H Q E h => ?_) (fun cdv B outer s H vs Q E hr h => ?_)
  · obtain ⟨p, n, w, x, rfl, _⟩ := h
    rfl
  · obtain ⟨p, n, w, x, rfl, t, q⟩ := h
    obtain ⟨dx, l, h1, h2⟩ := t.ob
    refine ⟨_, pss_one (ps_ret (pe_call (ok_ii T) hr (by rfl) T.m_is_integer_from T.F_is_integer_from.kp (b_ii T) .nil pass0 (pa_cons (pv 1) (pa_cons pe_int (pa_cons (pe_op op_sub (pe_fld (pv 0) rfl) pe_int) pa_nil))))), ?_⟩
    exact ⟨_, rfl, _, rfl, p, A.C, dx, _, _, rfl, h1, T.cT, T.nMany, tf_many _ _ _, _, _, rfl, rfl, _, _, _, rfl, q⟩
theorem mem_vi (i : Nat) (l : List Nat) : inV (V.int (i : Nat)) (vi l) = decide (i ∈ l) := by
  have key : ∀ j : Nat, eqV (V.int (j : Nat)) (V.int (i : Nat)) = decide (j = i) := fun j => by
    show ((j : Int) == (i : Int)) = decide (j = i)
    by_cases h : j = i
    · rw [h, decide_eq_true rfl, beq_self_eq_true]
    · rw [decide_eq_false h]
      exact beq_eq_false_iff_ne.mpr (by omega)
  unfold inV vi
  induction l with
  | nil => rfl
  | cons a l ih =>
    rw [List.map_cons, List.any_cons, ih, key]
    by_cases h : a = i
    · simp [h]
    · simp [h, Ne.symm h]
theorem vi_flat (l : List Nat) : (vi l).all flatV = true := by
  unfold vi
  rw [List.all_map]
  exact List.all_eq_true.mpr fun _ _ => rfl
theorem sub_pick (n w i : Nat) : vi (subL n w i) = (List.range n).filterMap fun j => if i ∈ wayL w j then some (V.int (j : Nat)) else none := by
  unfold vi subL
  induction List.range n with
  | nil => rfl
  | cons a l ih =>
    by_cases h : i ∈ wayL w a
    · rw [List.filter_cons_of_pos (by simp [h]), List.map_cons, ih, List.filterMap_cons, if_pos h]
    · rw [List.filter_cons_of_neg (by simp [h]), ih, List.filterMap_cons, if_neg h]
def spSub (C : Addr) : Sp := fun vs H Q _ => ∃ (p n w i : Nat), vs = [.ref p, .int i] ∧ TreeAt C H p n w ∧ i < n ∧ ∀ H' q, Same H H' → H q = none → H' q = some (.tup (vi (subL n w i))) → Q (.ref q) H'
theorem ok_sub (T : Tx K mg A) : FnOk P w K mg base CX0 6 A.f_t_subtree A.d_t_subtree ["self", "place"] (spSub A.C) := by
  refine T.F_t_subtree.ok sc_t_subtree (fun vs H Q E h => ?_) (fun cdv B outer s H vs Q E hr h => ?_)
  · obtain ⟨p, n, w, i, rfl, _⟩ := h
    rfl
  · obtain ⟨p, n, w, i, rfl, t, hi, q⟩ := h
    obtain ⟨dx, l, h1, h2⟩ := t.ob
    have noW : (tf n w l).lookup ("way_to" : Str) = none := tf_no _ _ _ (by decide +kernel) (by decide +kernel) (by decide +kernel)
    refine ⟨_, pss_cons (ps_expr (pe_call (ok_cp T) (hr.mono (by decide)) (by rfl) T.m_check_place T.F_check_place.kp (b_cp T) .nil pass0 (pa_cons (pv 1) (pa_cons (pe_fld (pv 0) rfl) pa_nil))))
      (pss_one (ps_ret (pe_callTy call_tuple_of (by rfl) T.g_tuple (by decide +kernel) (pa_cons
        (pe_lc (own := [("below", 2)]) (g := gName 2) rfl sc_t_subtree.nd (pi_tup (pe_fld (pv 0) rfl)) (blkOk_by (own := [("below", 2)]) (N := ["self", "place", "below"]) (sc := defScope s_t_subtree) (by decide +kernel)) (fun _ _ _ _ _ => pg_name (i := 2) sc_t_subtree.nd rfl (Or.inl rfl))
          (fun _ _ _ _ _ => pts_one (pt_cmpR (r := L2.rIn K false) op_in_seq (pv 1) (pe_meth (pv 0) T.cT T.M_t_way_to (ok_way T) hr (b_way T) .nil pass0 (pa_cons (pv 2) pa_nil)) (by rfl))) (fun _ _ _ _ _ => pv 2)) pa_nil)))), ?_⟩
    refine ⟨_, rfl, _, rfl, p, A.C, dx, _, _, rfl, h1, T.cT, T.nMany, tf_many _ _ _, _, _, rfl, ⟨by omega, by omega⟩, ?_⟩
    refine ⟨_, rfl, p, A.C, dx, _, _, rfl, h1, T.cT, T.nPl, tf_pl _ _ _, l, rfl, ⟨_, SqT.of h2⟩, fun D hD => ?_⟩
    refine lc_it (walk_tup (xs := pl n)) (PickI H D (List.range n) fun j => if i ∈ wayL w j then some (V.int (j : Nat)) else none) (pick_start hD) (fun k H' _ h => SqT.of (h.s _ _ h2)) ?_ ?_
    · rintro k x H2 H3 hk pk ⟨rfl, ex⟩
      obtain ⟨hk', rfl⟩ := map_at ex
      rw [List.getElem_range]
      rw [List.length_range] at hk'
      refine ⟨rfl, _, rfl, _, rfl, p, dx, _, rfl, pk.s _ _ h1, noW, _, rfl, p, n, w, k, rfl, t.same pk.s, hk', fun H4 r s4 r0 hr4 => ?_⟩
      refine ⟨r, _, rfl, .inr (SqT.of hr4), rfl, vi_flat _, _, rfl, ?_⟩
      show if (inV (V.int (i : Nat)) (vi (wayL w k))) = true then _ else _
      rw [mem_vi]
      by_cases hm : i ∈ wayL w k
      · rw [decide_eq_true hm]
        exact iteT ⟨_, rfl, pick_yes (by rw [List.length_range]; exact hk') (by rw [List.length_range]; have := t.hn; omega) (by rw [List.getElem_range, if_pos hm]) s4 pk⟩
      · rw [decide_eq_false hm]
        exact iteF (pick_no (by rw [List.length_range]; exact hk') (by rw [List.getElem_range, if_neg hm]) s4 pk)
    · intro H2 pk
      have ac := pick_end (by rw [pl_len, List.length_range]) pk
      refine ⟨D, _, rfl, .inl ⟨SqL.of ac.a, fun r hr0 => q _ r (ac.s.trans (Same.up hr0)) (ac.s.free hr0) ?_⟩⟩
      rw [upd_same, ← sub_pick]
def spIst (C : Addr) : Sp := fun vs H Q _ => ∃ (t p e x n w : Nat), vs = [.ref t, .int p, .ref x] ∧ H t = some (.tup [.int p, .int e]) ∧ TreeAt C H x n w ∧ p < n ∧ e < n ∧ p ∈ wayL w e ∧ ∀ H' : Hp, Same H H' → Q (.bl true) H'
theorem ok_ist (T : Tx K mg A) : FnOk P w K mg base CX0 7 A.f_is_stop A.d_is_stop ["thing", "place", "tree"] (spIst A.C) := by
  refine T.F_is_stop.ok sc_is_stop (fun vs H Q E h => ?_) (fun cdv B outer s H vs Q E hr h => ?_)
  · obtain ⟨t, p, e, x, n, w, rfl, _⟩ := h
    rfl
  · obtain ⟨u, p, e, x, n, w, rfl, hu2, t, hp, he, hm, q⟩ := h
    have nd := sc_is_stop.nd
    obtain ⟨dx, l, h1, h2⟩ := id t.ob
    have noW : (tf n w l).lookup ("subtree" : Str) = none := tf_no _ _ _ (by decide +kernel) (by decide +kernel) (by decide +kernel)
    refine ⟨_, (pss_cons (ps_if (PW.pt (pw_or (pt_not (pt_val (pe_callB call_isi (by rfl) T.g_isinstance (by decide +kernel) (pa_cons (pv 0) (pa_cons (pe_bltn (v := .ty "tuple") (by rfl) T.g_tuple (by decide +kernel) rfl) pa_nil))))) (pw_or1 (pt_cmpR op_ne (pe_callB call_len_seq (by rfl) T.g_len PySem.boot_len (pa_cons (pv 0) pa_nil)) pe_int (nomark _))))) (pss_one (ps_ret pe_bl)) pss_nil)
      (pss_cons (ps_asg (pv 0) (pg_tup rfl (pgs_cons (pg_name (i := 3) nd rfl (Or.inl rfl)) (pgs_cons (pg_name (i := 4) nd rfl (Or.inl rfl)) pgs_nil))))
      (pss_one (ps_ret (pe_and (pe_cmpR (op_in_own T.D_t___contains__ (ok_cont T) (hr.mono (by decide)) (b_cont T) pass0) (pv 3) (pv 2) (by rfl)) (pe_and (pe_cmpR op_eq (pv 3) (pv 1) (nomark _)) (pe_and (pe_cmpR (op_in_own T.D_t___contains__ (ok_cont T) (hr.mono (by decide)) (b_cont T) pass0) (pv 4) (pv 2) (by rfl)) (pe_one (pe_cmpR (r := L2.rIn K false) op_in_seq (pv 4) (pe_meth (pv 2) T.cT T.M_t_subtree (ok_sub T) (hr.mono (by decide)) (b_sub T) .nil pass0 (pa_cons (pv 1) pa_nil)) (by rfl)))))))))), ?_⟩
    refine ⟨_, rfl, _, _, .type "tuple", .type "tuple", true, rfl, .ty "tuple", .base (.tup hu2), kit_ty (by decide +kernel), true, rfl, iteF ?_⟩
    refine ⟨_, rfl, u, _, rfl, .inr (SqT.of hu2), ?_⟩
    refine ⟨rfl, _, rfl, iteF ?_⟩
    refine ⟨_, rfl, _, _, rfl, SqT.of hu2, rfl, _, _, rfl, _, _, rfl, rfl, ?_⟩
    have d1 : decide (0 ≤ ((p : Nat) : Int) ∧ ((p : Nat) : Int) ≤ (n : Int) - 1) = true := decide_eq_true (by omega)
    have d2 : decide (0 ≤ ((e : Nat) : Int) ∧ ((e : Nat) : Int) ≤ (n : Int) - 1) = true := decide_eq_true (by omega)
    refine ⟨_, rfl, _, rfl, x, dx, _, rfl, h1, x, n, w, _, rfl, t, .inl ⟨_, rfl, _, rfl, _, rfl, ?_⟩⟩
    rw [if_neg Bool.false_ne_true, d1]
    refine iteT ⟨_, rfl, _, rfl, rfl, _, rfl, ?_⟩
    rw [decide_eq_true rfl]
    refine iteT ⟨_, rfl, _, rfl, x, dx, _, rfl, h1, x, n, w, _, rfl, t, .inl ⟨_, rfl, _, rfl, _, rfl, ?_⟩⟩
    rw [if_neg Bool.false_ne_true, d2]
    refine iteT ⟨_, rfl, _, rfl, x, dx, _, rfl, h1, noW, _, rfl, x, n, w, p, rfl, t, hp, fun H1 z s1 n1 e1 => ?_⟩
    refine ⟨z, _, rfl, .inr (SqT.of e1), rfl, vi_flat _, ?_⟩
    have he2 : decide (e ∈ subL n w p) = true := decide_eq_true (List.mem_filter.mpr ⟨List.mem_range.mpr he, decide_eq_true hm⟩)
    rw [if_neg Bool.false_ne_true, mem_vi, he2]
    exact q _ s1
end
end Tw

set_option Elab.async false
set_option linter.all false
set_option maxRecDepth 100000
set_option maxHeartbeats 2000000
namespace Tw
open PySem PySem.Spec PyProof.Rows L2
section
variable {P : Program} {w : World} {K : PySem.W.Frag} {mg : Str → Option Value} {base : Heap} {A : Ad}
open LamX (ExtN Tabs TabS)
theorem b_ist (T : Tx K mg A) : L2.Binds K A.d_is_stop ["thing", "place", "tree"] [] := T.F_is_stop.binds fun _ _ _ _ _ _ us hl => match us, hl with | [_, _, _], _ => rfl
theorem ix_v {H : Hp} {a : Addr} {xs : List V} {i : Int} {v : V} {Q : VK} (h : SqV H a xs) (e : atI xs i = some v) (q : Q v H) : rIx K (.ref a) (.int i) H Q :=
  h.elim (fun z => .inl ⟨a, _, i, v, rfl, rfl, SqL.of z, e, q⟩) (fun z => .inr (.inl ⟨a, _, i, v, rfl, rfl, SqT.of z, e, q⟩))
theorem isi_lt {H : Hp} {a : Addr} {xs : List V} (h : SqV H a xs) : ∃ c b1, TyX K H (.ref a) (.type c) ∧ PySem.W.kitOne K (.type c) (.type "list") = some b1 ∧ (b1 = false → PySem.W.kitOne K (.type c) (.type "tuple") = some true) := by
  rcases h with h | h
  · exact ⟨"list", true, .base (.lst h), kit_ty (by decide +kernel), fun z => by cases z⟩
  · exact ⟨"tuple", false, .base (.tup h), kit_ty (by decide +kernel), fun _ => kit_ty (by decide +kernel)⟩
def spCst (C : Addr) : Sp := fun vs H Q _ => ∃ (b x n w : Nat) (xs : List V) (f : Nat → Nat), vs = [.ref b, .ref x] ∧ TreeAt C H x n w ∧ SqV H b xs ∧ PrsAt H xs (stpL n w f n) ∧ StOk n w f ∧ ∀ H' : Hp, Same H H' → Q .non H'
theorem ok_cst (T : Tx K mg A) : FnOk P w K mg base CX0 9 A.f_check_stops A.d_check_stops ["stops", "tree"] (spCst A.C) := by
  refine T.F_check_stops.ok sc_check_stops (fun vs H Q E h => ?_) (fun cdv B outer s H vs Q E hr h => ?_)
  · obtain ⟨b, x, n, w, xs, f, rfl, _⟩ := h
    rfl
  · obtain ⟨b, x, n, w, xs, f, rfl, t, hb, hps, hf, q⟩ := h
    have nd := sc_check_stops.nd
    have xl : xs.length = (plS n w n).length := (Paired.length hps).trans (stp_len n w f)
    have hn := t.hn
    refine ⟨_, (pss_cons (ps_set (i := 2) nd rfl (Or.inl rfl) (pe_call (ok_pst T) (hr.mono (by decide)) (by rfl) T.m_places_that_stop T.F_places_that_stop.kp (b_pst T) .nil pass0 (pa_cons (pv 1) pa_nil)))
      (pss_cons (ps_if (PW.pt (pw_or (pt_not (pt_val (pe_callB call_isiT (by rfl) T.g_isinstance (by decide +kernel) (pa_cons (pv 0) (pa_cons (pe_tup (pa_cons (pe_bltn (v := .ty "list") (by rfl) T.g_list (by decide +kernel) rfl) (pa_cons (pe_bltn (v := .ty "tuple") (by rfl) T.g_tuple (by decide +kernel) rfl) pa_nil))) pa_nil))))) (pw_or1 (pt_cmpR op_ne (pe_callB call_len_seq (by rfl) T.g_len PySem.boot_len (pa_cons (pv 0) pa_nil)) (pe_callB call_len_seq (by rfl) T.g_len PySem.boot_len (pa_cons (pv 2) pa_nil)) (nomark _))))) (pss_one ps_never) pss_nil)
      (pss_one (ps_for PassesOwn.never rfl (pi_enum (by rfl) T.g_enumerate (pa_cons (pv 2) pa_nil)) (pg_tup rfl (pgs_cons (pg_name (i := 3) nd rfl (Or.inl rfl)) (pgs_cons (pg_name (i := 4) nd rfl (Or.inl rfl)) pgs_nil))) (pss_one (ps_if (pt_not (pt_val (pe_call (ok_ist T) (hr.mono (by decide)) (by rfl) T.m_is_stop T.F_is_stop.kp (b_ist T) .nil pass0 (pa_cons (pe_ix (r := rIx K) ix_seq (pv 0) (pv 3) (fun _ _ => rfl)) (pa_cons (pv 4) (pa_cons (pv 1) pa_nil)))))) (pss_one ps_never) pss_nil)))))), ?_⟩
    refine ⟨_, rfl, x, n, w, rfl, t, fun H1 D s1 n1 e1 => ?_⟩
    refine ⟨_, rfl, by show 2 ≤ sizeLine; decide, fun tp htp => ?_⟩
    have s2 := s1.trans (Same.up (o := .tup [.ty "list", .ty "tuple"]) htp)
    have e2 := (Same.up (o := .tup [.ty "list", .ty "tuple"]) htp) _ _ e1
    have etp := upd_same (H := H1) (a := tp) (o := .tup [.ty "list", .ty "tuple"])
    generalize upd H1 tp (.tup [.ty "list", .ty "tuple"]) = H2 at s2 e2 etp
    obtain ⟨c, b1, ty, k1, k2⟩ := isi_lt (K := K) (hb.same s2)
    refine ⟨_, tp, _, .type c, [.type "list", .type "tuple"], true, rfl, etp, .cons (.ty _) (.cons (.ty _) .nil), ty, kitAny_cons k1 (fun z => kitAny_cons (k2 z) (fun z => by cases z) (fun _ => rfl)) (fun _ => rfl), true, rfl, ?_⟩
    refine iteF ⟨_, rfl, b, _, rfl, (hb.same s2).len, _, rfl, D, _, rfl, .inl (SqL.of e2), rfl, _, rfl, ?_⟩
    rw [vi_len, xl, decide_eq_true rfl]
    refine iteF ⟨_, rfl, D, _, rfl, SqL.of e2, for_it (walk_enum (xs := vi (plS n w n))) (fun i σ' H' => (∃ x3 x4 : Option V, σ' = [some (.ref b), some (.ref x), some (.ref D), x3, x4]) ∧ Same H2 H') ⟨⟨none, none, rfl⟩, Same.refl _⟩ (fun i σ' H' _ h => SqL.of (h.2 _ _ e2)) ?_ ?_⟩
    · rintro i v σ' H3 H4 hi ⟨⟨x3, x4, rfl⟩, s3⟩ ⟨T', y, y2, rfl, hT, rfl, e3, e4⟩
      cases e3
      have hi2 : i < (plS n w n).length := by rw [vi_len] at hi; exact hi
      have e4 : (vi (plS n w n))[i]? = some y2 := e4
      unfold vi at e4
      rw [List.getElem?_map, List.getElem?_eq_getElem hi2] at e4
      cases e4
      refine ⟨_, _, rfl, SqT.of upd_same, rfl, _, _, rfl, _, _, rfl, rfl, ?_⟩
      have s4 := s2.trans (s3.trans (Same.up (o := .tup [V.int (i : Nat), V.int ((plS n w n)[i] : Nat)]) hT))
      have s5 := s3.trans (Same.up (o := .tup [V.int (i : Nat), V.int ((plS n w n)[i] : Nat)]) hT)
      generalize upd H3 T' (.tup [V.int (i : Nat), V.int ((plS n w n)[i] : Nat)]) = G at s4 s5
      have hx : xs[i]? = some xs[i] := List.getElem?_eq_getElem (by omega)
      obtain ⟨z, hz, u, eu, hu⟩ := prs_get (hps.same s4) hx
      rw [stp_pl, List.getElem?_map, List.getElem?_eq_getElem hi2] at hz
      cases hz
      obtain ⟨h1, h2⟩ := plS_mem n (Nat.le_refl _) _ (List.getElem_mem hi2)
      obtain ⟨h3, h4⟩ := List.mem_filter.mp (hf _ h1 h2)
      refine ⟨_, rfl, _, rfl, ix_v (hb.same s4) (by rw [atI_nat hx]) ?_⟩
      rw [eu]
      refine ⟨_, rfl, _, rfl, u, _, _, x, n, w, rfl, hu, t.same s4, h1, List.mem_range.mp h3, of_decide_eq_true h4, fun H5 s6 => ?_⟩
      exact ⟨_, rfl, iteF ⟨⟨_, _, rfl⟩, s5.trans s6⟩⟩
    · rintro σ' H3 ⟨⟨x3, x4, rfl⟩, s3⟩
      exact q _ (s2.trans s3)
theorem b_cst (T : Tx K mg A) : L2.Binds K A.d_check_stops ["stops", "tree"] [] := T.F_check_stops.binds fun _ _ _ _ _ _ us hl => match us, hl with | [_, _], _ => rfl
def spDec : Sp := fun vs H Q _ => ∃ (r b w : Nat) (ms : List Int) (xs : List V) (f : Nat → Nat), vs = [.ref r, .ref b, .int w] ∧ (1 ≤ w ∧ w ≤ 4) ∧ RowIn H r ms ∧ faultL ms w = [] ∧ ms.Nodup ∧ SqV H b xs ∧ PrsAt H xs (stpL ms.length w f ms.length) ∧ StOk ms.length w f ∧
  ∀ (H' : Hp) (t : Addr), Same H H' → H' t = some (.tup ((backL ms.length w f ms ms.length).map V.int)) → Q (.ref t) H'
theorem ok_dec (T : Tx K mg A) : FnOk P w K mg base CX0 10 A.f_decode A.d_decode ["row", "stops", "arms"] spDec := by
  obtain ⟨mo, ko⟩ := kb_of T
  refine T.F_decode.ok sc_decode (fun vs H Q E h => ?_) (fun cdv B outer s H vs Q E hr h => ?_)
  · obtain ⟨r, b, w, ms, xs, f, rfl, _⟩ := h
    rfl
  · obtain ⟨r, b, w, ms, xs, f, rfl, hw, hrow, hfl, hd, hb, hps, hf, q⟩ := h
    have nd := sc_decode.nd
    refine ⟨_, PSs.nox (pss_cons (ps_set (i := 3) nd rfl (Or.inl rfl) (pe_call (ok_dh T) (hr.mono (by decide)) (by rfl) T.m_different_heap_of T.F_different_heap_of.kp (b_dh T) .nil pass0 (pa_cons (pv 0) (pa_cons (pv 2) pa_nil))))
      (pss_cons (ps_set (i := 4) nd rfl (Or.inl rfl) (pe_cmethK (pe_glob (v := .ref A.C) (by rfl) T.mC (relR _)) T.cr T.cof (ok_of T) (hr.mono (by decide)) ko pass0 (pa_cons (pv 3) pa_nil) (pk_cons (pv 2) pk_nil)))
      (pss_cons (ps_expr (pe_call (ok_cst T) (hr.mono (by decide)) (by rfl) T.m_check_stops T.F_check_stops.kp (b_cst T) .nil pass0 (pa_cons (pv 1) (pa_cons (pv 4) pa_nil))))
      (pss_one (ps_ret (pe_call (ok_rw T) (hr.mono (by decide)) (by rfl) T.m_row_with T.F_row_with.kp (b_rw T) .nil pass0 (pa_cons (pv 3) (pa_cons (pv 1) (pa_cons (pv 4) pa_nil))))))))), ?_⟩
    refine ⟨_, rfl, _, rfl, r, w, ms, rfl, hw, hrow, hfl, hd, fun H1 h s1 e1 => ?_⟩
    refine ⟨rfl, _, rfl, _, rfl, rfl, rfl, h, w, ms, rfl, hw, .inr e1, hrow.2.1, hrow.2.2, fun H2 tr s2 p0 t2 => ?_⟩
    have s12 := s1.trans s2
    refine ⟨_, rfl, _, rfl, b, tr, ms.length, w, xs, f, rfl, t2, hb.same s12, hps.same s12, hf, fun H3 s3 => ?_⟩
    have s13 := s12.trans s3
    refine ⟨_, rfl, _, rfl, _, rfl, h, b, tr, ms.length, w, ms, xs, _, rfl, s3 _ _ (s2 _ _ e1), hb.same s13, hps.same s13, t2.same s3, rfl, stp_stopP hf, ?_, fun H4 t s4 e4 => q H4 t (s13.trans s4) ?_⟩
    · have := plS_len ms.length w ms.length
      rw [stp_len]
      have := hrow.2.1
      omega
    · have e := back_stp (n := ms.length) (w := w) (f := f) (R := ms) ms.length (Nat.le_refl _)
      rw [Nat.sub_self] at e
      have e : (stpL ms.length w f ms.length).foldr (fun x r => undoP w r x) ms = backL ms.length w f ms ms.length := e
      rw [← e]
      exact e4
def spHwr : Sp := fun vs H Q _ => ∃ (r w : Nat) (ks : List Int), vs = [.ref r, .int w] ∧ (1 ≤ w ∧ w ≤ 4) ∧ RowIn H r ks ∧ faultL ks w = [] ∧ ks.Nodup ∧ ks.length < 12 ∧ ∀ H' q, Same H H' → H' q = some (.tup (ks.map V.int)) → Q (.ref q) H'
theorem ok_hwr (T : Tx K mg A) : FnOk P w K mg base CX0 10 A.f_heap_with_room A.d_heap_with_room ["row", "arms"] spHwr := by
  refine T.F_heap_with_room.ok sc_heap_with_room (fun vs H Q E h => ?_) (fun cdv B outer s H vs Q E hr h => ?_)
  · obtain ⟨r, w, ks, rfl, _⟩ := h
    rfl
  · obtain ⟨r, w, ks, rfl, hw, hrow, hf, hd, hl, q⟩ := h
    have nd := sc_heap_with_room.nd
    obtain ⟨t, hg⟩ := cst T.c_MOST_PLACES
    refine ⟨_, (pss_cons (ps_set (i := 2) nd rfl (Or.inl rfl) (pe_call (ok_dh T) (hr.mono (by decide)) (by rfl) T.m_different_heap_of T.F_different_heap_of.kp (b_dh T) .nil pass0 (pa_cons (pv 0) (pa_cons (pv 1) pa_nil))))
      (pss_cons (ps_if (pt_cmpR op_eq (pe_callB call_len_seq (by rfl) T.g_len PySem.boot_len (pa_cons (pv 2) pa_nil)) (pe_glob (by rfl) hg (relI _ _)) (nomark _)) (pss_one ps_never) pss_nil)
      (pss_one (ps_ret (pv 2))))), ?_⟩
    refine ⟨_, rfl, _, rfl, r, w, ks, rfl, hw, hrow, hf, hd, fun H1 h s1 e1 => ?_⟩
    refine ⟨_, rfl, h, _, rfl, .inr (SqT.of e1), rfl, _, rfl, ?_⟩
    rw [List.length_map, decide_eq_false (show ¬ V.int (ks.length : Nat) = V.int 12 from fun z => by injection z with z; omega)]
    exact iteF ⟨_, rfl, q _ h s1 e1⟩
def spIsH : Sp := fun vs H Q _ => ∃ (a w : Nat) (ns : List Int), vs = [.ref a, .int w] ∧ (1 ≤ w ∧ w ≤ 4) ∧ RowIn H a ns ∧ ∀ H', Same H H' → Q (.bl (decide (faultL ns w = []))) H'
theorem ok_ish (T : Tx K mg A) : FnOk P w K mg base CX0 8 A.f_is_heap A.d_is_heap ["row", "arms"] spIsH := by
  obtain ⟨mo, ko⟩ := kb_fau T
  refine T.F_is_heap.ok sc_is_heap (fun vs H Q E h => ?_) (fun cdv B outer s H vs Q E hr h => ?_)
  · obtain ⟨a, w, ns, rfl, _⟩ := h
    rfl
  · obtain ⟨a, w, ns, rfl, hw, hrow, q⟩ := h
    refine ⟨_, PSs.nox (pss_one (ps_ret (pe_notT (pe_callN (ok_fau T) hr (by rfl) T.m_faults T.F_faults.kp ko pass0 (pa_cons (pv 0) pa_nil) (pk_cons (pv 1) pk_nil))))), ?_⟩
    refine ⟨_, rfl, _, rfl, rfl, rfl, a, w, ns, rfl, hw, hrow, fun H1 r s1 r0 hr1 => ?_⟩
    refine ⟨!(vi (faultL ns w)).isEmpty, .inl ⟨_, SqL.of hr1, rfl⟩, ?_⟩
    have e : (!(!(vi (faultL ns w)).isEmpty)) = decide (faultL ns w = []) := by
      rw [Bool.not_not]
      unfold vi
      cases faultL ns w with
      | nil => rfl
      | cons x l => rfl
    rw [e]
    exact q _ s1
/-- what a heap and a place of its last way must be -/
structure PuOk (H : Hp) (r w : Nat) (ks : List Int) (place : Nat) : Prop where
  hw : 1 ≤ w ∧ w ≤ 4
  row : RowIn H r ks
  fl : faultL ks w = []
  nd : ks.Nodup
  h1 : 1 ≤ ks.length
  pl : place ∈ wayL w (ks.length - 1)
theorem b_cf (T : Tx K mg A) : L2.Binds K A.d_check_filled ["heap"] [] := T.F_check_filled.binds fun _ _ _ _ _ _ us hl => match us, hl with | [_], _ => rfl
theorem b_lw (T : Tx K mg A) : L2.Binds K A.d_last_way ["heap", "arms"] [] := T.F_last_way.binds fun _ _ _ _ _ _ us hl => match us, hl with | [_, _], _ => rfl
def spCf : Sp := fun vs H Q _ => ∃ (t : Nat) (xs : List V), vs = [.ref t] ∧ H t = some (.tup xs) ∧ xs ≠ [] ∧ Q .non H
theorem ok_cf (T : Tx K mg A) : FnOk P w K mg base CX0 2 A.f_check_filled A.d_check_filled ["heap"] spCf := by
  refine T.F_check_filled.ok sc_check_filled (fun vs H Q E h => ?_) (fun cdv B outer s H vs Q E hr h => ?_)
  · obtain ⟨t, xs, rfl, _⟩ := h
    rfl
  · obtain ⟨t, xs, rfl, ht, hn, q⟩ := h
    refine ⟨_, (pss_one (ps_if (pt_not (pt_truth (pv 0) (fun _ => rfl))) (pss_one ps_never) pss_nil)), ?_⟩
    refine ⟨_, rfl, !xs.isEmpty, .inr (.inl ⟨_, SqT.of ht, rfl⟩), ?_⟩
    cases xs with
    | nil => exact absurd rfl hn
    | cons a b => exact iteF q
def spWayF (C : Addr) : Sp := fun vs H Q _ => ∃ (p n w i : Nat), vs = [.ref p, .int i] ∧ TreeAt C H p n w ∧ i < n ∧ ∀ H' q, Same H H' → TupF H' q (vi (wayL w i)) → Q (.ref q) H'
theorem ok_wayF (T : Tx K mg A) : FnOk P w K mg base CX0 5 A.f_t_way_to A.d_t_way_to ["self", "place"] (spWayF A.C) := by
  refine T.F_t_way_to.ok sc_t_way_to (fun vs H Q E h => ?_) (fun cdv B outer s H vs Q E hr h => ?_)
  · obtain ⟨p, n, w, i, rfl, _⟩ := h
    rfl
  · obtain ⟨p, n, w, i, rfl, t, hi, q⟩ := h
    refine ⟨_, pss_cons (ps_set (i := 2) sc_t_way_to.nd rfl (Or.inl rfl) (pe_lst (pa_cons (pv 1) pa_nil)))
      (pss_cons (ps_set (i := 3) sc_t_way_to.nd rfl (Or.inl rfl) (pe_meth (pv 0) T.cT T.M_t_parent (ok_par T) hr (b_par T) .nil pass0 (pa_cons (pv 1) pa_nil)))
      (pss_cons (ps_while PassesOwn.never (pt_cmpR op_notN (pv 3) pe_non (nomark _))
        (pss_cons (ps_expr (pe_bm PySem.F.plainAttrs_list PySem.F.slot_list_append PySem.F.type_list_append mt_append (pv 2) (pa_cons (pv 3) pa_nil)))
        (pss_one (ps_set (i := 3) sc_t_way_to.nd rfl (Or.inl rfl) (pe_meth (pv 0) T.cT T.M_t_parent (ok_par T) hr (b_par T) .nil pass0 (pa_cons (pv 3) pa_nil))))))
      (pss_one (ps_ret (pe_callTy (r := rTupF K) call_tupF (by rfl) T.g_tuple (by decide +kernel) (pa_cons (pe_revL (pv 2)) pa_nil)))))), ?_⟩
    obtain ⟨dx, l, h1, h2⟩ := t.ob
    have noP : (tf n w l).lookup ("parent" : Str) = none := tf_no _ _ _ (by decide +kernel) (by decide +kernel) (by decide +kernel)
    refine ⟨_, rfl, by show 1 ≤ sizeLine; decide, fun d hd => ?_⟩
    have s1 : Same H (upd H d (.lst [V.int (i : Nat)])) := Same.up hd
    refine ⟨_, rfl, p, dx, _, rfl, s1 _ _ h1, noP, _, rfl, p, n, w, i, rfl, t.same s1, hi, ?_⟩
    refine while_by (fun σ H' => ∃ (c : Nat) (acc : List Nat), σ = [some (.ref p), some (.int i), some (.ref d), some (parV w c)] ∧ c < n ∧ Acc H d (vi (acc ++ [c])) H' ∧ acc ++ upL w c = upL w i ∧ acc.length ≤ 12)
      (fun σ _ => muV σ[3]?) ⟨i, [], rfl, hi, ⟨s1, hd, upd_same⟩, rfl, Nat.zero_le _⟩ ?_ ?_
    · rintro σ H' ⟨c, acc, rfl, hc, ac, ea, hl⟩
      have hn := t.hn
      have hw := t.hw
      have eu := up_eq w (by omega) c (by omega) hw.1
      refine ⟨_, rfl, rfl, _, rfl, ?_⟩
      by_cases h0 : c = 0
      · have ev : parV w c = V.non := by unfold parV; rw [if_pos h0]
        rw [ev, decide_eq_true (rfl : V.non = V.non)]
        refine iteF ?_
        rw [if_pos h0] at eu
        refine ⟨_, rfl, d, _, rfl, SqL.of ac.a, fun r hr0 => ⟨r, _, rfl, .inl ⟨SqL.of upd_same, fun u o hu ho => q _ u (ac.s.trans ((Same.up hr0).trans (Same.up hu))) ⟨o, ?_, ho⟩⟩⟩⟩
        unfold wayL
        rw [upd_same, vi_rev, ← ea, eu, h0]
      · have ev : parV w c = V.int ((c - 1) / w : Nat) := by unfold parV; rw [if_neg h0]
        rw [ev, decide_eq_false (show ¬ V.int ((c - 1) / w : Nat) = V.non from fun z => nomatch z)]
        refine iteT ?_
        rw [if_neg h0] at eu
        have hlt : (c - 1) / w < c := Nat.lt_of_le_of_lt (Nat.div_le_self _ _) (by omega)
        have hL : acc.length + 1 + (upL w ((c - 1) / w)).length = (upL w i).length := by
          rw [← ea, eu, List.length_append, List.length_cons]
          omega
        have hL2 := up_len w (by omega) i (by omega) hw.1
        have hL3 := up_eq w (by omega) ((c - 1) / w) (by omega) hw.1
        have hL4 : 1 ≤ (upL w ((c - 1) / w)).length := by
          rw [hL3]
          split
          · exact Nat.le_refl _
          · rw [List.length_cons]; omega
        refine ⟨_, rfl, .inl ⟨rfl, _, SqL.of ac.a⟩, _, rfl, d, _, _, rfl, rfl, ac.a, small1000 (by rw [vi_len, List.length_append, List.length_singleton]; omega), ?_⟩
        have e2 : vi (acc ++ [c]) ++ [V.int ((c - 1) / w : Nat)] = vi (acc ++ [c] ++ [(c - 1) / w]) := by rw [vi_app (acc ++ [c])]; rfl
        rw [e2]
        have ac2 : Acc H d (vi (acc ++ [c] ++ [(c - 1) / w])) (upd H' d (.lst (vi (acc ++ [c] ++ [(c - 1) / w])))) := ac.push
        refine ⟨_, rfl, p, dx, _, rfl, ac2.s _ _ h1, noP, _, rfl, p, n, w, (c - 1) / w, rfl, t.same ac2.s, by omega, ?_⟩
        refine ⟨⟨(c - 1) / w, acc ++ [c], rfl, by omega, ac2, ?_, by rw [List.length_append, List.length_singleton]; omega⟩, ?_⟩
        · rw [← ea, eu, List.append_assoc]
          rfl
        · show muV (some (some (parV w ((c - 1) / w)))) < muV (some (some (V.int ((c - 1) / w : Nat))))
          unfold parV
          split
          · show 0 < _
            exact Nat.succ_pos _
          · rename_i h9
            show (((((c - 1) / w - 1) / w : Nat) : Int)).toNat + 1 < ((((c - 1) / w : Nat) : Int)).toNat + 1
            rw [Int.toNat_natCast, Int.toNat_natCast]
            exact Nat.succ_lt_succ (Nat.lt_of_le_of_lt (Nat.div_le_self _ _) (Nat.sub_lt (Nat.pos_of_ne_zero h9) Nat.one_pos))
    · rintro σ' H1 Q1 Q2 mono ⟨v, hv, e1, b1, e2, z⟩
      exact ⟨v, hv, e1, b1, e2, mono _ _ z⟩
def spLw : Sp := fun vs H Q _ => ∃ (t w : Nat) (ks : List Int), vs = [.ref t, .int w] ∧ (1 ≤ w ∧ w ≤ 4) ∧ H t = some (.tup (ks.map V.int)) ∧ 1 ≤ ks.length ∧ ks.length ≤ 12 ∧ (∀ z ∈ ks, -1000000000 ≤ z ∧ z ≤ 1000000000) ∧ ∀ H' q, Same H H' → TupF H' q (vi (wayL w (ks.length - 1))) → Q (.ref q) H'
theorem ok_lw (T : Tx K mg A) : FnOk P w K mg base CX0 8 A.f_last_way A.d_last_way ["heap", "arms"] spLw := by
  obtain ⟨mo, ko⟩ := kb_of T
  refine T.F_last_way.ok sc_last_way (fun vs H Q E h => ?_) (fun cdv B outer s H vs Q E hr h => ?_)
  · obtain ⟨t, w, ks, rfl, _⟩ := h
    rfl
  · obtain ⟨t, w, ks, rfl, hw, ht, h1, h12, hb, q⟩ := h
    have nd := sc_last_way.nd
    refine ⟨_, PSs.nox (pss_one (ps_ret (pe_meth (pe_cmethK (pe_glob (v := .ref A.C) (by rfl) T.mC (relR _)) T.cr T.cof (ok_of T) (hr.mono (by decide)) ko pass0 (pa_cons (pv 0) pa_nil) (pk_cons (pv 1) pk_nil)) T.cT T.M_t_way_to (ok_wayF T) (hr.mono (by decide)) (b_way T) .nil pass0 (pa_cons (pe_op op_sub (pe_callB call_len_seq (by rfl) T.g_len PySem.boot_len (pa_cons (pv 0) pa_nil)) pe_int) pa_nil)))), ?_⟩
    refine ⟨rfl, _, rfl, _, rfl, rfl, rfl, t, w, ks, rfl, hw, .inr ht, h12, hb, fun H3 tr s3 p0 t3 => ?_⟩
    obtain ⟨dx, l, g1, g2⟩ := id t3.ob
    have noW : (tf ks.length w l).lookup ("way_to" : Str) = none := tf_no _ _ _ (by decide +kernel) (by decide +kernel) (by decide +kernel)
    refine ⟨tr, dx, _, rfl, g1, noW, _, rfl, t, _, rfl, .inr (SqT.of (s3 _ _ ht)), _, _, rfl, rfl, tr, ks.length, w, ks.length - 1, ?_, t3, by omega, fun H4 z s4 f4 => ?_⟩
    · rw [List.length_map]
      show [V.ref tr, V.int ((ks.length : Int) - 1)] = _
      rw [show ((ks.length : Nat) : Int) - 1 = ((ks.length - 1 : Nat) : Int) by omega]
    · exact q _ z (s3.trans s4) f4
def fdY (v0 v1 : V) : List (Str × V) := putF "other" v1 (putF "place" v0 (([] : List (Str × V))))
def AtY (C : Addr) (H : Hp) (p : Addr) (x0 : Int) (x1 : Int) : Prop := ∃ (dx : Addr), H p = some (.ins C dx (fdY (.int x0) (.int x1)))
theorem AtY.ext {C : Addr} {H H' : Hp} {p : Addr} {x0 : Int} {x1 : Int} (h : AtY C H p x0 x1) (e : LamX.ExtN H H') : AtY C H' p x0 x1 := let ⟨dx, h⟩ := h; ⟨dx, e _ _ h (fun _ z => nomatch z)⟩
theorem AtY.ins {C : Addr} {H : Hp} {p : Addr} {x0 : Int} {x1 : Int} (h : AtY C H p x0 x1) : ∃ dx fs, H p = some (.ins C dx fs) := let ⟨dx, h⟩ := h; ⟨dx, _, h⟩
theorem PuOk.ext {H H' : Hp} {r w : Nat} {ks : List Int} {place : Nat} (h : PuOk H r w ks place) (e : ExtN H H') : PuOk H' r w ks place :=
  ⟨h.hw, ⟨h.row.1.imp (fun z => e _ _ z fun _ y => nomatch y) (fun z => e _ _ z fun _ y => nomatch y), h.row.2⟩, h.fl, h.nd, h.h1, h.pl⟩
/-- the first place at which there is a brother with a less key -/
def badL (n w : Nat) (ks : List Int) (l : List Nat) : Option Nat := l.find? fun q => !(leastC ks (kidL n w ((q - 1) / w)) == q)
def belL (w n place : Nat) : List Nat := (wayL w (n - 1)).drop (wayL w place).length
theorem way_leA : ∀ w, w < 5 → ∀ i, i < 13 → 1 ≤ w → ∀ q ∈ wayL w i, q ≤ i := by decide +kernel
theorem bel_ok {w n place : Nat} (hw : 1 ≤ w ∧ w ≤ 4) (hn : n ≤ 12) (h1 : 1 ≤ n) (h : place ∈ wayL w (n - 1)) : place < n ∧ Down n w place (belL w n place) ∧ endOf place (belL w n place) = n - 1 ∧ wayL w (n - 1) = wayL w place ++ belL w n place := by
  have hp := way_leA w (by omega) (n - 1) (by omega) hw.1 place h
  obtain ⟨l, hd, he⟩ := of_sub hw hn (n - 1) (n - 1) place (Nat.le_refl _) (by omega) h
  have hw2 := way_down hw hn l place (by omega) hd
  rw [he] at hw2
  have e : belL w n place = l := by
    unfold belL
    rw [hw2, List.drop_left]
  rw [e]
  exact ⟨by omega, hd, he, hw2⟩
def dnS : List Int → Nat → List Nat → List Int
  | ks, _, [] => ks
  | ks, p, b :: l => dnS (swp ks p b) b l
theorem dn_len : ∀ (l : List Nat) (ks : List Int) (p : Nat), (dnS ks p l).length = ks.length
  | [], _, _ => rfl
  | b :: l, ks, p => by
    show (dnS (swp ks p b) b l).length = _
    rw [dn_len l, swp_len]
theorem way_idx1 : ∀ w, w < 5 → ∀ i, i < 13 → 1 ≤ w → ∀ q ∈ wayL w i, (wayL w i)[(wayL w q).length - 1]? = some q ∧ 1 ≤ (wayL w q).length ∧ ((wayL w i).take ((wayL w q).length - 1)).all (fun x => !(x == q)) = true := by decide +kernel
theorem way_idx {w i q : Nat} (hw : 1 ≤ w ∧ w ≤ 4) (hi : i ≤ 12) (h : q ∈ wayL w i) : (wayL w i)[(wayL w q).length - 1]? = some q ∧ 1 ≤ (wayL w q).length ∧ ∀ j, j < (wayL w q).length - 1 → (wayL w i)[j]? ≠ some q := by
  obtain ⟨a, b, c⟩ := way_idx1 w (by omega) i (by omega) hw.1 q h
  refine ⟨a, b, fun j hj z => ?_⟩
  have hm : q ∈ (wayL w i).take ((wayL w q).length - 1) := List.mem_iff_getElem?.mpr ⟨j, by rw [List.getElem?_take, if_pos hj]; exact z⟩
  have := List.all_eq_true.mp c q hm
  simp at this
theorem way_len : ∀ w, w < 5 → ∀ p, p < 13 → 1 ≤ w → (wayL w p).length ≤ 13 := by decide +kernel
def undR (w : Nat) (ks : List Int) (place : Nat) : List Int := (dnS ks place (belL w ks.length place)).take (ks.length - 1)
theorem AtY.same {C : Addr} {H H' : Hp} {p : Addr} {x0 : Int} {x1 : Int} (h : AtY C H p x0 x1) (s : Same H H') : AtY C H' p x0 x1 := h.ext (extN_of s)
def spIY (C : Addr) : Sp := fun vs H Q _ => ∃ (p dx : Nat) (x0 : Int) (x1 : Int), vs = [.ref p, .int x0, .int x1] ∧ H p = some (.ins C dx []) ∧ ∀ (H' : Hp), (∀ b o, H b = some o → b ≠ p → H' b = some o) → AtY C H' p x0 x1 → Q .non H'
theorem ok_iY (T : Tx K mg A) : FnOk P w K mg base CX0 1 A.f_y___init__ A.d_y___init__ ["self", "place", "other"] (spIY A.CY) := by
  refine T.F_y___init__.ok sc_y___init__ (fun vs H Q E h => ?_) (fun cdv B outer s H vs Q E hr h => ?_)
  · obtain ⟨p, dx, x0, x1, rfl, _⟩ := h
    rfl
  · obtain ⟨p, dx, x0, x1, rfl, hp, q⟩ := h
    refine ⟨_, (pss_cons (ps_fld (pv 0) (pv 1) rfl)
      (pss_one (ps_fld (pv 0) (pv 2) rfl))), ?_⟩
    have fr : ∀ b o, H b = some o → b ≠ p → H b = some o := fun b o e _ => e
    refine ⟨_, rfl, _, rfl, p, A.CY, dx, _, rfl, hp, T.cTY, T.yPlace, (by show 0 < 1000; decide), ?_⟩
    have fr : ∀ b o, H b = some o → b ≠ p → (upd H p (.ins A.CY dx (putF "place" (.int x0) ([])))) b = some o := fun b o e n => by rw [upd_ne n]; exact fr b o e n
    have hp : (upd H p (.ins A.CY dx (putF "place" (.int x0) ([])))) p = _ := upd_same
    generalize upd H p (.ins A.CY dx (putF "place" (.int x0) ([]))) = U0 at fr hp
    refine ⟨_, rfl, _, rfl, p, A.CY, dx, _, rfl, hp, T.cTY, T.yOther, (by show 1 < 1000; decide), ?_⟩
    have fr : ∀ b o, H b = some o → b ≠ p → (upd U0 p (.ins A.CY dx (putF "other" (.int x1) (putF "place" (.int x0) ([]))))) b = some o := fun b o e n => by rw [upd_ne n]; exact fr b o e n
    have hp : (upd U0 p (.ins A.CY dx (putF "other" (.int x1) (putF "place" (.int x0) ([]))))) p = _ := upd_same
    exact q _ fr ⟨dx, hp⟩
theorem b_iY (T : Tx K mg A) : L2.Binds K A.d_y___init__ ["self", "place", "other"] [] := T.F_y___init__.binds fun _ _ _ _ _ _ us hl => match us, hl with | [_, _, _], _ => rfl
def spBel (K : PySem.W.Frag) : Sp := fun vs H Q _ => ∃ (r w place : Nat) (ks : List Int), vs = [.ref r, .int place, .int w] ∧ PuOk H r w ks place ∧
  ∀ H' q t u, Same H H' → H' q = some (.tup [.ref t, .ref u]) → H' t = some (.tup (ks.map V.int)) → SqT K H' u (vi (belL w ks.length place)) → Q (.ref q) H'
theorem ok_bel (T : Tx K mg A) : FnOk P w K mg base CX0 10 A.f_heap_and_way_below A.d_heap_and_way_below ["row", "place", "arms"] (spBel K) := by
  refine T.F_heap_and_way_below.ok sc_heap_and_way_below (fun vs H Q E h => ?_) (fun cdv B outer s H vs Q E hr h => ?_)
  · obtain ⟨r, w, place, ks, rfl, _⟩ := h
    rfl
  · obtain ⟨r, w, place, ks, rfl, h, q⟩ := h
    have nd := sc_heap_and_way_below.nd
    have hu2 : (B.deeper (envOfC "heap_and_way_below" (defScope s_heap_and_way_below) s.heap.objs.size A.f_heap_and_way_below cdv)).units + 65 < cLine := by have := hr.un; omega
    have h1 := h.h1
    have h12 := h.row.2.1
    obtain ⟨b1, b2, b3, b4⟩ := bel_ok h.hw h12 h1 h.pl
    have hne : ks ≠ [] := fun z => by rw [z] at h1; simp at h1
    refine ⟨_, PSs.nox (pss_cons (ps_set (i := 3) nd rfl (Or.inl rfl) (pe_call (ok_dh T) (hr.mono (by decide)) (by rfl) T.m_different_heap_of T.F_different_heap_of.kp (b_dh T) .nil pass0 (pa_cons (pv 0) (pa_cons (pv 2) pa_nil))))
      (pss_cons (ps_expr (pe_call (ok_cf T) (hr.mono (by decide)) (by rfl) T.m_check_filled T.F_check_filled.kp (b_cf T) .nil pass0 (pa_cons (pv 3) pa_nil)))
      (pss_cons (ps_expr (pe_call (ok_cp T) (hr.mono (by decide)) (by rfl) T.m_check_place T.F_check_place.kp (b_cp T) .nil pass0 (pa_cons (pv 1) (pa_cons (pe_callB call_len_seq (by rfl) T.g_len PySem.boot_len (pa_cons (pv 3) pa_nil)) pa_nil))))
      (pss_cons (ps_set (i := 4) nd rfl (Or.inl rfl) (pe_call (ok_lw T) (hr.mono (by decide)) (by rfl) T.m_last_way T.F_last_way.kp (b_lw T) .nil pass0 (pa_cons (pv 3) (pa_cons (pv 2) pa_nil))))
      (pss_cons (ps_if (pt_cmpR (r := L2.rIn K true) op_notIn_seq (pv 1) (pv 4) (by rfl)) (pss_one ps_never) pss_nil)
      (pss_one (ps_ret (pe_tup (pa_cons (pv 3) (pa_cons (pe_slice sl_tup (pv 4) (po_some (pe_op op_add (pe_bmF PySem.F.slot_tuple_index PySem.F.type_tuple_index (mt_indexTI hu2) (pv 4) (pa_cons (pv 1) pa_nil)) pe_int)) po_none) pa_nil)))))))))), ?_⟩
    refine ⟨_, rfl, _, rfl, r, w, ks, rfl, h.hw, h.row, h.fl, h.nd, fun H1 t s1 e1 => ?_⟩
    refine ⟨_, rfl, t, _, rfl, e1, fun z => hne (List.map_eq_nil_iff.mp z), ?_⟩
    refine ⟨_, rfl, _, rfl, t, _, rfl, .inr (SqT.of e1), _, _, rfl, ⟨by omega, by rw [List.length_map]; omega⟩, ?_⟩
    refine ⟨_, rfl, _, rfl, t, w, ks, rfl, h.hw, e1, h1, h12, h.row.2.2, fun H2 z s2 f2 => ?_⟩
    have e2 := s2 _ _ e1
    refine ⟨_, rfl, _, rfl, z, _, rfl, .inr f2.sq, rfl, vi_flat _, _, rfl, ?_⟩
    rw [if_pos rfl, mem_vi, decide_eq_true h.pl]
    obtain ⟨i1, i2, i3⟩ := way_idx h.hw (by omega : ks.length - 1 ≤ 12) h.pl
    refine iteF ⟨_, rfl, _, rfl, _, rfl, ⟨z, _, rfl, f2⟩, _, rfl, z, wz (wayL w (ks.length - 1)), place, (wayL w place).length - 1, rfl, rfl, by rw [← vi_wz]; exact f2.sq, ?_, ?_, ?_⟩
    · unfold wz
      rw [List.getElem?_map, i1]
      rfl
    · intro m hm z
      unfold wz at z
      rw [List.getElem?_map] at z
      cases hz : (wayL w (ks.length - 1))[m]? with
      | none => rw [hz] at z; cases z
      | some c =>
        rw [hz] at z
        have hc : ((c : Nat) : Int) = (place : Nat) := Option.some.inj z
        exact i3 m hm (by rw [hz]; congr 1; omega)
    · refine ⟨_, _, rfl, rfl, _, rfl, z, _, rfl, f2.sq, ?_, fun u nu => ?_⟩
      · rw [show ((((wayL w place).length - 1 : Nat) : Int) + 1) = (((wayL w place).length : Nat) : Int) by omega, HT.sIx_nat, vi_len]
        have : (wayL w place).length ≤ (wayL w (ks.length - 1)).length := by rw [b4, List.length_append]; omega
        intro y
        omega
      · rw [show ((((wayL w place).length - 1 : Nat) : Int) + 1) = (((wayL w place).length : Nat) : Int) by omega, cut_from]
        have s3 := Same.up (o := .tup ((vi (wayL w (ks.length - 1))).drop (wayL w place).length)) nu
        have eu := upd_same (H := H2) (a := u) (o := .tup ((vi (wayL w (ks.length - 1))).drop (wayL w place).length))
        generalize upd H2 u (.tup ((vi (wayL w (ks.length - 1))).drop (wayL w place).length)) = H3 at s3 eu
        refine ⟨by show 2 ≤ sizeLine; decide, fun q' nq => ?_⟩
        have s4 := Same.up (o := .tup [.ref t, .ref u]) nq
        refine q _ q' t u (s1.trans (s2.trans (s3.trans s4))) upd_same (s4 _ _ (s3 _ _ e2)) ?_
        have := SqT.of (K := K) (s4 _ _ eu)
        rw [show (vi (wayL w (ks.length - 1))).drop (wayL w place).length = vi (belL w ks.length place) by unfold vi belL; rw [List.map_drop]] at this
        exact this
theorem b_bel (T : Tx K mg A) : L2.Binds K A.d_heap_and_way_below ["row", "place", "arms"] [] := T.F_heap_and_way_below.binds fun _ _ _ _ _ _ us hl => match us, hl with | [_, _, _], _ => rfl
def rvL (p : Nat) (l : List Nat) : List Nat := (p :: l).reverse
theorem rv_len (p : Nat) (l : List Nat) : (rvL p l).length = l.length + 1 := by
  unfold rvL
  rw [List.length_reverse, List.length_cons]
theorem rv_get (p : Nat) (l : List Nat) {i : Nat} (h : i ≤ l.length) : (rvL p l).getD i 0 = (p :: l).getD (l.length - i) 0 := by
  unfold rvL
  rw [List.getD_eq_getElem?_getD, List.getD_eq_getElem?_getD, List.getElem?_reverse (by rw [List.length_cons]; omega), List.length_cons]
  congr 2
theorem getD_last : ∀ (l : List Nat) (b : Nat), (b :: l).getD l.length 0 = endOf b l
  | [], b => rfl
  | c :: l, b => by
    rw [List.length_cons, List.getD_cons_succ, end_cons]
    exact getD_last l c
theorem rv_zero (p : Nat) (l : List Nat) : (rvL p l).getD 0 0 = endOf p l := by
  rw [rv_get p l (Nat.zero_le _), Nat.sub_zero, getD_last]
theorem rv_vlast (p : Nat) (l : List Nat) : atI (vi (rvL p l)) (-1) = some (V.int ((p : Nat) : Int)) := by
  have e : rvL p l = l.reverse ++ [p] := by unfold rvL; rw [List.reverse_cons]
  have hw : wz (rvL p l) ≠ [] := fun z => by
    have := congrArg List.length z
    unfold wz at this
    rw [List.length_map, rv_len] at this
    simp at this
  rw [vi_wz, last_wz (fun z => hw (by rw [z]; rfl)), e]
  unfold lastW
  simp
end
end Tw

set_option Elab.async false
set_option linter.all false
set_option maxRecDepth 100000
set_option maxHeartbeats 2000000
namespace Tw
open PySem PySem.Spec PyProof.Rows L2
section
variable {P : Program} {w : World} {K : PySem.W.Frag} {mg : Str → Option Value} {base : Heap} {A : Ad}
open LamX (ExtN Tabs TabS)
/-- the place of a way behind a place of it -/
def nxt : Nat → List Nat → Nat → Nat
  | p, [], _ => p
  | p, b :: l, q => if q = p then b else nxt b l q
def ruL (n : Nat) (R : List Int) (p : Nat) (l : List Nat) (j : Nat) : List Int := (List.range n).map fun c => if c = endOf p l then keyAt R p else if c ∈ ((rvL p l).drop 1).take j then keyAt R (nxt p l c) else keyAt R c
theorem ru_len (n : Nat) (R : List Int) (p : Nat) (l : List Nat) (j : Nat) : (ruL n R p l j).length = n := by
  unfold ruL
  rw [List.length_map, List.length_range]
theorem ru_at {n : Nat} {R : List Int} {p : Nat} {l : List Nat} {j c : Nat} (hc : c < n) : keyAt (ruL n R p l j) c = if c = endOf p l then keyAt R p else if c ∈ ((rvL p l).drop 1).take j then keyAt R (nxt p l c) else keyAt R c := by
  have e : (ruL n R p l j)[c]? = some (if c = endOf p l then keyAt R p else if c ∈ ((rvL p l).drop 1).take j then keyAt R (nxt p l c) else keyAt R c) := by
    unfold ruL
    rw [List.getElem?_map, List.getElem?_range hc]
    rfl
  show (ruL n R p l j).getD c 0 = _
  rw [List.getD_eq_getElem?_getD, e]
  rfl
theorem ru_zero {n : Nat} {R : List Int} (hl : R.length = n) {p : Nat} {l : List Nat} (he : endOf p l < n) : R.set (endOf p l) (keyAt R p) = ruL n R p l 0 := by
  refine ext_key (by rw [List.length_set, ru_len, hl]) fun c hc => ?_
  rw [List.length_set] at hc
  rw [keyAt_set (by omega), ru_at (by omega), List.take_zero, if_neg (show ¬ c ∈ [] by simp)]
theorem nxt_get {n w : Nat} (hw : 1 ≤ w) : ∀ (l : List Nat) (p : Nat), p < n → Down n w p l → ∀ j (h : j < l.length), nxt p l ((p :: l).getD j 0) = l[j]
  | b :: l, p, hp, hd, 0, _ => by
    show (if p = p then b else _) = b
    rw [if_pos rfl]
  | b :: l, p, hp, ⟨hb, hd⟩, j + 1, h => by
    obtain ⟨b1, b2⟩ := kid_in hw hb
    have hj : j < l.length := by simpa using h
    have g := (down_get hw l b b2 hd j hj)
    have hne : (b :: l).getD j 0 ≠ p := by
      cases j with
      | zero => show b ≠ p; omega
      | succ i =>
        rw [List.getD_cons_succ, List.getD_eq_getElem?_getD, List.getElem?_eq_getElem (by omega)]
        have := (down_get hw l b b2 hd i (by omega)).2.2.1
        show l[i] ≠ p
        omega
    show (if (p :: b :: l).getD (j + 1) 0 = p then b else nxt b l ((p :: b :: l).getD (j + 1) 0)) = l[j]
    rw [List.getD_cons_succ, if_neg hne]
    exact nxt_get hw l b b2 hd j hj
theorem ru_succ {n w : Nat} (hw : 1 ≤ w) {R : List Int} {p : Nat} {l : List Nat} (hp : p < n) (hd : Down n w p l) {j : Nat} (h : j < l.length) : (ruL n R p l j).set ((rvL p l).getD (j + 1) 0) (keyAt R ((rvL p l).getD j 0)) = ruL n R p l (j + 1) := by
  have hj : (rvL p l).getD (j + 1) 0 = (p :: l).getD (l.length - (j + 1)) 0 := rv_get p l (by omega)
  have hj2 : (rvL p l).getD j 0 = l[l.length - (j + 1)] := by
    rw [rv_get p l (by omega), show l.length - j = l.length - (j + 1) + 1 by omega, List.getD_cons_succ, List.getD_eq_getElem?_getD, List.getElem?_eq_getElem (by omega)]
    rfl
  have hx := nxt_get hw l p hp hd (l.length - (j + 1)) (by omega)
  obtain ⟨g1, g2, g3, g4⟩ := down_get hw l p hp hd (l.length - (j + 1)) (by omega)
  rw [← hj] at hx g1 g2
  have hlt : ∀ i (hi : i < l.length), (p :: l).getD i 0 < l[i] := fun i hi => by
    obtain ⟨a, b, c, d⟩ := down_get hw l p hp hd i hi
    have := Nat.div_le_self (l[i] - 1) w
    omega
  have hdr : ((rvL p l).drop 1).take (j + 1) = ((rvL p l).drop 1).take j ++ [(rvL p l).getD (j + 1) 0] := by
    have hlen : j < ((rvL p l).drop 1).length := by rw [List.length_drop, rv_len]; omega
    rw [← List.take_append_getElem hlen, List.getElem_drop, List.getD_eq_getElem?_getD, List.getElem?_eq_getElem (by rw [rv_len]; omega), Option.getD_some]
    congr 2
    simp [Nat.add_comm]
  have hne : (rvL p l).getD (j + 1) 0 ≠ endOf p l := by
    have h1 := hlt (l.length - (j + 1)) (by omega)
    rw [← hj] at h1
    have h2 : l[l.length - (j + 1)] ≤ endOf p l := by
      have hle : ∀ (l : List Nat) (p : Nat), p < n → Down n w p l → ∀ c ∈ l, c ≤ endOf p l := by
        intro l
        induction l with
        | nil => intro p _ _ c hc; cases hc
        | cons b l ih =>
          intro p hp hd c hc
          obtain ⟨b1, b2⟩ := kid_in hw hd.1
          rw [end_cons]
          rcases List.mem_cons.mp hc with rfl | hc
          · exact (down_lt hw l c b2 hd.2).2.1
          · exact ih b b2 hd.2 c hc
      exact hle l p hp hd _ (List.getElem_mem _)
    omega
  refine ext_key (by rw [List.length_set, ru_len, ru_len]) fun c hc => ?_
  rw [List.length_set, ru_len] at hc
  rw [keyAt_set (by rw [ru_len]; exact g2), ru_at hc, ru_at hc, hdr]
  by_cases e : c = (rvL p l).getD (j + 1) 0
  · rw [if_pos e, e, if_neg hne, if_pos (List.mem_append_right _ (List.mem_singleton.mpr rfl)), hx, hj2]
  · rw [if_neg e]
    by_cases e2 : c = endOf p l
    · rw [if_pos e2, if_pos e2]
    · rw [if_neg e2, if_neg e2]
      by_cases e3 : c ∈ ((rvL p l).drop 1).take j
      · rw [if_pos e3, if_pos (List.mem_append_left _ e3)]
      · rw [if_neg e3, if_neg fun z => (List.mem_append.mp z).elim e3 fun y => e (List.mem_singleton.mp y)]
theorem dn_at {n w : Nat} (hw : 1 ≤ w) : ∀ (l : List Nat) (ks : List Int) (p : Nat), ks.length = n → p < n → Down n w p l → ∀ q,
    keyAt (dnS ks p l) q = if q = endOf p l then keyAt ks p else if q ∈ p :: l then keyAt ks (nxt p l q) else keyAt ks q
  | [], ks, p, hl, hp, _, q => by
    show keyAt ks q = if q = p then keyAt ks p else _
    by_cases h : q = p
    · rw [if_pos h, h]
    · rw [if_neg h, if_neg (by simp [h])]
  | b :: l, ks, p, hl, hp, ⟨hb, hd⟩, q => by
    obtain ⟨b1, b2⟩ := kid_in hw hb
    obtain ⟨h1, h2, h3⟩ := down_lt hw l b b2 hd
    have ih := dn_at hw l (swp ks p b) b (by rw [swp_len, hl]) b2 hd q
    show keyAt (dnS (swp ks p b) b l) q = _
    rw [ih, end_cons]
    have sw : ∀ c, keyAt (swp ks p b) c = if c = b then keyAt ks p else if c = p then keyAt ks b else keyAt ks c := fun c => keyAt_swp (by omega) (by omega)
    by_cases e1 : q = endOf b l
    · rw [if_pos e1, if_pos e1, sw, if_pos rfl]
    · rw [if_neg e1, if_neg e1]
      by_cases e2 : q ∈ b :: l
      · have hqp : q ≠ p := fun z => by
          rcases List.mem_cons.mp e2 with y | y
          · omega
          · have := h1 q y
            omega
        rw [if_pos e2, if_pos (List.mem_cons_of_mem _ e2)]
        show _ = keyAt ks (if q = p then b else nxt b l q)
        rw [if_neg hqp, sw]
        have hn : nxt b l q ∈ l := by
          have hi : ∃ j, j < l.length ∧ (b :: l).getD j 0 = q := by
            obtain ⟨j, hj, e⟩ := List.mem_iff_getElem.mp e2
            have ed : (b :: l).getD j 0 = q := by rw [List.getD_eq_getElem?_getD, List.getElem?_eq_getElem hj, ← e]; rfl
            refine ⟨j, Classical.byContradiction fun hge => e1 ?_, ed⟩
            have ej : j = l.length := by rw [List.length_cons] at hj; omega
            rw [← ed, ej]
            exact getD_last l b
          obtain ⟨j, hj, e⟩ := hi
          rw [← e, nxt_get hw l b b2 hd j hj]
          exact List.getElem_mem hj
        have := h1 _ hn
        rw [if_neg (by omega), if_neg (by omega)]
      · rw [if_neg e2, sw]
        have hqb : q ≠ b := fun z => e2 (z ▸ List.mem_cons_self)
        rw [if_neg hqb]
        by_cases e3 : q = p
        · rw [if_pos e3, e3, if_pos List.mem_cons_self]
          show _ = keyAt ks (if p = p then b else _)
          rw [if_pos rfl]
        · rw [if_neg e3, if_neg (fun z => (List.mem_cons.mp z).elim e3 e2)]
theorem ru_end {n w : Nat} (hw : 1 ≤ w) {R : List Int} (hl : R.length = n) {p : Nat} {l : List Nat} (hp : p < n) (hd : Down n w p l) : ruL n R p l l.length = dnS R p l := by
  refine ext_key (by rw [ru_len, dn_len, hl]) fun c hc => ?_
  rw [ru_len] at hc
  rw [ru_at hc, dn_at hw l R p hl hp hd, List.take_of_length_le (by rw [List.length_drop, rv_len]; omega)]
  by_cases e : c = endOf p l
  · rw [if_pos e, if_pos e]
  · rw [if_neg e, if_neg e]
    have h0 : (rvL p l).getD 0 0 :: (rvL p l).drop 1 = rvL p l := by
      have hlen : 0 < (rvL p l).length := by rw [rv_len]; omega
      cases hr : rvL p l with
      | nil => rw [hr] at hlen; simp at hlen
      | cons a b => rfl
    have hm : c ∈ (rvL p l).drop 1 ↔ c ∈ p :: l := by
      have h1 : c ∈ rvL p l ↔ c ∈ p :: l := by unfold rvL; rw [List.mem_reverse]
      rw [← h1, ← h0, rv_zero]
      exact ⟨fun z => List.mem_cons_of_mem _ z, fun z => (List.mem_cons.mp z).elim (fun y => absurd y e) id⟩
    by_cases e2 : c ∈ p :: l
    · rw [if_pos e2, if_pos (hm.mpr e2)]
    · rw [if_neg e2, if_neg (fun z => e2 (hm.mp z))]
def spRbU (K : PySem.W.Frag) : Sp := fun vs H Q _ => ∃ (a b p n w : Nat) (R : List Int) (l : List Nat), vs = [.ref a, .ref b] ∧ H a = some (.tup (R.map V.int)) ∧ SqT K H b (vi (rvL p l)) ∧ R.length = n ∧ n ≤ 12 ∧ 1 ≤ w ∧ p < n ∧ Down n w p l ∧
  ∀ (H' : Hp) (t : Addr), Same H H' → H' t = some (.tup ((dnS R p l).map V.int)) → Q (.ref t) H'
theorem ok_rbU (T : Tx K mg A) : FnOk P w K mg base CX0 1 A.f_row_before A.d_row_before ["row", "way"] (spRbU K) := by
  refine T.F_row_before.ok sc_row_before (fun vs H Q E h => ?_) (fun cdv B outer s H vs Q E hr h => ?_)
  · obtain ⟨a, b, p, n, w, R, l, rfl, _⟩ := h
    rfl
  · obtain ⟨a, b, p, n, w, R, l, rfl, ha, hb, hl, hn, hw, hp, hd, q⟩ := h
    have nd := sc_row_before.nd
    obtain ⟨_, _, he⟩ := down_lt hw l p hp hd
    refine ⟨_, PSs.nox (C8.pss_cut (ps_set (i := 2) nd rfl (Or.inl rfl) (pe_callTy call_list_of (by rfl) T.g_list (by decide +kernel) (pa_cons (pv 0) pa_nil)))
      (C8.pss_cut (ps_asg (pe_ix (r := rIxT K) ix_tup (pv 0) (pe_ix (r := rIxT K) ix_tup (pv 1) (pe_un un_neg pe_int) (fun _ _ => rfl)) (fun _ _ => rfl)) (pg_sub (pv 2) (pe_ix (r := rIxT K) ix_tup (pv 1) pe_int (fun _ _ => rfl)) set_list))
      (C8.pss_cut (ps_for PassesOwn.never rfl (RZ.pi_zipA (by rfl) T.g_zip (pa_cons (pv 1) (pa_cons (pe_slice (r := rSlS K) sl_tupS (pv 1) (po_some pe_int) po_none) pa_nil))) (pg_tup rfl (pgs_cons (pg_name (i := 3) nd rfl (Or.inl rfl)) (pgs_cons (pg_name (i := 4) nd rfl (Or.inl rfl)) pgs_nil))) (pss_one (ps_asg (pe_ix (r := rIxT K) ix_tup (pv 0) (pv 3) (fun _ _ => rfl)) (pg_sub (pv 2) (pv 4) set_list))))
      (pss_one (ps_ret (pe_callTy call_tuple_of (by rfl) T.g_tuple (by decide +kernel) (pa_cons (pv 2) pa_nil))))))), ?_⟩
    refine ⟨fun σ' H' => ∃ D : Addr, σ' = [some (.ref a), some (.ref b), some (.ref D), none, none] ∧ Acc H D (R.map V.int) H', ?_, ?_⟩
    · exact ⟨_, rfl, a, _, rfl, .inr (SqT.of ha), fun D nD => ⟨D, rfl, Same.up nD, nD, upd_same⟩⟩
    rintro σ' H1 ⟨D, rfl, ac1⟩
    have at0 : atI (vi (rvL p l)) ((0 : Nat) : Int) = some (V.int ((endOf p l : Nat) : Int)) := by
      have := vi_getD (l := rvL p l) (p := 0) (by rw [rv_len]; omega)
      rw [rv_zero] at this
      exact atI_nat this
    refine ⟨fun σ' H' => σ' = [some (.ref a), some (.ref b), some (.ref D), none, none] ∧ Acc H D ((ruL n R p l 0).map V.int) H', ?_, ?_⟩
    · refine ⟨_, rfl, _, rfl, _, rfl, b, _, _, _, rfl, rfl, SqT.sm ac1.s hb, rv_vlast p l, a, _, _, _, rfl, rfl, SqT.of (ac1.s _ _ ha), key_at (by omega), ?_⟩
      refine ⟨_, rfl, _, rfl, b, _, _, _, rfl, rfl, SqT.sm ac1.s hb, at0, D, _, _, endOf p l, rfl, rfl, ac1.a, ixN_nat (by rw [List.length_map]; omega), rfl, ?_⟩
      rw [set_int, ru_zero hl he]
      exact ac1.push
    rintro σ' H2 ⟨rfl, ac2⟩
    refine ⟨fun σ' H' => (∃ x3 x4 : Option V, σ' = [some (.ref a), some (.ref b), some (.ref D), x3, x4]) ∧ Acc H D ((dnS R p l).map V.int) H', ?_, ?_⟩
    · refine ⟨_, rfl, _, rfl, _, rfl, b, _, rfl, SqT.sm ac2.s hb, fun u H3 s3 eu => ?_⟩
      have ac3 := ac2.same s3
      have ev1 : cutV (vi (rvL p l)) (some 1) none = vi ((rvL p l).drop 1) := by
        rw [show (1 : Int) = ((1 : Nat) : Int) from rfl, cut_from]
        unfold vi
        rw [List.map_drop]
      rw [ev1] at eu
      have hb3 := SqT.sm ac3.s hb
      have hdl : (vi ((rvL p l).drop 1)).length = l.length := by rw [vi_len, List.length_drop, rv_len]; omega
      refine ⟨b, u, _, _, rfl, .inr ⟨hb3, eu, for_it (walk_zipT (n := l.length) (by rw [hdl, vi_len, rv_len]; omega)) (fun j σ' H' => (∃ x3 x4 : Option V, σ' = [some (.ref a), some (.ref b), some (.ref D), x3, x4]) ∧ Acc H D ((ruL n R p l j).map V.int) H' ∧ SqT K H' b (vi (rvL p l)) ∧ SqT K H' u (vi ((rvL p l).drop 1))) ⟨⟨none, none, rfl⟩, ac3, hb3, eu⟩ (fun j σ' H' _ h => ⟨h.2.2.1, h.2.2.2⟩) ?_ ?_⟩⟩
      · rintro j v σ' H4 H5 hj ⟨⟨x3, x4, rfl⟩, ac, sb, su⟩ ⟨T', x, y, rfl, hT, rfl, e1, e2⟩
        have e1 : (vi (rvL p l))[j]? = some x := e1
        rw [vi_getD (by rw [rv_len]; omega)] at e1
        have e2 : (vi ((rvL p l).drop 1))[j]? = some y := e2
        have ed : ((rvL p l).drop 1).getD j 0 = (rvL p l).getD (j + 1) 0 := by
          rw [List.getD_eq_getElem?_getD, List.getD_eq_getElem?_getD, List.getElem?_drop, Nat.add_comm 1 j]
        rw [vi_getD (by rw [List.length_drop, rv_len]; omega), ed] at e2
        cases e1
        cases e2
        have hlt : ∀ i, i ≤ l.length → (rvL p l).getD i 0 < n := fun i hi => by
          rw [rv_get p l hi]
          cases hk : l.length - i with
          | zero => exact hp
          | succ k =>
            rw [List.getD_cons_succ, List.getD_eq_getElem?_getD, List.getElem?_eq_getElem (by omega)]
            exact (down_get hw l p hp hd k (by omega)).2.2.2
        refine ⟨_, _, rfl, SqT.of upd_same, rfl, _, _, rfl, _, _, rfl, rfl, ?_⟩
        have s5 := Same.up (o := .tup [V.int ((rvL p l).getD j 0 : Nat), V.int ((rvL p l).getD (j + 1) 0 : Nat)]) hT
        have ac5 := ac.same s5
        have sb5 := SqT.sm s5 sb
        have su5 := SqT.sm s5 su
        generalize upd H4 T' (.tup [V.int ((rvL p l).getD j 0 : Nat), V.int ((rvL p l).getD (j + 1) 0 : Nat)]) = G at ac5 sb5 su5
        refine ⟨_, rfl, _, rfl, a, _, _, _, rfl, rfl, SqT.of (ac5.s _ _ ha), key_at (by have := hlt j (by omega); omega), _, rfl, _, rfl, D, _, _, (rvL p l).getD (j + 1) 0, rfl, rfl, ac5.a, ixN_nat (by rw [List.length_map, ru_len]; exact hlt (j + 1) (by omega)), ?_⟩
        rw [set_int, ru_succ hw hp hd hj]
        exact ⟨⟨_, _, rfl⟩, ac5.push, SqT.put ac5.a sb5, SqT.put ac5.a su5⟩
      · rintro σ' H4 ⟨⟨x3, x4, rfl⟩, ac, _, _⟩
        rw [ru_end hw hl hp hd] at ac
        exact ⟨⟨_, _, rfl⟩, ac⟩
    rintro σ' H3 ⟨⟨x3, x4, rfl⟩, ac3⟩
    exact ⟨_, rfl, D, _, rfl, .inl ⟨SqL.of ac3.a, fun t nt => q _ t (ac3.s.trans (Same.up nt)) upd_same⟩⟩
theorem kids_vi (n w i : Nat) (hn : n ≤ 12) (hw : 1 ≤ w ∧ w ≤ 4) (hi : i < n) : kids n w i = (wz (kidL n w i)).map V.int := by
  rw [kids_eq, kids_same n (by omega) w (by omega) i hi hw.1, vi_wz]
theorem bad_some {n w : Nat} {ks : List Int} {l : List Nat} {j : Nat} (hj : j < l.length) (h : ∀ c ∈ l.take j, leastC ks (kidL n w ((c - 1) / w)) = c) (hne : leastC ks (kidL n w ((l[j] - 1) / w)) ≠ l[j]) : badL n w ks l = some l[j] := by
  have e : l = l.take j ++ l[j] :: l.drop (j + 1) := by rw [← List.drop_eq_getElem_cons hj, List.take_append_drop]
  have h1 : (l.take j).find? (fun q => !(leastC ks (kidL n w ((q - 1) / w)) == q)) = none := List.find?_eq_none.mpr fun c hc => by
    rw [beq_iff_eq.mpr (h c hc)]
    decide
  show l.find? (fun q => !(leastC ks (kidL n w ((q - 1) / w)) == q)) = _
  conv => lhs; rw [e]
  rw [List.find?_append, h1, Option.none_or, List.find?_cons, beq_eq_false_iff_ne.mpr hne]
  rfl
theorem bad_none {n w : Nat} {ks : List Int} {l : List Nat} (h : ∀ c ∈ l, leastC ks (kidL n w ((c - 1) / w)) = c) : badL n w ks l = none := List.find?_eq_none.mpr fun c hc => by
  rw [beq_iff_eq.mpr (h c hc)]
  decide
theorem cut_back (xs : List V) : cutV xs none (some (-1)) = xs.take (xs.length - 1) := by
  unfold cutV
  rw [HT.sIx_none, List.drop_zero, Nat.sub_zero]
  congr 1
  unfold HT.sIx
  show (if (-1 : Int) < 0 then _ else _) = _
  rw [if_pos (by decide)]
  omega
def FndU (A : Ad) (w : Nat) (ks : List Int) (place : Nat) (H : Hp) (q : Addr) : Prop :=
  (∃ c, badL ks.length w ks (belL w ks.length place) = some c ∧ AtY A.CY H q (c : Nat) (leastC ks (kidL ks.length w ((c - 1) / w)) : Nat)) ∨ (badL ks.length w ks (belL w ks.length place) = none ∧ AtU A.CU H q (undR w ks place) (keyAt ks place))
def spUp2 (K : PySem.W.Frag) (A : Ad) : Sp := fun vs H Q _ => ∃ (r w place : Nat) (ks : List Int), vs = [.ref r, .int place, .int w] ∧ PuOk H r w ks place ∧ Tabs (TT A) H ∧
  ∀ H' q, ExtN H H' → Tabs (TT A) H' → FndU A w ks place H' q → Q (.ref q) H'
theorem ok_up2 (T : Tx K mg A) (TB : LamX.TabB base mg A.c_undo_push A.P_undo_push) : FnOk P w K mg base CX0 11 A.f_undo_push A.d_undo_push ["row", "place", "arms"] (spUp2 K A) := by
  obtain ⟨oc, od, kV, doc, pm, an, ct, osl, ed, lk, hcd⟩ := T.L_undo_push
  obtain ⟨mo, ko⟩ := kb_of T
  rw [ed] at lk ⊢
  refine fn_of lk hcd sc_undo_push (fun vs H Q E h => ?_) (fun B outer s H vs Q E hr h => ?_)
  · obtain ⟨r, w, place, ks, rfl, _⟩ := h
    rfl
  · obtain ⟨r, w, place, ks, rfl, h, hT, q⟩ := h
    have nd := sc_undo_push.nd
    have h1 := h.h1
    have hw := h.hw
    have h12 := h.row.2.1
    obtain ⟨b1, b2, b3, b4⟩ := bel_ok hw h12 h1 h.pl
    obtain ⟨l, el⟩ : ∃ l, l = belL w ks.length place := ⟨_, rfl⟩
    have hlm : ∀ c ∈ l, place < c ∧ c < ks.length := by rw [el]; exact (down_lt hw.1 _ _ b1 b2).1
    refine ⟨_, PSs.nox (pss_cons (ps_asg (pe_call (ok_bel T) (hr.mono (by decide)) (by rfl) T.m_heap_and_way_below T.F_heap_and_way_below.kp (b_bel T) .nil pass0 (pa_cons (pv 0) (pa_cons (pv 1) (pa_cons (pv 2) pa_nil)))) (pg_tup rfl (pgs_cons (pg_name (i := 8) nd rfl (Or.inr rfl)) (pgs_cons (pg_name (i := 3) nd rfl (Or.inl rfl)) pgs_nil))))
      (pss_cons (ps_set (i := 4) nd rfl (Or.inl rfl) (pe_cmethK (pe_glob (v := .ref A.C) (by rfl) T.mC (relR _)) T.cr T.cof (ok_of T) (hr.mono (by decide)) ko pass0 (pa_cons (pv 8) pa_nil) (pk_cons (pv 2) pk_nil)))
      (C8.pss_cut (ps_for PassesOwn.never rfl (pi_tup (pv 3)) (pg_name (i := 5) nd rfl (Or.inl rfl)) (pss_cons (ps_set (i := 6) nd rfl (Or.inl rfl) (Cl.pe_minlamT (T := TT A) (x := "child") (y := "heap") (j := 8) (by rfl) T.g_min (pe_gi T.D_t___getitem__ (ok_gi T) (hr.mono (by decide)) (b_gi T) pass0 (pv 4) (pe_meth (pv 4) T.cT T.M_t_parent (ok_par T) (hr.mono (by decide)) (b_par T) .nil pass0 (pa_cons (pv 5) pa_nil))) hr.depth hr.hd TB rfl (tt_mem1 A) (tt_un1 T.pne) ⟨rfl, rfl, rfl, by decide +kernel, by decide +kernel, by decide +kernel⟩ (show (defScope s_undo_push).names.lookup ("heap" : Str) = some NameKind.cell by decide +kernel) (by decide +kernel) rfl rfl (fun _ _ _ _ _ _ => rfl)))
      (pss_one (ps_if (pt_cmpR op_ne (pv 6) (pv 5) (nomark _)) (pss_one (ps_ret (pe_make T.mkCY (ok_iY T) (hr.mono (by decide)) (by rfl) T.mCY (b_iY T) .nil pass0 (pa_cons (pv 5) (pa_cons (pv 6) pa_nil))))) pss_nil))))
      (pss_cons (ps_set (i := 7) nd rfl (Or.inl rfl) (pe_call (ok_rbU T) (hr.mono (by decide)) (by rfl) T.m_row_before T.F_row_before.kp (b_rb T) .nil pass0 (pa_cons (pv 8) (pa_cons (pe_op (r := rCatU) op_catU (pe_revT (pv 3) (pe_un un_neg pe_int)) (pe_tup (pa_cons (pv 1) pa_nil))) pa_nil))))
      (pss_one (ps_ret (pe_make T.mkCU (ok_iU T) (hr.mono (by decide)) (by rfl) T.mCU (b_iU T) .nil pass0 (pa_cons (pe_slice (r := rSlU) sl_tupU (pv 7) po_none (po_some (pe_un un_neg pe_int))) (pa_cons (pe_ix (r := rIxT K) ix_tup (pv 8) (pv 1) (fun _ _ => rfl)) pa_nil))))))))), ?_⟩
    refine ⟨_, rfl, _, rfl, _, rfl, r, w, place, ks, rfl, h, fun H1 z t u s1 ez e1 eu => ?_⟩
    refine ⟨_, _, rfl, SqT.of ez, rfl, _, _, rfl, _, _, rfl, rfl, ?_⟩
    refine ⟨rfl, _, rfl, _, rfl, rfl, rfl, t, w, ks, rfl, hw, .inr e1, h12, h.row.2.2, fun H2 tr s2 p0 t2 => ?_⟩
    have s12 := s1.trans s2
    rw [← el] at eu b2 b3
    refine ⟨fun σ' H' => ∃ x5 x6, σ' = [some (.ref r), some (.int place), some (.int w), some (.ref u), some (.ref tr), x5, x6, none, some (.ref t)] ∧ ExtN H H' ∧ Tabs (TT A) H' ∧ H' t = some (.tup (ks.map V.int)) ∧ SqT K H' u (vi l) ∧ ∀ c ∈ l, leastC ks (kidL ks.length w ((c - 1) / w)) = c, ?_, ?_⟩
    · refine ⟨_, rfl, u, rfl, ⟨_, SqT.sm s2 eu⟩, for_it (walk_tup (xs := vi l)) (fun j σ' H' => (∃ x5 x6, σ' = [some (.ref r), some (.int place), some (.int w), some (.ref u), some (.ref tr), x5, x6, none, some (.ref t)]) ∧ ExtN H H' ∧ Tabs (TT A) H' ∧ H' t = some (.tup (ks.map V.int)) ∧ SqT K H' u (vi l) ∧ TreeAt A.C H' tr ks.length w ∧ ∀ c ∈ l.take j, leastC ks (kidL ks.length w ((c - 1) / w)) = c)
        ⟨⟨none, none, rfl⟩, extN_of s12, hT.ext s12, s2 _ _ e1, SqT.sm s2 eu, t2, fun c hc => by rw [List.take_zero] at hc; cases hc⟩ (fun j σ' H' _ h => h.2.2.2.2.1) ?_ ?_⟩
      · rintro j x σ' B1o B1 hj ⟨⟨x5, x6, rfl⟩, e, tb, et, su, ta, hb⟩ ⟨rfl, hx⟩
        rw [vi_len] at hj
        rw [vi_getD hj] at hx
        cases hx
        have el2 : l.getD j 0 = l[j] := by rw [List.getD_eq_getElem?_getD, List.getElem?_eq_getElem hj]; rfl
        rw [el2]
        obtain ⟨hc1, hc2⟩ := hlm l[j] (List.getElem_mem hj)
        obtain ⟨c, ec⟩ : ∃ c, c = l[j] := ⟨_, rfl⟩
        rw [← ec] at hc1 hc2 ⊢
        have hpc : (c - 1) / w < c := by have := Nat.div_le_self (c - 1) w; omega
        have hck : c ∈ kidL ks.length w ((c - 1) / w) := mem_kid.mpr ⟨by omega, hc2, rfl⟩
        obtain ⟨dx, lt, g1, g2⟩ := id ta.ob
        have noP : (tf ks.length w lt).lookup ("parent" : Str) = none := tf_no _ _ _ (by decide +kernel) (by decide +kernel) (by decide +kernel)
        refine ⟨_, rfl, _, rfl, tr, dx, _, rfl, g1, noP, _, rfl, tr, ks.length, w, c, rfl, ta, hc2, ?_⟩
        rw [show parV w c = V.int (((c - 1) / w : Nat) : Int) by unfold parV; rw [if_neg (by omega)]]
        refine ⟨tr, dx, _, rfl, g1, tr, ks.length, w, (c - 1) / w, rfl, ta, by omega, fun B2 ch s3 ech => ?_⟩
        rw [kids_vi _ _ _ h12 hw (by omega)] at ech
        refine ⟨ch, t, wz (kidL ks.length w ((c - 1) / w)), ks, rfl, SqT.of ech, rfl, SqT.of (s3 _ _ et), ?_, ?_, tb.ext s3, fun m B3 e3 t3 hm => ?_⟩
        · unfold wz
          rw [List.length_map]
          exact List.length_pos_iff.mpr (List.ne_nil_of_mem hck)
        · intro z hz
          unfold wz at hz
          obtain ⟨j, hj, rfl⟩ := List.mem_map.mp hz
          have := kid_in hw.1 hj
          omega
        have em := least_wz hm
        subst em
        have e13 := (e.trans (extN_of s3)).trans e3
        have et3 := e3 _ _ (s3 _ _ et) (fun _ z => nomatch z)
        refine ⟨_, rfl, _, rfl, rfl, _, rfl, ?_⟩
        by_cases hlc : leastC ks (kidL ks.length w ((c - 1) / w)) = c
        · refine ite_b (c := false) (by rw [hlc, decide_eq_true rfl]; rfl) (iteF ⟨⟨_, _, rfl⟩, e13, t3, et3, e3.sqT (SqT.sm s3 su), (ta.same s3).ext e3, fun c' hc' => ?_⟩)
          rw [← List.take_append_getElem hj] at hc'
          rcases List.mem_append.mp hc' with y | y
          · exact hb c' y
          · rw [List.mem_singleton.mp y, ← ec]
            exact hlc
        · refine ite_b (c := true) (by rw [decide_eq_false fun z => hlc (by injection z with z; omega)]; rfl) (iteT ⟨_, rfl, _, rfl, fun x dx nx ndx nex => ?_⟩)
          have hbd : badL ks.length w ks (belL w ks.length place) = some c := by
            rw [← el, ec]
            exact bad_some hj hb (by rw [← ec]; exact hlc)
          exact ⟨x, dx, _, _, rfl, upd_same, fun B4 k4 st => ⟨rfl, q B4 x (e13.trans (extN_of (new_same nx ndx k4))) (t3.ext (new_same nx ndx k4)) (.inl ⟨c, hbd, st⟩)⟩⟩
      · rintro σ' B1 ⟨⟨x5, x6, rfl⟩, e, tb, et, su, ta, hb⟩
        rw [vi_len, List.take_length] at hb
        exact ⟨_, _, rfl, e, tb, et, su, hb⟩
    rintro σ' H3 ⟨x5, x6, rfl, e3, t3, et3, su3, hall⟩
    refine ⟨_, rfl, _, rfl, _, rfl, rfl, u, _, rfl, su3, fun f H4 s4 e4 => ?_⟩
    refine ⟨_, rfl, by show 1 ≤ sizeLine; decide, fun c nc => ?_⟩
    have s5 := Same.up (o := .tup [V.int (place : Nat)]) nc
    have ec := upd_same (H := H4) (a := c) (o := .tup [V.int (place : Nat)])
    generalize upd H4 c (.tup [V.int (place : Nat)]) = H5 at s5 ec
    have hll : l.length ≤ 12 := by
      have h1 := congrArg List.length b4
      have h2 := way_len w (by omega) (ks.length - 1) (by omega) hw.1
      have h3 := (way_idx hw (by omega) h.pl).2.1
      rw [List.length_append, ← el] at h1
      omega
    refine ⟨f, c, _, _, rfl, rfl, s5 _ _ e4, ec, by rw [List.length_reverse, vi_len, List.length_singleton, sizeLine_eq]; omega, fun g H6 s6 e6 => ?_⟩
    have s46 := s4.trans (s5.trans s6)
    have et6 := s46 _ _ et3
    have erv : (vi l).reverse ++ [V.int (place : Nat)] = vi (rvL place l) := by
      unfold rvL vi
      rw [List.reverse_cons, List.map_append, List.map_reverse]
      rfl
    rw [erv] at e6
    refine ⟨t, g, place, ks.length, w, ks, l, rfl, et6, SqT.of e6, rfl, h12, hw.1, b1, b2, fun H7 o s7 e7 => ?_⟩
    refine ⟨_, rfl, _, rfl, _, rfl, o, _, rfl, e7, fun f8 H8 s8 e8 => ?_⟩
    rw [cut_back, List.length_map, dn_len, ← List.map_take] at e8
    have et8 := s8 _ _ (s7 _ _ et6)
    refine ⟨_, rfl, _, rfl, t, _, _, _, rfl, rfl, SqT.of et8, key_at b1, fun x dx nx ndx nex => ?_⟩
    have s9 := new_up (C := A.CU) nx ndx nex
    refine ⟨x, dx, f8, (dnS ks place l).take (ks.length - 1), _, rfl, upd_same, .inr (s9 _ _ e8), fun H9 k9 st => ⟨rfl, ?_⟩⟩
    have s := s46.trans (s7.trans (s8.trans (new_same nx ndx k9)))
    refine q H9 x (e3.trans (extN_of s)) (t3.ext s) (.inr ⟨by rw [← el]; exact bad_none hall, ?_⟩)
    unfold undR
    rw [← el]
    exact st
end
end Tw

set_option Elab.async false
set_option linter.all false
set_option maxRecDepth 100000
set_option maxHeartbeats 2000000
namespace Tw
open PySem PySem.Spec PyProof.Rows L2
section
variable {P : Program} {w : World} {K : PySem.W.Frag} {mg : Str → Option Value} {base : Heap} {A : Ad}
open LamX (ExtN Tabs TabS)
structure AccE (Ts : List (Addr × Str)) (H1 : Hp) (D : Addr) (acc : List V) (H : Hp) : Prop where
  e : ExtN H1 H
  t : Tabs Ts H
  n : H1 D = Option.none
  a : H D = some (.lst acc)
theorem AccE.start {Ts : List (Addr × Str)} {H1 : Hp} {D : Addr} (t : Tabs Ts H1) (n : H1 D = none) : AccE Ts H1 D [] (upd H1 D (.lst [])) := ⟨extN_of (Same.up n), t.ext (Same.up n), n, upd_same⟩
theorem AccE.ext {Ts : List (Addr × Str)} {H1 H H' : Hp} {D : Addr} {acc : List V} (h : AccE Ts H1 D acc H) (e : ExtN H H') (t : Tabs Ts H') : AccE Ts H1 D acc H' := ⟨h.e.trans e, t, h.n, e _ _ h.a (fun ps z => nomatch z)⟩
theorem AccE.push {Ts : List (Addr × Str)} {H1 H : Hp} {D : Addr} {acc zs : List V} (h : AccE Ts H1 D acc H) : AccE Ts H1 D zs (upd H D (.lst zs)) :=
  ⟨fun b o e n => by rw [upd_ne (ne_of_none e h.n)]; exact h.e _ _ e n, tabs_upd h.t h.a, h.n, upd_same⟩
def freeB (w : Nat) (ks : List Int) (p : Nat) : Bool := decide (badL ks.length w ks (belL w ks.length p) = none)
theorem way_n12 : ∀ w, w < 5 → ∀ i, i < 13 → 1 ≤ w → (wayL w i).length ≤ 13 := by decide +kernel
def lastP (w : Nat) (ks : List Int) : List Nat := (wayL w (ks.length - 1)).filter (freeB w ks)
structure HpD (H : Hp) (r w : Nat) (ks : List Int) : Prop where
  hw : 1 ≤ w ∧ w ≤ 4
  row : RowIn H r ks
  fl : faultL ks w = []
  nd : ks.Nodup
  h1 : 1 ≤ ks.length
def spLp (A : Ad) : Sp := fun vs H Q _ => ∃ (r w : Nat) (ks : List Int), vs = [.ref r, .int w] ∧ HpD H r w ks ∧ Tabs (TT A) H ∧
  ∀ H' q, ExtN H H' → Tabs (TT A) H' → H' q = some (.lst (vi (lastP w ks))) → Q (.ref q) H'
theorem ok_lp (T : Tx K mg A) (TB : LamX.TabB base mg A.c_undo_push A.P_undo_push) : FnOk P w K mg base CX0 12 A.f_last_places A.d_last_places ["row", "arms"] (spLp A) := by
  obtain ⟨mu, kup⟩ := kup2 T
  refine T.F_last_places.ok sc_last_places (fun vs H Q E h => ?_) (fun cdv B outer s H vs Q E hr h => ?_)
  · obtain ⟨r, w, ks, rfl, _⟩ := h
    rfl
  · obtain ⟨r, w, ks, rfl, hp, hT, q⟩ := h
    have nd := sc_last_places.nd
    have h12 := hp.row.2.1
    have h1 := hp.h1
    have hw := hp.hw
    refine ⟨_, (pss_cons (ps_set (i := 2) nd rfl (Or.inr rfl) (pe_call (ok_dh T) (hr.mono (by decide)) (by rfl) T.m_different_heap_of T.F_different_heap_of.kp (b_dh T) .nil pass0 (pa_cons (pv 0) (pa_cons (pv 1) pa_nil))))
      (pss_cons (ps_expr (pe_call (ok_cf T) (hr.mono (by decide)) (by rfl) T.m_check_filled T.F_check_filled.kp (b_cf T) .nil pass0 (pa_cons (pv 2) pa_nil)))
      (pss_one (ps_ret (pe_lc (own := [("place", 3)]) (g := gName 3) rfl nd (pi_tup (pe_call (ok_lw T) (hr.mono (by decide)) (by rfl) T.m_last_way T.F_last_way.kp (b_lw T) .nil pass0 (pa_cons (pv 2) (pa_cons (pv 1) pa_nil)))) (blkOk_by (own := [("place", 3)]) (N := ["row", "arms", "heap", "place"]) (sc := (defScope s_last_places)) (by decide +kernel)) (fun _ _ _ _ _ => pg_name (i := 3) nd rfl (Or.inl rfl)) (fun _ _ _ _ _ => pts_one (pt_val (pe_callB (r := rIsi K) call_isi (by rfl) T.g_isinstance (by decide +kernel) (pa_cons (pe_callN (ok_up2 T TB) (hr.mono (by decide)) (by rfl) T.m_undo_push T.F_undo_push.kp kup pass0 (pa_cons (pv 2) (pa_cons (pv 3) pa_nil)) (pk_cons (pv 1) pk_nil)) (pa_cons (pe_glob (v := .ref A.CU) (by rfl) T.mCU (relR _)) pa_nil))))) (fun _ _ _ _ _ => (pv 3))))))), ?_⟩
    refine ⟨_, rfl, _, rfl, r, w, ks, rfl, hw, hp.row, hp.fl, hp.nd, fun H1 t s1 et => ?_⟩
    have hne : ks.map V.int ≠ [] := fun z => by
      have := List.map_eq_nil_iff.mp z
      rw [this] at h1
      exact absurd h1 (by decide)
    refine ⟨_, rfl, t, _, rfl, et, hne, ?_⟩
    refine ⟨_, rfl, _, rfl, t, w, ks, rfl, hw, et, h1, h12, hp.row.2.2, fun H2 u s2 fu => ?_⟩
    have s12 := s1.trans s2
    have et2 := s2 _ _ et
    have hsq : SqT K H2 u (vi (wayL w (ks.length - 1))) := fu.sq
    refine ⟨u, rfl, ⟨_, hsq⟩, fun D nD => ?_⟩
    have hwl := way_n12 w (by omega) (ks.length - 1) (by omega) hw.1
    refine lc_it (walk_tup (xs := vi (wayL w (ks.length - 1)))) (fun i H' => AccE (TT A) H2 D (vi (((wayL w (ks.length - 1)).take i).filter (freeB w ks))) H') (AccE.start (hT.ext s12) nD) (fun i H' _ ac => ac.e.sqT hsq) ?_ ?_
    · rintro i x H3o H3 hi ac ⟨rfl, hx⟩
      rw [vi_len] at hi
      rw [vi_getD hi] at hx
      cases hx
      have el2 : (wayL w (ks.length - 1)).getD i 0 = (wayL w (ks.length - 1))[i] := by rw [List.getD_eq_getElem?_getD, List.getElem?_eq_getElem hi]; rfl
      rw [el2]
      have hpm : (wayL w (ks.length - 1))[i] ∈ wayL w (ks.length - 1) := List.getElem_mem hi
      rw [← List.take_append_getElem hi, List.filter_append]
      generalize (wayL w (ks.length - 1))[i] = p at *
      have et3 : H3 t = some (.tup (ks.map V.int)) := ac.e _ _ et2 (fun ps z => nomatch z)
      have pu : PuOk H3 t w ks p := ⟨hw, ⟨.inr et3, h12, hp.row.2.2⟩, hp.fl, hp.nd, h1, hpm⟩
      refine ⟨rfl, _, rfl, _, rfl, _, rfl, rfl, rfl, t, w, p, ks, rfl, pu, ac.t, fun H4 q4 e4 t4 fnd => ?_⟩
      have ac4 := ac.ext e4 t4
      rcases fnd with ⟨c, hb, dy, g⟩ | ⟨hb, dy, t0, g, g0⟩
      · have hf : freeB w ks p = false := decide_eq_false (by rw [hb]; intro z; cases z)
        refine ⟨_, _, .ref A.CY, .ref A.CU, false, rfl, .own A.CU, .base (.ins g T.cTY T.kaY T.knY T.ktkY T.kmY), T.kiU_CY, _, rfl, iteF ?_⟩
        rw [List.filter_cons_of_neg (by rw [hf]; exact Bool.false_ne_true), List.filter_nil, List.append_nil]
        exact ac4
      · have hf : freeB w ks p = true := decide_eq_true hb
        refine ⟨_, _, .ref A.CU, .ref A.CU, true, rfl, .own A.CU, .base (.ins g T.cTU T.kaU T.knU T.ktkU T.kmU), (by unfold PySem.W.kitOne; rw [if_pos (by simp)]), _, rfl, iteT ⟨_, rfl, ?_⟩⟩
        rw [List.filter_cons_of_pos hf, List.filter_nil, vi_app]
        refine ⟨_, ac4.a, small1000 ?_, ac4.push⟩
        have := List.length_filter_le (freeB w ks) ((wayL w (ks.length - 1)).take i)
        rw [List.length_take] at this
        rw [vi_len]
        omega
    · intro H3 ac
      rw [vi_len, List.take_length] at ac
      exact q H3 D ((extN_of s12).trans ac.e) ac.t ac.a
def spPon (K : PySem.W.Frag) : Sp := fun vs H Q _ => ∃ (t w : Nat) (xs : List V), vs = [.ref t, .int w] ∧ (1 ≤ w ∧ w ≤ 4) ∧ SqT K H t xs ∧ 1 ≤ xs.length ∧ xs.length < 12 ∧ ∀ H', Same H H' → Q (.int ((xs.length - 1) / w : Nat)) H'
theorem ok_pon (T : Tx K mg A) : FnOk P w K mg base CX0 7 A.f_place_over_next A.d_place_over_next ["heap", "arms"] (spPon K) := by
  obtain ⟨mi, ki⟩ := kb_init T
  refine T.F_place_over_next.ok sc_place_over_next (fun vs H Q E h => ?_) (fun cdv B outer s H vs Q E hr h => ?_)
  · obtain ⟨t, w, xs, rfl, _⟩ := h
    rfl
  · obtain ⟨t, w, xs, rfl, hw, ht, h1, h12, q⟩ := h
    refine ⟨_, (pss_one (ps_ret (pe_meth (pe_makeK T.mkC (ok_init T) (hr.mono (by decide)) (by rfl) T.mC ki pass0 (pa_cons (pe_op op_add (pe_callB call_len_seq (by rfl) T.g_len PySem.boot_len (pa_cons (pv 0) pa_nil)) pe_int) pa_nil) (pk_cons (pv 1) pk_nil)) T.cT T.M_t_parent (ok_par T) (hr.mono (by decide)) (b_par T) .nil pass0 (pa_cons (pe_callB call_len_seq (by rfl) T.g_len PySem.boot_len (pa_cons (pv 0) pa_nil)) pa_nil)))), ?_⟩
    refine ⟨_, rfl, t, _, rfl, .inr ht, _, _, rfl, rfl, _, rfl, rfl, rfl, fun x dx nx ndx nex => ?_⟩
    refine ⟨x, dx, xs.length + 1, w, rfl, by omega, hw, upd_same, fun H2 k2 t2 => ⟨rfl, ?_⟩⟩
    have s1 := new_same nx ndx k2
    obtain ⟨dx2, l, g1, g2⟩ := id t2.ob
    have noP : (tf (xs.length + 1) w l).lookup ("parent" : Str) = none := tf_no _ _ _ (by decide +kernel) (by decide +kernel) (by decide +kernel)
    refine ⟨x, dx2, _, rfl, g1, noP, _, rfl, t, _, rfl, .inr (SqT.sm s1 ht), x, xs.length + 1, w, xs.length, rfl, t2, by omega, ?_⟩
    rw [show parV w xs.length = V.int (((xs.length - 1) / w : Nat) : Int) by unfold parV; rw [if_neg (by omega)]]
    exact q H2 s1
theorem up_chain : ∀ w, w < 5 → ∀ p, p < 13 → 1 ≤ w → ∀ i, i < (upL w p).length - 1 → (upL w p).getD i 0 ≠ 0 ∧ ((upL w p).getD i 0 - 1) / w = (upL w p).getD (i + 1) 0 := by decide +kernel
theorem up_ends : ∀ w, w < 5 → ∀ p, p < 13 → 1 ≤ w → (upL w p).getD ((upL w p).length - 1) 0 = 0 ∧ 1 ≤ (upL w p).length ∧ (upL w p).getD 0 0 = p ∧ ∀ i, i < (upL w p).length → (upL w p).getD i 0 ≤ p := by decide +kernel
/-- two lists of one's own -/
structure Two (H : Hp) (D W : Addr) (xs ys : List V) (H' : Hp) : Prop where
  s : Same H H'
  d : H' D = some (.lst xs)
  w : H' W = some (.lst ys)
  nD : H D = Option.none
  nW : H W = Option.none
  ne : D ≠ W
theorem Two.setD {H H' : Hp} {D W : Addr} {xs ys zs : List V} (h : Two H D W xs ys H') : Two H D W zs ys (upd H' D (.lst zs)) :=
  ⟨fun b o e => by rw [upd_ne (ne_of_none e h.nD)]; exact h.s _ _ e, upd_same, by rw [upd_ne h.ne.symm]; exact h.w, h.nD, h.nW, h.ne⟩
theorem Two.setW {H H' : Hp} {D W : Addr} {xs ys zs : List V} (h : Two H D W xs ys H') : Two H D W xs zs (upd H' W (.lst zs)) :=
  ⟨fun b o e => by rw [upd_ne (ne_of_none e h.nW)]; exact h.s _ _ e, by rw [upd_ne h.ne]; exact h.d, upd_same, h.nD, h.nW, h.ne⟩
theorem Two.same {H H' H2 : Hp} {D W : Addr} {xs ys : List V} (h : Two H D W xs ys H') (s : Same H' H2) : Two H D W xs ys H2 := ⟨h.s.trans s, s _ _ h.d, s _ _ h.w, h.nD, h.nW, h.ne⟩
theorem cut_last (xs : List V) (h : xs ≠ []) : cutV xs none (some (-1)) = xs.take (xs.length - 1) ∧ ¬ (HT.sIx xs.length 0 none = 0 ∧ HT.sIx xs.length xs.length (some (-1)) = xs.length) := by
  have hl := List.length_pos_iff.mpr h
  have e : HT.sIx xs.length xs.length (some (-1)) = xs.length - 1 := by
    unfold HT.sIx
    simp
    try omega
  have e0 : HT.sIx xs.length 0 none = 0 := rfl
  refine ⟨?_, fun z => ?_⟩
  · unfold cutV
    rw [e, e0]
    simp
  · rw [e] at z
    omega
theorem rev_at {U : List Nat} {i : Nat} (h : i + 1 < U.length) : ((U.reverse).take (U.length - 1))[(U.length - 1) - 1 - i]? = some (U.getD (i + 1) 0) := by
  rw [List.getElem?_take_of_lt (by omega), List.getElem?_reverse (by omega), List.getD_eq_getElem?_getD, show U.length - 1 - (U.length - 1 - 1 - i) = i + 1 by omega, List.getElem?_eq_getElem h]
  rfl
def spUp (C : Addr) : Sp := fun vs H Q _ => ∃ (r p w : Nat) (ks : List Int), vs = [.ref r, .int p, .int w] ∧ (1 ≤ w ∧ w ≤ 4) ∧ RowIn H r ks ∧ p < ks.length ∧
  ∀ (H' : Hp) (q : Addr), Same H H' → resSift C H' q (goUp w 20 ks p [p] 0) → Q (.ref q) H'
theorem ok_up (T : Tx K mg A) : FnOk P w K mg base CX0 7 A.f_sift_up A.d_sift_up ["row", "place", "arms"] (spUp A.CS) := by
  obtain ⟨mo, ko⟩ := kb_of T
  refine T.F_sift_up.ok sc_sift_up (fun vs H Q E h => ?_) (fun cdv B outer s H vs Q E hr h => ?_)
  · obtain ⟨r, p, w, ks, rfl, _⟩ := h
    rfl
  · obtain ⟨r, p, w, ks, rfl, hw, hrow, hp, q⟩ := h
    have nd := sc_sift_up.nd
    refine ⟨_, PSs.nox (pss_cons (ps_set (i := 3) nd rfl (Or.inl rfl) (pe_cmethK (pe_glob (v := .ref A.C) (by rfl) T.mC (relR _)) T.cr T.cof (ok_of T) hr ko pass0 (pa_cons (pv 0) pa_nil) (pk_cons (pv 2) pk_nil)))
      (pss_cons (ps_set (i := 4) nd rfl (Or.inl rfl) (pe_slice sl_tup (pe_meth (pv 3) T.cT T.M_t_way_to (ok_way T) (hr.mono (by decide)) (b_way T) .nil pass0 (pa_cons (pv 1) pa_nil)) po_none (po_some (pe_un un_neg pe_int))))
      (pss_cons (ps_set (i := 5) nd rfl (Or.inl rfl) (pe_callTy call_list_of (by rfl) T.g_list (by decide +kernel) (pa_cons (pv 0) pa_nil)))
      (pss_cons (ps_set (i := 6) nd rfl (Or.inl rfl) (pe_lst (pa_cons (pv 1) pa_nil)))
      (pss_cons (ps_set (i := 7) nd rfl (Or.inl rfl) pe_int)
      (C8.pss_cut (ps_for PassesOwn.never rfl (pi_reversed (by rfl) T.g_reversed (pa_cons (pe_callTy call_list_of (by rfl) T.g_list (by decide +kernel) (pa_cons (pv 4) pa_nil)) pa_nil)) (pg_name (i := 8) nd rfl (Or.inl rfl)) (pss_cons (ps_set (i := 9) nd rfl (Or.inl rfl) (pe_ix ix_list (pv 6) (pe_un un_neg pe_int) (fun _ _ => rfl)))
      (pss_cons (ps_aug (i := 7) nd rfl (Or.inl rfl) pe_int ip_add)
      (pss_cons (ps_if (pt_cmpR op_ge (pe_ix ix_list (pv 5) (pv 9) (fun _ _ => rfl)) (pe_ix ix_list (pv 5) (pv 8) (fun _ _ => rfl)) (nomark _)) (pss_one ps_break) pss_nil)
      (pss_cons (ps_asg (pe_tup (pa_cons (pe_ix ix_list (pv 5) (pv 8) (fun _ _ => rfl)) (pa_cons (pe_ix ix_list (pv 5) (pv 9) (fun _ _ => rfl)) pa_nil))) (pg_tup rfl (pgs_cons (pg_sub (pv 5) (pv 9) set_list) (pgs_cons (pg_sub (pv 5) (pv 8) set_list) pgs_nil))))
      (pss_one (ps_expr (pe_bm PySem.F.plainAttrs_list PySem.F.slot_list_append PySem.F.type_list_append mt_append (pv 6) (pa_cons (pv 8) pa_nil)))))))))
      (pss_one (ps_ret (pe_make T.mkCS (ok_zi T) (hr.mono (by decide)) (by rfl) T.mCS (b_zi T) .nil pass0 (pa_cons (pv 5) (pa_cons (pv 6) (pa_cons (pv 7) pa_nil)))))))))))), ?_⟩
    refine ⟨rfl, _, rfl, _, rfl, rfl, rfl, r, w, ks, rfl, hw, hrow.1, hrow.2.1, hrow.2.2, fun H1 tr s1 p0 t1 => ?_⟩
    obtain ⟨dx, l, h1, h2⟩ := t1.ob
    have noW : (tf ks.length w l).lookup ("way_to" : Str) = none := tf_no _ _ _ (by decide +kernel) (by decide +kernel) (by decide +kernel)
    have hk12 := hrow.2.1
    obtain ⟨u0, u1, u2, u3⟩ := up_ends w (by omega) p (by omega) hw.1
    have uc := up_chain w (by omega) p (by omega) hw.1
    have ul := up_len w (by omega) p (by omega) hw.1
    refine ⟨_, rfl, tr, dx, _, rfl, h1, noW, _, rfl, tr, ks.length, w, p, rfl, t1, hp, fun H2 t0 s2 n2 e2 => ?_⟩
    have ew : wayL w p = (upL w p).reverse := rfl
    have wl : (vi (wayL w p)).length = (upL w p).length := by rw [vi_len, ew, List.length_reverse]
    obtain ⟨c1, c2⟩ := cut_last (vi (wayL w p)) (List.length_pos_iff.mp (by rw [wl]; omega))
    refine ⟨_, rfl, _, rfl, t0, _, rfl, SqT.of e2, c2, fun ab nab => ?_⟩
    rw [c1, wl]
    have s3 : Same H2 (upd H2 ab (.tup ((vi (wayL w p)).take ((upL w p).length - 1)))) := Same.up nab
    have e3 : upd H2 ab (.tup ((vi (wayL w p)).take ((upL w p).length - 1))) ab = some (.tup ((vi (wayL w p)).take ((upL w p).length - 1))) := upd_same
    generalize upd H2 ab (.tup ((vi (wayL w p)).take ((upL w p).length - 1))) = H3 at s3 e3
    have s13 : Same H H3 := s1.trans (s2.trans s3)
    refine ⟨_, rfl, r, _, rfl, (hrow.1.same s13).len, fun D nD => ?_⟩
    refine ⟨_, rfl, by show 1 ≤ sizeLine; decide, fun W nW => ?_⟩
    have nDW : D ≠ W := ne_of_none (upd_same (H := H3) (a := D)) nW
    have two0 : Two H3 D W (ks.map V.int) (vi [p]) (upd (upd H3 D (.lst (ks.map V.int))) W (.lst [V.int (p : Nat)])) :=
      ⟨(Same.up nD).trans (Same.up nW), by rw [upd_ne nDW]; exact upd_same, upd_same, nD, (Same.up nD).free nW, nDW⟩
    generalize upd (upd H3 D (.lst (ks.map V.int))) W (.lst [V.int (p : Nat)]) = H4 at two0
    -- the loop
    refine ⟨fun σ' H' => ∃ (x8 x9 : Option V), σ' = [some (.ref r), some (.int p), some (.int w), some (.ref tr), some (.ref ab), some (.ref D), some (.ref W), some (.int ((goUp w 20 ks p [p] 0).2.2 : Nat)), x8, x9] ∧ Two H3 D W ((goUp w 20 ks p [p] 0).1.map V.int) (vi (goUp w 20 ks p [p] 0).2.1) H', ?_, ?_⟩
    · refine ⟨_, rfl, ab, _, rfl, .inr (SqT.of (two0.s _ _ e3)), fun c nc => ?_⟩
      have two1 := two0.same (Same.up (o := .lst ((vi (wayL w p)).take ((upL w p).length - 1))) nc)
      have ec : upd H4 c (.lst ((vi (wayL w p)).take ((upL w p).length - 1))) c = some (.lst ((vi (wayL w p)).take ((upL w p).length - 1))) := upd_same
      have nDc : D ≠ c := ne_of_none two0.d nc
      have nWc : W ≠ c := ne_of_none two0.w nc
      generalize upd H4 c (.lst ((vi (wayL w p)).take ((upL w p).length - 1))) = H5 at two1 ec
      have zl : ((vi (wayL w p)).take ((upL w p).length - 1)).length = (upL w p).length - 1 := by rw [List.length_take, wl]; omega
      refine ⟨c, _, rfl, SqL.of ec, RT.for_Itv (fun i σ' H' => ∃ (ks' : List Int) (way : List Nat) (lk : Nat) (x8 x9 : Option V), σ' = [some (.ref r), some (.int p), some (.int w), some (.ref tr), some (.ref ab), some (.ref D), some (.ref W), some (.int lk), x8, x9] ∧ Two H3 D W (ks'.map V.int) (vi (way ++ [(upL w p).getD i 0])) H' ∧
        H' c = some (.lst ((vi (wayL w p)).take ((upL w p).length - 1))) ∧ i ≤ (upL w p).length - 1 ∧ ks'.length = ks.length ∧ way.length = i ∧ goUp w 20 ks p [p] 0 = goUp w (20 - i) ks' ((upL w p).getD i 0) (way ++ [(upL w p).getD i 0]) lk) ?_ ?_ ?_ ?_⟩
      · exact ⟨ks, [], 0, none, none, rfl, by rw [u2]; exact two1, ec, by omega, rfl, rfl, by rw [u2]; rfl⟩
      · rintro i σ' H' ⟨_, _, _, _, _, _, _, h, _⟩
        exact SqL.of h
      · rintro i x σ' H' hi hx ⟨ks', way, lk, x8, x9, rfl, two, hc, hi2, hkl, hwl, eg⟩
        rw [zl] at hi hx
        obtain ⟨n0, np⟩ := uc i hi
        have hx2 : x = V.int (((upL w p).getD (i + 1) 0 : Nat) : Int) := by
          have e := rev_at (U := upL w p) (i := i) (by omega)
          rw [← ew] at e
          unfold vi at hx
          rw [← List.map_take, List.getElem?_map, e] at hx
          exact (Option.some.inj hx).symm
        subst hx2
        have b1 := u3 i (by omega)
        have b2 := u3 (i + 1) (by omega)
        have hc1 : (upL w p).getD i 0 < ks'.length := by omega
        have hc2 : (upL w p).getD (i + 1) 0 < ks'.length := by omega
        have hlast : atI (vi (way ++ [(upL w p).getD i 0])) (-1) = some (V.int (((upL w p).getD i 0 : Nat) : Int)) := by
          rw [vi_app]
          exact last_at
        have hlen14 : (way ++ [(upL w p).getD i 0]).length ≤ 900 := by rw [List.length_append, List.length_singleton]; omega
        have ef : 20 - i = (20 - (i + 1)) + 1 := by omega
        generalize (upL w p).getD i 0 = cur at *
        generalize (upL w p).getD (i + 1) 0 = nx at *
        rw [ef] at eg
        refine ⟨_, rfl, _, rfl, W, _, _, _, rfl, rfl, SqL.of two.w, hlast, ?_⟩
        refine ⟨_, rfl, _, _, rfl, rfl, ?_⟩
        refine ⟨_, rfl, _, rfl, D, _, _, _, rfl, rfl, SqL.of two.d, key_at hc1, _, rfl, _, rfl, D, _, _, _, rfl, rfl, SqL.of two.d, key_at hc2, _, _, rfl, rfl, _, rfl, ?_⟩
        by_cases hlt : keyAt ks' cur < keyAt ks' nx
        · rw [decide_eq_false (show ¬ keyAt ks' cur ≥ keyAt ks' nx by omega)]
          refine iteF ?_
          rw [goUp_go n0 (by rw [np]; exact hlt), np] at eg
          refine ⟨_, rfl, _, rfl, D, _, _, _, rfl, rfl, SqL.of two.d, key_at hc2, _, rfl, _, rfl, D, _, _, _, rfl, rfl, SqL.of two.d, key_at hc1, by show 2 ≤ sizeLine; decide, fun t ht => ?_⟩
          have ntc : c ≠ t := ne_of_none hc ht
          have two2 := two.same (Same.up (o := .tup [V.int (keyAt ks' nx), V.int (keyAt ks' cur)]) ht)
          have hc3 := (Same.up (o := .tup [V.int (keyAt ks' nx), V.int (keyAt ks' cur)]) ht) _ _ hc
          have et : upd H' t (.tup [V.int (keyAt ks' nx), V.int (keyAt ks' cur)]) t = some (.tup [V.int (keyAt ks' nx), V.int (keyAt ks' cur)]) := upd_same
          generalize upd H' t (.tup [V.int (keyAt ks' nx), V.int (keyAt ks' cur)]) = G at two2 hc3 et
          refine ⟨t, _, rfl, SqT.of et, rfl, _, _, rfl, _, rfl, _, rfl, D, _, _, cur, rfl, rfl, two2.d, ixN_nat (by rw [List.length_map]; exact hc1), ?_⟩
          rw [set_int]
          have two3 : Two H3 D W ((ks'.set cur (keyAt ks' nx)).map V.int) (vi (way ++ [cur])) (upd G D (.lst ((ks'.set cur (keyAt ks' nx)).map V.int))) := two2.setD
          have hc4 : upd G D (.lst ((ks'.set cur (keyAt ks' nx)).map V.int)) c = some (.lst ((vi (wayL w p)).take ((upL w p).length - 1))) := by rw [upd_ne nDc.symm]; exact hc3
          generalize upd G D (.lst ((ks'.set cur (keyAt ks' nx)).map V.int)) = G2 at two3 hc4
          refine ⟨_, _, rfl, _, rfl, _, rfl, D, _, _, nx, rfl, rfl, two3.d, ixN_nat (by rw [List.length_map, List.length_set]; exact hc2), ?_⟩
          rw [set_int, show (ks'.set cur (keyAt ks' nx)).set nx (keyAt ks' cur) = swp ks' cur nx from rfl]
          have two4 : Two H3 D W ((swp ks' cur nx).map V.int) (vi (way ++ [cur])) (upd G2 D (.lst ((swp ks' cur nx).map V.int))) := two3.setD
          have hc5 : upd G2 D (.lst ((swp ks' cur nx).map V.int)) c = some (.lst ((vi (wayL w p)).take ((upL w p).length - 1))) := by rw [upd_ne nDc.symm]; exact hc4
          generalize upd G2 D (.lst ((swp ks' cur nx).map V.int)) = G3 at two4 hc5
          refine ⟨rfl, _, rfl, .inl ⟨rfl, _, SqL.of two4.w⟩, _, rfl, W, _, _, rfl, rfl, two4.w, small1000 (by rw [vi_len]; omega), ?_⟩
          have em : vi (way ++ [cur]) ++ [V.int (nx : Nat)] = vi ((way ++ [cur]) ++ [nx]) := by rw [vi_app (way ++ [cur])]; rfl
          rw [em]
          refine ⟨swp ks' cur nx, way ++ [cur], lk + 1, _, _, rfl, two4.setW, by rw [upd_ne nWc.symm]; exact hc5, by omega, by rw [swp_len]; exact hkl, by rw [List.length_append, hwl]; rfl, eg⟩
        · rw [decide_eq_true (show keyAt ks' cur ≥ keyAt ks' nx by omega)]
          refine iteT ?_
          rw [goUp_stay n0 (by rw [np]; exact hlt)] at eg
          rw [eg]
          exact ⟨_, _, rfl, two⟩
      · rintro σ' H' ⟨ks', way, lk, x8, x9, rfl, two, hc, hi2, hkl, hwl, eg⟩
        rw [zl, u0, goUp_root] at eg
        rw [zl, u0] at two
        rw [eg]
        exact ⟨x8, x9, rfl, two⟩
    · rintro σ' H' ⟨x8, x9, rfl, two⟩
      refine ⟨_, rfl, _, rfl, _, rfl, fun x dx2 nx ndx nex => ?_⟩
      have hD := (Same.up (o := .own x) ndx) _ _ two.d
      have hW := (Same.up (o := .own x) ndx) _ _ two.w
      have nx2 : upd H' dx2 (.own x) x = none := by rw [upd_ne nex.symm]; exact nx
      refine ⟨x, dx2, D, W, _, (goUp w 20 ks p [p] 0).1, wz (goUp w 20 ks p [p] 0).2.1, rfl, upd_same, .inl ((Same.up nx2) _ _ hD), .inl (by rw [← vi_wz]; exact (Same.up nx2) _ _ hW), fun H6 k6 st => ⟨rfl, q H6 x ?_ st⟩⟩
      exact s13.trans (two.s.trans (new_same nx ndx k6))
theorem kb_up (T : Tx K mg A) : ∃ mv : List Value, KBn K A.d_sift_up ["row", "place", "arms"] 2 ["arms"] (fun us ws => us ++ (mv ++ ws)) (fun vs zs => vs ++ zs) := by
  obtain ⟨mv, h⟩ := T.F_sift_up.kbinds0 (ps := ["row", "place", "arms"]) 2 ["arms"] [] (fun us mv ws => us ++ (mv ++ ws)) (by simp) (by simp) (fun r1 r2 r3 => r1.append (r2.append r3))
    (fun D doc pm an cdv ct us mv ws h1 h2 h3 => by
      match us, mv, ws, h1, h2, h3 with
      | [a, b], [], [c], _, _, _ => rfl)
  exact ⟨mv, h⟩
theorem map_one (l : List Int) (x : Int) : l.map V.int ++ [V.int x] = (l ++ [x]).map V.int := by rw [List.map_append]; rfl
def spCk : Sp := fun vs H Q _ => ∃ i : Int, vs = [.int i] ∧ (-1000000000 ≤ i ∧ i ≤ 1000000000) ∧ Q .non H
theorem ok_ck (T : Tx K mg A) : FnOk P w K mg base CX0 4 A.f_check_key A.d_check_key ["key"] spCk := by
  refine T.F_check_key.ok sc_check_key (fun vs H Q E h => ?_) (fun cdv B outer s H vs Q E hr h => ?_)
  · obtain ⟨i, rfl, _⟩ := h
    rfl
  · obtain ⟨i, rfl, hi, q⟩ := h
    refine ⟨_, (pss_one (ps_if (pt_not (pt_val (pe_call (ok_key T) (hr.mono (by decide)) (by rfl) T.m_is_key T.F_is_key.kp (b_key T) .nil pass0 (pa_cons (pv 0) pa_nil)))) (pss_one ps_never) pss_nil)), ?_⟩
    refine ⟨_, rfl, i, rfl, _, rfl, ?_⟩
    rw [decide_eq_true hi]
    exact iteF q
theorem b_ck (T : Tx K mg A) : L2.Binds K A.d_check_key ["key"] [] := T.F_check_key.binds fun _ _ _ _ _ _ us hl => match us, hl with | [_], _ => rfl
def spPush (A : Ad) : Sp := fun vs H Q _ => ∃ (r w : Nat) (k : Int) (ks : List Int), vs = [.ref r, .int k, .int w] ∧ (1 ≤ w ∧ w ≤ 4) ∧ RowIn H r ks ∧ faultL ks w = [] ∧ (-1000000000 ≤ k ∧ k ≤ 1000000000) ∧ ks.length < 12 ∧
  ∀ (H' : Hp) (q : Addr), Same H H' → resSift A.CS H' q (goUp w 20 (ks ++ [k]) ks.length [ks.length] 0) → Q (.ref q) H'
theorem ok_push (T : Tx K mg A) : FnOk P w K mg base CX0 9 A.f_push A.d_push ["row", "key", "arms"] (spPush A) := by
  obtain ⟨mu, ku⟩ := kb_up T
  refine T.F_push.ok sc_push (fun vs H Q E h => ?_) (fun cdv B outer s H vs Q E hr h => ?_)
  · obtain ⟨r, w, k, ks, rfl, _⟩ := h
    rfl
  · obtain ⟨r, w, k, ks, rfl, hw, hrow, hf, hk, hlt, q⟩ := h
    have nd := sc_push.nd
    obtain ⟨t12, hg⟩ := cst T.c_MOST_PLACES
    refine ⟨_, PSs.nox (pss_cons (ps_set (i := 3) nd rfl (Or.inl rfl) (pe_call (ok_hp T) (hr.mono (by decide)) (by rfl) T.m_heap_of T.F_heap_of.kp (b_hp T) .nil pass0 (pa_cons (pv 0) (pa_cons (pv 2) pa_nil))))
      (pss_cons (ps_expr (pe_call (ok_ck T) (hr.mono (by decide)) (by rfl) T.m_check_key T.F_check_key.kp (b_ck T) .nil pass0 (pa_cons (pv 1) pa_nil)))
      (pss_cons (ps_if (pt_cmpR op_eq (pe_callB call_len_seq (by rfl) T.g_len PySem.boot_len (pa_cons (pv 3) pa_nil)) (pe_glob (by rfl) hg (relI _ _)) (nomark _)) (pss_one ps_never) pss_nil)
      (pss_one (ps_ret (pe_callN (ok_up T) (hr.mono (by decide)) (by rfl) T.m_sift_up T.F_sift_up.kp ku pass0 (pa_cons (pe_op op_catA (pv 3) (pe_tup (pa_cons (pv 1) pa_nil))) (pa_cons (pe_callB call_len_seq (by rfl) T.g_len PySem.boot_len (pa_cons (pv 3) pa_nil)) pa_nil)) (pk_cons (pv 2) pk_nil))))))), ?_⟩
    refine ⟨_, rfl, _, rfl, r, w, ks, rfl, hw, hrow, hf, fun H1 t s1 e1 => ?_⟩
    refine ⟨_, rfl, k, rfl, hk, ?_⟩
    refine ⟨_, rfl, t, _, rfl, .inr (SqT.of e1), rfl, _, rfl, ?_⟩
    rw [decide_eq_false (show ¬ V.int ((ks.map V.int).length : Nat) = V.int 12 by rw [List.length_map]; intro z; injection z with z; omega)]
    refine iteF ?_
    refine ⟨_, rfl, _, rfl, by show 1 ≤ sizeLine; decide, fun u nu => ?_⟩
    have su := Same.up (o := .tup [V.int k]) nu
    refine ⟨t, u, _, _, rfl, rfl, SqT.of (su _ _ e1), SqT.of upd_same, Nat.le_of_lt (small1000 (by rw [List.length_map, List.length_singleton]; omega)), fun hn => ?_, fun _ z => (nomatch z), fun hn _ c nc => ?_⟩
    · have e0 : ks = [] := List.map_eq_nil_iff.mp hn
      obtain ⟨c, rfl⟩ : ∃ c, c = u := ⟨u, rfl⟩
      have s2 := su
      have ec : upd H1 c (.tup [V.int k]) c = some (.tup ((ks ++ [k]).map V.int)) := by rw [e0]; exact upd_same
      clear su
      generalize upd H1 c (.tup [V.int k]) = H2 at s2 ec
      refine ⟨_, rfl, t, _, rfl, .inr (SqT.of (s2 _ _ e1)), _, rfl, rfl, rfl, c, ks.length, w, ks ++ [k], by rw [List.length_map]; rfl, hw, ⟨.inr ec, by rw [List.length_append, List.length_singleton]; omega, ?_⟩, by rw [List.length_append, List.length_singleton]; omega, fun H3 u s3 ru => q H3 u (s1.trans (s2.trans s3)) ru⟩
      intro z hz
      rcases List.mem_append.mp hz with y | y
      · exact hrow.2.2 z y
      · rw [List.mem_singleton.mp y]
        exact hk
    · rw [map_one]
      have s2 := su.trans (Same.up (o := .tup ((ks ++ [k]).map V.int)) nc)
      have ec : upd (upd H1 u (.tup [V.int k])) c (.tup ((ks ++ [k]).map V.int)) c = some (.tup ((ks ++ [k]).map V.int)) := upd_same
      generalize upd (upd H1 u (.tup [V.int k])) c (.tup ((ks ++ [k]).map V.int)) = H2 at s2 ec
      refine ⟨_, rfl, t, _, rfl, .inr (SqT.of (s2 _ _ e1)), _, rfl, rfl, rfl, c, ks.length, w, ks ++ [k], by rw [List.length_map]; rfl, hw, ⟨.inr ec, by rw [List.length_append, List.length_singleton]; omega, ?_⟩, by rw [List.length_append, List.length_singleton]; omega, fun H3 u s3 ru => q H3 u (s1.trans (s2.trans s3)) ru⟩
      intro z hz
      rcases List.mem_append.mp hz with y | y
      · exact hrow.2.2 z y
      · rw [List.mem_singleton.mp y]
        exact hk
theorem cut_rest (ks : List Int) (h : 1 ≤ ks.length) : cutV (ks.map V.int) (some 1) none = (ks.drop 1).map V.int ∧ ¬ (HT.sIx (ks.map V.int).length 0 (some 1) = 0 ∧ HT.sIx (ks.map V.int).length (ks.map V.int).length none = (ks.map V.int).length) := by
  have e : HT.sIx (ks.map V.int).length 0 (some 1) = 1 := by
    have := HT.sIx_nat (ks.map V.int).length 0 1
    rw [List.length_map] at this ⊢
    rw [show (some 1 : Option Int) = some ((1 : Nat) : Int) from rfl, this]
    omega
  have e2 : HT.sIx (ks.map V.int).length (ks.map V.int).length none = ks.length := by
    unfold HT.sIx
    simp
  refine ⟨?_, fun z => ?_⟩
  · unfold cutV
    rw [e, e2, ← List.map_drop, ← List.map_take, List.take_of_length_le (by rw [List.length_drop]; exact Nat.le_refl _)]
  · rw [e] at z
    omega
def putRow (k : Int) (ks : List Int) : List Int := k :: ks.drop 1
theorem putRow_len {k : Int} {ks : List Int} (h : 1 ≤ ks.length) : (putRow k ks).length = ks.length := by
  unfold putRow
  rw [List.length_cons, List.length_drop]
  omega
def TookAt (C : Addr) (H : Hp) (t : Addr) (least : Int) (r : List Int × List Nat × Nat) : Prop := ∃ q : Addr, H t = some (.tup [.int least, .ref q]) ∧ resSift C H q r
def spPut (A : Ad) : Sp := fun vs H Q _ => ∃ (r w : Nat) (k : Int) (ks : List Int), vs = [.ref r, .int k, .int w] ∧ (1 ≤ w ∧ w ≤ 4) ∧ RowIn H r ks ∧ faultL ks w = [] ∧ (-1000000000 ≤ k ∧ k ≤ 1000000000) ∧ ks ≠ [] ∧ Tabs (TT A) H ∧
  ∀ (H' : Hp) (t : Addr), ExtN H H' → Tabs (TT A) H' → TookAt A.CS H' t (ks.getD 0 0) (goDown ks.length w 20 (putRow k ks) 0 [0] 0) → Q (.ref t) H'
theorem ok_put (T : Tx K mg A) (TB : LamX.TabB base mg A.c_least_child A.P_least_child) : FnOk P w K mg base CX0 9 A.f_put_for A.d_put_for ["row", "key", "arms"] (spPut A) := by
  obtain ⟨md, kd⟩ := kb_down T
  refine T.F_put_for.ok sc_put_for (fun vs H Q E h => ?_) (fun cdv B outer s H vs Q E hr h => ?_)
  · obtain ⟨r, w, k, ks, rfl, _⟩ := h
    rfl
  · obtain ⟨r, w, k, ks, rfl, hw, hrow, hf, hk, hn, hT, q⟩ := h
    have nd := sc_put_for.nd
    have hl12 := hrow.2.1
    have hpos := List.length_pos_iff.mpr hn
    refine ⟨_, PSs.nox (pss_cons (ps_set (i := 3) nd rfl (Or.inl rfl) (pe_call (ok_hp T) (hr.mono (by decide)) (by rfl) T.m_heap_of T.F_heap_of.kp (b_hp T) .nil pass0 (pa_cons (pv 0) (pa_cons (pv 2) pa_nil))))
      (pss_cons (ps_expr (pe_call (ok_ck T) (hr.mono (by decide)) (by rfl) T.m_check_key T.F_check_key.kp (b_ck T) .nil pass0 (pa_cons (pv 1) pa_nil)))
      (pss_cons (ps_expr (pe_call (ok_cf T) (hr.mono (by decide)) (by rfl) T.m_check_filled T.F_check_filled.kp (b_cf T) .nil pass0 (pa_cons (pv 3) pa_nil)))
      (pss_one (ps_ret (pe_tup (pa_cons (pe_ix (r := rIx K) ix_seq (pv 3) pe_int (fun _ _ => rfl)) (pa_cons (pe_callN (ok_down T TB) (hr.mono (by decide)) (by rfl) T.m_sift_down T.F_sift_down.kp kd pass0 (pa_cons (pe_op op_catA (pe_tup (pa_cons (pv 1) pa_nil)) (pe_slice sl_tup (pv 3) (po_some pe_int) po_none)) (pa_cons pe_int pa_nil)) (pk_cons (pv 2) pk_nil)) pa_nil)))))))), ?_⟩
    refine ⟨_, rfl, _, rfl, r, w, ks, rfl, hw, hrow, hf, fun H1 t s1 e1 => ?_⟩
    have at0 : atI (ks.map V.int) 0 = some (V.int (ks.getD 0 0)) := key_at hpos
    refine ⟨_, rfl, k, rfl, hk, _, rfl, t, _, rfl, e1, fun z => hn (List.map_eq_nil_iff.mp z), ?_⟩
    refine ⟨_, rfl, .inr (.inl ⟨t, _, _, _, rfl, rfl, SqT.of e1, at0, ?_⟩)⟩
    obtain ⟨c1, c1n⟩ := cut_rest ks hpos
    refine ⟨_, rfl, by show 1 ≤ sizeLine; decide, fun a1 na1 => ?_⟩
    have sa := Same.up (o := .tup [V.int k]) na1
    refine ⟨_, rfl, _, rfl, t, _, rfl, SqT.of (sa _ _ e1), c1n, fun a2 na2 => ?_⟩
    rw [c1]
    have sb := Same.up (o := .tup ((ks.drop 1).map V.int)) na2
    have ea1 := sb _ _ (upd_same (H := H1) (a := a1) (o := .tup [V.int k]))
    have ea2 : upd (upd H1 a1 (.tup [V.int k])) a2 (.tup ((ks.drop 1).map V.int)) a2 = some (.tup ((ks.drop 1).map V.int)) := upd_same
    have s2 := sa.trans sb
    clear sa sb
    generalize upd (upd H1 a1 (.tup [V.int k])) a2 (.tup ((ks.drop 1).map V.int)) = H2 at s2 ea1 ea2
    have bp : ∀ z ∈ putRow k ks, -1000000000 ≤ z ∧ z ≤ 1000000000 := by
      intro z hz
      unfold putRow at hz
      rcases List.mem_cons.mp hz with y | y
      · rw [y]; exact hk
      · exact hrow.2.2 z (List.mem_of_mem_drop y)
    refine ⟨a1, a2, _, _, rfl, rfl, SqT.of ea1, SqT.of ea2, Nat.le_of_lt (small1000 (by rw [List.length_map, List.length_drop, List.length_singleton]; omega)), fun z => (nomatch z), fun _ hn2 => ?_, fun _ hn2 c nc => ?_⟩
    · have e0 : ks.drop 1 = [] := List.map_eq_nil_iff.mp hn2
      obtain ⟨c, rfl⟩ : ∃ c, c = a1 := ⟨a1, rfl⟩
      have s3 := s2
      have ec : H2 c = some (.tup ((putRow k ks).map V.int)) := by unfold putRow; rw [e0]; exact ea1
      refine ⟨_, rfl, rfl, rfl, c, 0, w, putRow k ks, rfl, hw, ⟨.inr ec, by rw [putRow_len hpos]; omega, bp⟩, by rw [putRow_len hpos]; omega, (hT.ext s1).ext s3, fun H4 p e4 t4 rp => ⟨by show 2 ≤ sizeLine; decide, fun z nz => ?_⟩⟩
      have sz := Same.up (o := .tup [V.int (ks.getD 0 0), V.ref p]) nz
      refine q _ z ((extN_of (s1.trans s3)).trans (e4.trans (extN_of sz))) (t4.ext sz) ⟨p, upd_same, ?_⟩
      rw [putRow_len hpos] at rp
      exact rp.same sz
    · have s3 := s2.trans (Same.up (o := .tup ((putRow k ks).map V.int)) nc)
      have ec : upd H2 c (.tup ((putRow k ks).map V.int)) c = some (.tup ((putRow k ks).map V.int)) := upd_same
      rw [show [V.int k] ++ (ks.drop 1).map V.int = (putRow k ks).map V.int from rfl]
      generalize upd H2 c (.tup ((putRow k ks).map V.int)) = H3 at s3 ec
      refine ⟨_, rfl, rfl, rfl, c, 0, w, putRow k ks, rfl, hw, ⟨.inr ec, by rw [putRow_len hpos]; omega, bp⟩, by rw [putRow_len hpos]; omega, (hT.ext s1).ext s3, fun H4 p e4 t4 rp => ⟨by show 2 ≤ sizeLine; decide, fun z nz => ?_⟩⟩
      have sz := Same.up (o := .tup [V.int (ks.getD 0 0), V.ref p]) nz
      refine q _ z ((extN_of (s1.trans s3)).trans (e4.trans (extN_of sz))) (t4.ext sz) ⟨p, upd_same, ?_⟩
      rw [putRow_len hpos] at rp
      exact rp.same sz
end
end Tw

set_option Elab.async false
set_option linter.all false
set_option maxRecDepth 100000
set_option maxHeartbeats 2000000
namespace Tw
open PySem PySem.Spec PyProof.Rows L2
section
variable {P : Program} {w : World} {K : PySem.W.Frag} {mg : Str → Option Value} {base : Heap} {A : Ad}
open LamX (ExtN Tabs TabS)
theorem q5 : ¬ (("changes" : Str) = "looks") := by decide +kernel
def spFh : Sp := fun vs H Q _ => ∃ (r w : Nat) (ks : List Int), vs = [.ref r, .int w] ∧ (1 ≤ w ∧ w ≤ 4) ∧ RowIn H r ks ∧ faultL ks w = [] ∧ ks ≠ [] ∧ ∀ H' q, Same H H' → H' q = some (.tup (ks.map V.int)) → Q (.ref q) H'
theorem ok_fh (T : Tx K mg A) : FnOk P w K mg base CX0 9 A.f_filled_heap_of A.d_filled_heap_of ["row", "arms"] spFh := by
  refine T.F_filled_heap_of.ok sc_filled_heap_of (fun vs H Q E h => ?_) (fun cdv B outer s H vs Q E hr h => ?_)
  · obtain ⟨r, w, ks, rfl, _⟩ := h
    rfl
  · obtain ⟨r, w, ks, rfl, hw, hrow, hf, hn, q⟩ := h
    have nd := sc_filled_heap_of.nd
    refine ⟨_, (pss_cons (ps_set (i := 2) nd rfl (Or.inl rfl) (pe_call (ok_hp T) (hr.mono (by decide)) (by rfl) T.m_heap_of T.F_heap_of.kp (b_hp T) .nil pass0 (pa_cons (pv 0) (pa_cons (pv 1) pa_nil))))
      (pss_cons (ps_expr (pe_call (ok_cf T) (hr.mono (by decide)) (by rfl) T.m_check_filled T.F_check_filled.kp (b_cf T) .nil pass0 (pa_cons (pv 2) pa_nil)))
      (pss_one (ps_ret (pv 2))))), ?_⟩
    refine ⟨_, rfl, _, rfl, r, w, ks, rfl, hw, hrow, hf, fun H1 t s1 e1 => ?_⟩
    exact ⟨_, rfl, t, _, rfl, e1, fun z => hn (List.map_eq_nil_iff.mp z), _, rfl, q H1 t s1 e1⟩
theorem b_fh (T : Tx K mg A) : L2.Binds K A.d_filled_heap_of ["row", "arms"] [] := T.F_filled_heap_of.binds fun _ _ _ _ _ _ us hl => match us, hl with | [_, _], _ => rfl
theorem hole_mem {n w : Nat} (hw : 1 ≤ w) : ∀ f ks h lk, ks.length = n → ∀ z ∈ (goHole n w f ks h lk).1, z ∈ ks
  | 0, ks, h, lk, hl, z, hz => hz
  | f + 1, ks, h, lk, hl, z, hz => by
    by_cases e : kidL n w h = []
    · rw [hole_leaf e] at hz
      exact hz
    · rw [hole_go e rfl] at hz
      have := hole_mem hw f _ _ _ (by rw [List.length_set]; exact hl) z hz
      rcases List.mem_or_eq_of_mem_set this with y | y
      · exact y
      · rw [y]
        exact keyAt_mem (by have := (kid_in hw (least_mem (ks := ks) e)).2; omega)
/-- one list of one's own, where code may be made -/
structure OneE (T : List (Addr × Str)) (H : Hp) (D : Addr) (xs : List V) (H' : Hp) : Prop where
  e : ExtN H H'
  t : Tabs T H'
  d : H' D = some (.lst xs)
  nD : H D = Option.none
section
variable {T : List (Addr × Str)} {H H' H2 : Hp} {D : Addr} {xs zs : List V}
theorem OneE.setD (h : OneE T H D xs H') : OneE T H D zs (upd H' D (.lst zs)) :=
  ⟨fun b o e n => by rw [upd_ne (ne_of_none e h.nD)]; exact h.e _ _ e n, tabs_upd h.t h.d, upd_same, h.nD⟩
theorem OneE.same (h : OneE T H D xs H') (s : Same H' H2) : OneE T H D xs H2 := ⟨h.e.trans (extN_of s), h.t.ext s, s _ _ h.d, h.nD⟩
theorem OneE.ext (h : OneE T H D xs H') (e : ExtN H' H2) (t : Tabs T H2) : OneE T H D xs H2 := ⟨h.e.trans e, t, e _ _ h.d (fun ps z => nomatch z), h.nD⟩
end
def muH (σ : L2.St) (_ : Hp) : Nat := match σ[6]? with
  | some (some (V.int i)) => 40 - i.toNat
  | _ => 0
theorem last_ints {ks : List Int} (h : 1 ≤ ks.length) : atI (ks.map V.int) (-1) = some (V.int (ks.getD (ks.length - 1) 0)) := by
  have d : ks = ks.take (ks.length - 1) ++ [ks.getD (ks.length - 1) 0] := by
    have x : ks.take (ks.length - 1) ++ [ks[ks.length - 1]] = ks.take (ks.length - 1 + 1) := List.take_append_getElem (by omega)
    rw [show ks.length - 1 + 1 = ks.length by omega, List.take_length] at x
    rw [List.getD_eq_getElem?_getD, List.getElem?_eq_getElem (by omega)]
    exact x.symm
  have e : ks.map V.int = (ks.take (ks.length - 1)).map V.int ++ [V.int (ks.getD (ks.length - 1) 0)] := by
    rw [map_one]
    exact congrArg (List.map V.int) d
  rw [e]
  exact last_at
def spHole (A : Ad) : Sp := fun vs H Q _ => ∃ (r w : Nat) (ks : List Int), vs = [.ref r, .int w] ∧ (1 ≤ w ∧ w ≤ 4) ∧ RowIn H r ks ∧ faultL ks w = [] ∧ ks ≠ [] ∧ Tabs (TT A) H ∧
  ∀ (H' : Hp) (t : Addr), ExtN H H' → Tabs (TT A) H' → TookAt A.CS H' t (ks.getD 0 0) (holeR ks w) → Q (.ref t) H'
theorem ok_th (T : Tx K mg A) (TB : LamX.TabB base mg A.c_least_child A.P_least_child) : FnOk P w K mg base CX0 10 A.f_take_by_hole A.d_take_by_hole ["row", "arms"] (spHole A) := by
  obtain ⟨mu, ku⟩ := kb_up T
  obtain ⟨mo, ko⟩ := kb_of T
  refine T.F_take_by_hole.ok sc_take_by_hole (fun vs H Q E h => ?_) (fun cdv B outer s H vs Q E hr h => ?_)
  · obtain ⟨r, w, ks, rfl, _⟩ := h
    rfl
  · obtain ⟨r, w, ks, rfl, hw, hrow, hf, hn, hT, q⟩ := h
    have nd := sc_take_by_hole.nd
    have hl12 := hrow.2.1
    have hpos := List.length_pos_iff.mpr hn
    refine ⟨_, PSs.nox (pss_cons (ps_set (i := 2) nd rfl (Or.inl rfl) (pe_call (ok_fh T) (hr.mono (by decide)) (by rfl) T.m_filled_heap_of T.F_filled_heap_of.kp (b_fh T) .nil pass0 (pa_cons (pv 0) (pa_cons (pv 1) pa_nil))))
      (pss_cons (ps_if (pt_cmpR op_eq (pe_callB call_len_seq (by rfl) T.g_len PySem.boot_len (pa_cons (pv 2) pa_nil)) pe_int (nomark _)) (pss_one (ps_ret (pe_tup (pa_cons (pe_ix (r := rIx K) ix_seq (pv 2) pe_int (fun _ _ => rfl)) (pa_cons (pe_make T.mkCS (ok_zi T) (hr.mono (by decide)) (by rfl) T.mCS (b_zi T) .nil pass0 (pa_cons (pe_tup pa_nil) (pa_cons (pe_tup pa_nil) (pa_cons pe_int pa_nil)))) pa_nil))))) pss_nil)
      (pss_cons (ps_set (i := 3) nd rfl (Or.inl rfl) (pe_callTy call_list_of (by rfl) T.g_list (by decide +kernel) (pa_cons (pe_slice sl_tup (pv 2) po_none (po_some (pe_un un_neg pe_int))) pa_nil)))
      (pss_cons (ps_set (i := 4) nd rfl (Or.inl rfl) (pe_cmethK (pe_glob (v := .ref A.C) (by rfl) T.mC (relR _)) T.cr T.cof (ok_of T) (hr.mono (by decide)) ko pass0 (pa_cons (pv 3) pa_nil) (pk_cons (pv 1) pk_nil)))
      (pss_cons (ps_set (i := 5) nd rfl (Or.inl rfl) pe_int)
      (pss_cons (ps_set (i := 6) nd rfl (Or.inl rfl) pe_int)
      (C8.pss_cut (ps_while PassesOwn.never (pt_truth (pe_gi T.D_t___getitem__ (ok_gi T) (hr.mono (by decide)) (b_gi T) pass0 (pv 4) (pv 6)) (fun _ => rfl)) (pss_cons (ps_set (i := 7) nd rfl (Or.inl rfl) (pe_call (ok_lc T TB) (hr.mono (by decide)) (by rfl) T.m_least_child T.F_least_child.kp (b_lc T) .nil pass0 (pa_cons (pv 3) (pa_cons (pe_gi T.D_t___getitem__ (ok_gi T) (hr.mono (by decide)) (b_gi T) pass0 (pv 4) (pv 6)) pa_nil))))
      (pss_cons (ps_aug (i := 5) nd rfl (Or.inl rfl) (pe_op op_sub (pe_callB call_len_seq (by rfl) T.g_len PySem.boot_len (pa_cons (pe_gi T.D_t___getitem__ (ok_gi T) (hr.mono (by decide)) (b_gi T) pass0 (pv 4) (pv 6)) pa_nil)) pe_int) ip_add)
      (pss_cons (ps_asg (pe_ix ix_list (pv 3) (pv 7) (fun _ _ => rfl)) (pg_sub (pv 3) (pv 6) set_list))
      (pss_one (ps_set (i := 6) nd rfl (Or.inl rfl) (pv 7)))))))
      (pss_cons (ps_asg (pe_ix (r := rIx K) ix_seq (pv 2) (pe_un un_neg pe_int) (fun _ _ => rfl)) (pg_sub (pv 3) (pv 6) set_list))
      (pss_cons (ps_set (i := 8) nd rfl (Or.inl rfl) (pe_callN (ok_up T) (hr.mono (by decide)) (by rfl) T.m_sift_up T.F_sift_up.kp ku pass0 (pa_cons (pv 3) (pa_cons (pv 6) pa_nil)) (pk_cons (pv 1) pk_nil)))
      (pss_one (ps_ret (pe_tup (pa_cons (pe_ix (r := rIx K) ix_seq (pv 2) pe_int (fun _ _ => rfl)) (pa_cons (pe_make T.mkCS (ok_zi T) (hr.mono (by decide)) (by rfl) T.mCS (b_zi T) .nil pass0 (pa_cons (pe_fld (pv 8) rfl) (pa_cons (pe_fld (pv 8) rfl) (pa_cons (pe_op op_add (pv 5) (pe_fld (pv 8) rfl)) pa_nil)))) pa_nil)))))))))))))), ?_⟩
    refine ⟨_, rfl, _, rfl, r, w, ks, rfl, hw, hrow, hf, hn, fun H1 t s1 e1 => ?_⟩
    have at0 : atI (ks.map V.int) 0 = some (V.int (ks.getD 0 0)) := key_at hpos
    refine ⟨_, rfl, t, _, rfl, .inr (SqT.of e1), rfl, _, rfl, ?_⟩
    by_cases h1 : ks.length = 1
    · rw [decide_eq_true (show V.int ((ks.map V.int).length : Nat) = V.int 1 by rw [List.length_map, h1]; rfl)]
      refine iteT ?_
      refine ⟨_, rfl, .inr (.inl ⟨t, _, _, _, rfl, rfl, SqT.of e1, at0, Nat.zero_le _, fun u1 n1 => ⟨Nat.zero_le _, fun u2 n2 => ?_⟩⟩)⟩
      have s2 := (Same.up (o := .tup []) n1).trans (Same.up (o := .tup []) n2)
      intro x dx2 nx ndx nex
      have s3 := new_up (C := A.CS) nx ndx nex
      refine ⟨x, dx2, u1, u2, 0, [], [], rfl, upd_same, .inr (s3 _ _ ((Same.up n2) _ _ upd_same)), .inr (s3 _ _ upd_same), fun G6 k6 sx => ⟨rfl, by show 2 ≤ sizeLine; decide, fun z nz => ?_⟩⟩
      have s4 := s1.trans (s2.trans ((new_same nx ndx k6).trans (Same.up (o := .tup [V.int (ks.getD 0 0), V.ref x]) nz)))
      refine q _ z (extN_of s4) (hT.ext s4) ⟨x, upd_same, ?_⟩
      unfold holeR
      rw [if_pos h1]
      exact sx.same (Same.up nz)
    · rw [decide_eq_false (show ¬ V.int ((ks.map V.int).length : Nat) = V.int 1 by rw [List.length_map]; intro z; injection z with z; omega)]
      have h2 : 2 ≤ ks.length := by omega
      refine iteF ?_
      obtain ⟨c1, c1n⟩ := cut_last (ks.map V.int) (fun z => hn (List.map_eq_nil_iff.mp z))
      refine ⟨_, rfl, _, rfl, _, rfl, t, _, rfl, SqT.of e1, c1n, fun a1 na1 => ?_⟩
      rw [c1, List.length_map, ← List.map_take]
      have sa := Same.up (o := .tup ((ks.take (ks.length - 1)).map V.int)) na1
      refine ⟨a1, _, rfl, .inr (SqT.of upd_same), fun D nD => ?_⟩
      obtain ⟨ks0, ek0⟩ : ∃ ks0, ks0 = ks.take (ks.length - 1) := ⟨_, rfl⟩
      obtain ⟨n, en⟩ : ∃ n, n = ks.length - 1 := ⟨_, rfl⟩
      have hl0 : ks0.length = n := by rw [ek0, List.length_take]; omega
      have hb0 : ∀ z ∈ ks0, -1000000000 ≤ z ∧ z ≤ 1000000000 := fun z hz => hrow.2.2 z (List.mem_of_mem_take (by rw [← ek0]; exact hz))
      rw [← ek0]
      rw [← ek0] at nD sa
      have nD0 : H1 D = none := sa.free nD
      have one0 : OneE (TT A) H1 D (ks0.map V.int) (upd (upd H1 a1 (.tup (ks0.map V.int))) D (.lst (ks0.map V.int))) :=
        ⟨extN_of (sa.trans (Same.up nD)), (hT.ext s1).ext (sa.trans (Same.up nD)), upd_same, nD0⟩
      generalize upd (upd H1 a1 (.tup (ks0.map V.int))) D (.lst (ks0.map V.int)) = H2 at one0
      refine ⟨rfl, _, rfl, _, rfl, rfl, rfl, D, w, ks0, rfl, hw, .inl one0.d, by omega, hb0, fun H3 tr s3 p0 t3 => ?_⟩
      have one3 := one0.same s3
      rw [hl0] at t3
      refine ⟨fun σ' H' => ∃ (x7 : Option V), σ' = [some (.ref r), some (.int w), some (.ref t), some (.ref D), some (.ref tr), some (.int ((goHole n w 20 ks0 0 0).2.2 : Nat)), some (.int ((goHole n w 20 ks0 0 0).2.1 : Nat)), x7, none] ∧ OneE (TT A) H1 D ((goHole n w 20 ks0 0 0).1.map V.int) H', ?_, ?_⟩
      · refine while_by (fun σ' H' => ∃ (f cur lk : Nat) (ks' : List Int) (x7 : Option V), σ' = [some (.ref r), some (.int w), some (.ref t), some (.ref D), some (.ref tr), some (.int lk), some (.int cur), x7, none] ∧
          OneE (TT A) H1 D (ks'.map V.int) H' ∧ TreeAt A.C H' tr n w ∧ cur < n ∧ ks'.length = n ∧ n - cur < f ∧ goHole n w 20 ks0 0 0 = goHole n w f ks' cur lk) muH ?_ ?_ ?_
        · exact ⟨20, 0, 0, ks0, none, rfl, one3, t3, by omega, hl0, by omega, rfl⟩
        · rintro σ' H' ⟨f, cur, lk, ks', x7, rfl, one, tt, hcur, hkl, hfc, eg⟩
          obtain ⟨f, rfl⟩ : ∃ f', f = f' + 1 := ⟨f - 1, by omega⟩
          obtain ⟨dx, l, b1, b2⟩ := tt.ob
          refine ⟨_, rfl, _, rfl, tr, dx, _, rfl, b1, tr, n, w, cur, rfl, tt, hcur, fun H5 ch s5 hch => ?_⟩
          rw [kids_eq, kids_same n (by omega) w (by omega) cur hcur hw.1] at hch
          have one5 := one.same s5
          have tt5 := tt.same s5
          refine ⟨!(vi (kidL n w cur)).isEmpty, .inr (.inl ⟨_, SqT.of hch, rfl⟩), ?_⟩
          by_cases hk0 : kidL n w cur = []
          · rw [hk0]
            refine iteF ?_
            rw [hole_leaf hk0] at eg
            rw [eg]
            exact ⟨_, rfl, one5⟩
          · have e0 : (!(vi (kidL n w cur)).isEmpty) = true := by
              cases e : kidL n w cur with
              | nil => exact absurd e hk0
              | cons a b => rfl
            rw [e0]
            refine iteT ?_
            have hmem := least_mem (ks := ks') hk0
            have hk4 := kid_len n (by omega) w (by omega) cur hcur hw.1
            have hkp := List.length_pos_iff.mpr hk0
            obtain ⟨hb1, hb2⟩ := kid_in hw.1 hmem
            obtain ⟨dx5, l5, b15, b25⟩ := tt5.ob
            refine ⟨_, rfl, _, rfl, _, rfl, tr, dx5, _, rfl, b15, tr, n, w, cur, rfl, tt5, hcur, fun H6 ch6 s6 hch6 => ?_⟩
            rw [kids_eq, kids_same n (by omega) w (by omega) cur hcur hw.1] at hch6
            have one6 := one5.same s6
            have tt6 := tt5.same s6
            refine ⟨D, ch6, ks', wz (kidL n w cur), rfl, SqL.of one6.d, by rw [← vi_wz]; exact SqT.of hch6, ?_, ?_, one6.t, fun m H7 e7 t7 hm => ?_⟩
            · unfold wz
              rw [List.length_map]
              exact hkp
            · intro z hz
              unfold wz at hz
              obtain ⟨j, hj, rfl⟩ := List.mem_map.mp hz
              have := kid_in hw.1 hj
              omega
            have em := least_wz hm
            subst em
            rw [hole_go hk0 rfl] at eg
            generalize leastC ks' (kidL n w cur) = b at *
            have one7 := one6.ext e7 t7
            have tt7 := tt6.ext e7
            obtain ⟨dx7, l7, b17, b27⟩ := tt7.ob
            refine ⟨_, rfl, _, rfl, _, rfl, tr, dx7, _, rfl, b17, tr, n, w, cur, rfl, tt7, hcur, fun H8 ch8 s8 hch8 => ?_⟩
            rw [kids_eq, kids_same n (by omega) w (by omega) cur hcur hw.1] at hch8
            have one8 := one7.same s8
            have tt8 := tt7.same s8
            refine ⟨ch8, _, rfl, .inr (SqT.of hch8), _, _, rfl, rfl, _, _, rfl, rfl, ?_⟩
            refine ⟨_, rfl, _, rfl, D, _, _, _, rfl, rfl, SqL.of one8.d, key_at (by omega), ?_⟩
            refine ⟨_, rfl, _, rfl, D, _, _, cur, rfl, rfl, one8.d, ixN_nat (by rw [List.length_map]; omega), ?_⟩
            rw [set_int, vi_len]
            have one9 : OneE (TT A) H1 D ((ks'.set cur (keyAt ks' b)).map V.int) (upd H8 D (.lst ((ks'.set cur (keyAt ks' b)).map V.int))) := one8.setD
            have tt9 : TreeAt A.C (upd H8 D (.lst ((ks'.set cur (keyAt ks' b)).map V.int))) tr n w := by
              obtain ⟨dx8, l8, b18, b28⟩ := tt8.ob
              refine ⟨⟨dx8, l8, ?_, ?_⟩, tt8.hn, tt8.hw⟩
              · rw [upd_ne (ne_of b18 one8.d (by intro y; cases y))]; exact b18
              · rw [upd_ne (ne_of b28 one8.d (by intro y; cases y))]; exact b28
            refine ⟨_, rfl, ⟨f, b, lk + ((kidL n w cur).length - 1), _, some (V.int (b : Nat)), ?_, one9, tt9, hb2, by rw [List.length_set]; exact hkl, by omega, eg⟩, ?_⟩
            · show ([some (.ref r), some (.int w), some (.ref t), some (.ref D), some (.ref tr), some (V.int ((lk : Int) + (((kidL n w cur).length : Int) - 1))), some (V.int (b : Nat)), some (V.int (b : Nat)), none] : List (Option V)) = _
              rw [show (lk : Int) + (((kidL n w cur).length : Int) - 1) = ((lk + ((kidL n w cur).length - 1) : Nat) : Int) by omega]
            · show 40 - (b : Int).toNat < 40 - (cur : Int).toNat
              omega
        · rintro σ' H' Q1 Q2 mono ⟨v, hv, v2, hv2, a, dx, fs, z1, z2, p, n', w', i', z3, t', hi', z⟩
          exact ⟨v, hv, v2, hv2, a, dx, fs, z1, z2, p, n', w', i', z3, t', hi', fun H5 q5 s5 h5 => let ⟨k, tv, y⟩ := z H5 q5 s5 h5; ⟨k, tv, mono _ _ y⟩⟩
      · rintro σ' H' ⟨x7, rfl, one⟩
        have hl5 : (goHole n w 20 ks0 0 0).1.length = n := (hole_len n w 20 ks0 0 0).trans hl0
        have hlt := hole_lt (n := n) hw.1 20 ks0 0 0 (by omega)
        have hbm : ∀ z ∈ (goHole n w 20 ks0 0 0).1, -1000000000 ≤ z ∧ z ≤ 1000000000 := fun z hz => hb0 z (hole_mem hw.1 20 ks0 0 0 hl0 z hz)
        have hlast : -1000000000 ≤ ks.getD (ks.length - 1) 0 ∧ ks.getD (ks.length - 1) 0 ≤ 1000000000 := by
          rw [List.getD_eq_getElem?_getD, List.getElem?_eq_getElem (by omega)]
          exact hrow.2.2 _ (List.getElem_mem _)
        have eH : holeR ks w = ((goUp w 20 ((goHole n w 20 ks0 0 0).1.set (goHole n w 20 ks0 0 0).2.1 (ks.getD (ks.length - 1) 0)) (goHole n w 20 ks0 0 0).2.1 [(goHole n w 20 ks0 0 0).2.1] 0).1, (goUp w 20 ((goHole n w 20 ks0 0 0).1.set (goHole n w 20 ks0 0 0).2.1 (ks.getD (ks.length - 1) 0)) (goHole n w 20 ks0 0 0).2.1 [(goHole n w 20 ks0 0 0).2.1] 0).2.1, (goHole n w 20 ks0 0 0).2.2 + (goUp w 20 ((goHole n w 20 ks0 0 0).1.set (goHole n w 20 ks0 0 0).2.1 (ks.getD (ks.length - 1) 0)) (goHole n w 20 ks0 0 0).2.1 [(goHole n w 20 ks0 0 0).2.1] 0).2.2) := by
          unfold holeR
          rw [if_neg h1, ← ek0, ← en]
        rw [eH] at q
        clear eH
        have hla := last_ints hpos
        generalize goHole n w 20 ks0 0 0 = res at *
        generalize ks.getD (ks.length - 1) 0 = last at *
        have et := one.e _ _ e1 (fun ps z => nomatch z)
        refine ⟨_, rfl, _, rfl, .inr (.inl ⟨t, _, _, _, rfl, rfl, SqT.of et, hla, ?_⟩)⟩
        refine ⟨_, rfl, _, rfl, D, _, _, res.2.1, rfl, rfl, one.d, ixN_nat (by rw [List.length_map]; omega), ?_⟩
        rw [set_int]
        have oneS : OneE (TT A) H1 D ((res.1.set res.2.1 last).map V.int) (upd H' D (.lst ((res.1.set res.2.1 last).map V.int))) := one.setD
        generalize upd H' D (.lst ((res.1.set res.2.1 last).map V.int)) = H8 at oneS
        have hbs : ∀ z ∈ res.1.set res.2.1 last, -1000000000 ≤ z ∧ z ≤ 1000000000 := fun z hz => by
          rcases List.mem_or_eq_of_mem_set hz with y | y
          · exact hbm z y
          · rw [y]; exact hlast
        refine ⟨_, rfl, _, rfl, _, rfl, rfl, rfl, D, res.2.1, w, res.1.set res.2.1 last, rfl, hw, ⟨.inl oneS.d, by rw [List.length_set]; omega, hbs⟩, by rw [List.length_set]; omega, fun H9 z s9 rz => ?_⟩
        have one9 := oneS.same s9
        generalize goUp w 20 (res.1.set res.2.1 last) res.2.1 [res.2.1] 0 = u at *
        obtain ⟨dz, z1, z2, g1, g2, g3⟩ := rz
        refine ⟨_, rfl, .inr (.inl ⟨t, _, _, _, rfl, rfl, SqT.of (one9.e _ _ e1 (fun ps z => nomatch z)), at0, ?_⟩)⟩
        refine ⟨_, rfl, z, A.CS, dz, _, _, rfl, g1, T.cTS, T.nRow, zf_row _ _ _, _, rfl, z, A.CS, dz, _, _, rfl, g1, T.cTS, T.nWay, zf_way _ _ _, _, rfl, _, rfl, z, A.CS, dz, _, _, rfl, g1, T.cTS, T.nLooks, zf_looks _ _ _, _, _, rfl, rfl, fun x dx2 nx ndx nex => ?_⟩
        have s3 := new_up (C := A.CS) nx ndx nex
        refine ⟨x, dx2, z1, z2, res.2.2 + u.2.2, u.1, wz u.2.1, rfl, upd_same, .inr (s3 _ _ g2), .inr (s3 _ _ g3), fun G6 k6 sx => ⟨rfl, by show 2 ≤ sizeLine; decide, fun y ny => ?_⟩⟩
        have s6 := (new_same nx ndx k6).trans (Same.up (o := .tup [V.int (ks.getD 0 0), V.ref x]) ny)
        exact q _ y ((extN_of s1).trans (one9.e.trans (extN_of s6))) (one9.t.ext s6) ⟨x, upd_same, sx.same (Same.up ny)⟩
theorem outRow_len {ks : List Int} (h : 2 ≤ ks.length) : (outRow ks).length = ks.length - 1 := by
  unfold outRow
  rw [List.length_cons, List.length_take, List.length_drop]
  omega
theorem cut_mid (ks : List Int) (h : 2 ≤ ks.length) : cutV (ks.map V.int) (some 1) (some (-1)) = ((ks.drop 1).take (ks.length - 2)).map V.int ∧ ¬ (HT.sIx (ks.map V.int).length 0 (some 1) = 0 ∧ HT.sIx (ks.map V.int).length (ks.map V.int).length (some (-1)) = (ks.map V.int).length) := by
  have e : HT.sIx (ks.map V.int).length 0 (some 1) = 1 := by
    have := HT.sIx_nat (ks.map V.int).length 0 1
    rw [List.length_map] at this ⊢
    rw [show (some 1 : Option Int) = some ((1 : Nat) : Int) from rfl, this]
    omega
  have e2 : HT.sIx (ks.map V.int).length (ks.map V.int).length (some (-1)) = ks.length - 1 := by
    unfold HT.sIx
    simp
    try omega
  refine ⟨?_, fun z => ?_⟩
  · unfold cutV
    rw [e, e2, ← List.map_drop, ← List.map_take, show ks.length - 1 - 1 = ks.length - 2 by omega]
  · rw [e] at z
    omega
theorem cut_end (ks : List Int) (h : 2 ≤ ks.length) : cutV (ks.map V.int) (some (-1)) none = [ks.getD (ks.length - 1) 0].map V.int ∧ ¬ (HT.sIx (ks.map V.int).length 0 (some (-1)) = 0 ∧ HT.sIx (ks.map V.int).length (ks.map V.int).length none = (ks.map V.int).length) := by
  have e : HT.sIx (ks.map V.int).length 0 (some (-1)) = ks.length - 1 := by
    unfold HT.sIx
    simp
    try omega
  have e2 : HT.sIx (ks.map V.int).length (ks.map V.int).length none = ks.length := by
    unfold HT.sIx
    simp
  refine ⟨?_, fun z => ?_⟩
  · unfold cutV
    rw [e, e2, ← List.map_drop, ← List.map_take]
    have d : ks.drop (ks.length - 1) = [ks.getD (ks.length - 1) 0] := by
      rw [List.drop_eq_getElem_cons (by omega), List.drop_eq_nil_of_le (by omega), List.getD_eq_getElem?_getD, List.getElem?_eq_getElem (by omega)]
      rfl
    rw [d, show ks.length - (ks.length - 1) = 1 by omega]
    rfl
  · rw [e] at z
    omega
theorem bnd_out {ks : List Int} (h : 2 ≤ ks.length) (hb : ∀ z ∈ ks, -1000000000 ≤ z ∧ z ≤ 1000000000) : ∀ z ∈ outRow ks, -1000000000 ≤ z ∧ z ≤ 1000000000 := by
  intro z hz
  unfold outRow at hz
  rcases List.mem_cons.mp hz with y | y
  · rw [y, List.getD_eq_getElem?_getD, List.getElem?_eq_getElem (by omega)]
    exact hb _ (List.getElem_mem _)
  · exact hb z (List.mem_of_mem_drop (List.mem_of_mem_take y))
def spTake2 (A : Ad) : Sp := fun vs H Q _ => ∃ (r w : Nat) (ks : List Int), vs = [.ref r, .int w] ∧ (1 ≤ w ∧ w ≤ 4) ∧ RowIn H r ks ∧ faultL ks w = [] ∧ ks ≠ [] ∧ Tabs (TT A) H ∧
  ∀ (H' : Hp) (t : Addr), ExtN H H' → Tabs (TT A) H' → TookAt A.CS H' t (ks.getD 0 0) (takeR ks w) → Q (.ref t) H'
theorem ok_tk (T : Tx K mg A) (TB : LamX.TabB base mg A.c_least_child A.P_least_child) : FnOk P w K mg base CX0 10 A.f_take A.d_take ["row", "arms"] (spTake2 A) := by
  obtain ⟨md, kd⟩ := kb_down T
  refine T.F_take.ok sc_take (fun vs H Q E h => ?_) (fun cdv B outer s H vs Q E hr h => ?_)
  · obtain ⟨r, w, ks, rfl, _⟩ := h
    rfl
  · obtain ⟨r, w, ks, rfl, hw, hrow, hf, hn, hT, q⟩ := h
    have nd := sc_take.nd
    have hl12 := hrow.2.1
    have hpos := List.length_pos_iff.mpr hn
    refine ⟨_, PSs.nox (pss_cons (ps_set (i := 2) nd rfl (Or.inl rfl) (pe_call (ok_fh T) (hr.mono (by decide)) (by rfl) T.m_filled_heap_of T.F_filled_heap_of.kp (b_fh T) .nil pass0 (pa_cons (pv 0) (pa_cons (pv 1) pa_nil))))
      (pss_cons (ps_if (pt_cmpR op_eq (pe_callB call_len_seq (by rfl) T.g_len PySem.boot_len (pa_cons (pv 2) pa_nil)) pe_int (nomark _)) (pss_one (ps_ret (pe_tup (pa_cons (pe_ix (r := rIx K) ix_seq (pv 2) pe_int (fun _ _ => rfl)) (pa_cons (pe_make T.mkCS (ok_zi T) (hr.mono (by decide)) (by rfl) T.mCS (b_zi T) .nil pass0 (pa_cons (pe_tup pa_nil) (pa_cons (pe_tup pa_nil) (pa_cons pe_int pa_nil)))) pa_nil))))) pss_nil)
      (pss_one (ps_ret (pe_tup (pa_cons (pe_ix (r := rIx K) ix_seq (pv 2) pe_int (fun _ _ => rfl)) (pa_cons (pe_callN (ok_down T TB) (hr.mono (by decide)) (by rfl) T.m_sift_down T.F_sift_down.kp kd pass0 (pa_cons (pe_op op_catA (pe_slice sl_tup (pv 2) (po_some (pe_un un_neg pe_int)) po_none) (pe_slice sl_tup (pv 2) (po_some pe_int) (po_some (pe_un un_neg pe_int)))) (pa_cons pe_int pa_nil)) (pk_cons (pv 1) pk_nil)) pa_nil))))))), ?_⟩
    refine ⟨_, rfl, _, rfl, r, w, ks, rfl, hw, hrow, hf, hn, fun H1 t s1 e1 => ?_⟩
    have at0 : atI (ks.map V.int) 0 = some (V.int (ks.getD 0 0)) := key_at hpos
    refine ⟨_, rfl, t, _, rfl, .inr (SqT.of e1), rfl, _, rfl, ?_⟩
    by_cases h1 : ks.length = 1
    · rw [decide_eq_true (show V.int ((ks.map V.int).length : Nat) = V.int 1 by rw [List.length_map, h1]; rfl)]
      refine iteT ?_
      refine ⟨_, rfl, .inr (.inl ⟨t, _, _, _, rfl, rfl, SqT.of e1, at0, Nat.zero_le _, fun u1 n1 => ⟨Nat.zero_le _, fun u2 n2 => ?_⟩⟩)⟩
      have s2 := (Same.up (o := .tup []) n1).trans (Same.up (o := .tup []) n2)
      intro x dx2 nx ndx nex
      have s3 := new_up (C := A.CS) nx ndx nex
      refine ⟨x, dx2, u1, u2, 0, [], [], rfl, upd_same, .inr (s3 _ _ ((Same.up n2) _ _ upd_same)), .inr (s3 _ _ upd_same), fun G6 k6 sx => ⟨rfl, by show 2 ≤ sizeLine; decide, fun z nz => ?_⟩⟩
      have s4 := s1.trans (s2.trans ((new_same nx ndx k6).trans (Same.up (o := .tup [V.int (ks.getD 0 0), V.ref x]) nz)))
      refine q _ z (extN_of s4) (hT.ext s4) ⟨x, upd_same, ?_⟩
      unfold takeR
      rw [if_pos h1]
      exact sx.same (Same.up nz)
    · rw [decide_eq_false (show ¬ V.int ((ks.map V.int).length : Nat) = V.int 1 by rw [List.length_map]; intro z; injection z with z; omega)]
      have h2 : 2 ≤ ks.length := by omega
      refine iteF ?_
      refine ⟨_, rfl, .inr (.inl ⟨t, _, _, _, rfl, rfl, SqT.of e1, at0, ?_⟩)⟩
      obtain ⟨c1, c1n⟩ := cut_end ks h2
      obtain ⟨c2, c2n⟩ := cut_mid ks h2
      refine ⟨_, rfl, _, rfl, _, rfl, t, _, rfl, SqT.of e1, c1n, fun a1 na1 => ?_⟩
      rw [c1]
      have sa := Same.up (o := .tup ([ks.getD (ks.length - 1) 0].map V.int)) na1
      refine ⟨_, rfl, _, rfl, _, rfl, _, rfl, t, _, rfl, SqT.of (sa _ _ e1), c2n, fun a2 na2 => ?_⟩
      rw [c2]
      have sb := Same.up (o := .tup (((ks.drop 1).take (ks.length - 2)).map V.int)) na2
      have ea1 := sb _ _ (upd_same (H := H1) (a := a1) (o := .tup ([ks.getD (ks.length - 1) 0].map V.int)))
      have ea2 : upd (upd H1 a1 (.tup ([ks.getD (ks.length - 1) 0].map V.int))) a2 (.tup (((ks.drop 1).take (ks.length - 2)).map V.int)) a2 = some (.tup (((ks.drop 1).take (ks.length - 2)).map V.int)) := upd_same
      have s2 := sa.trans sb
      clear sa sb
      generalize upd (upd H1 a1 (.tup ([ks.getD (ks.length - 1) 0].map V.int))) a2 (.tup (((ks.drop 1).take (ks.length - 2)).map V.int)) = H2 at s2 ea1 ea2
      refine ⟨a1, a2, _, _, rfl, rfl, SqT.of ea1, SqT.of ea2, Nat.le_of_lt (small1000 (by rw [List.length_map, List.length_map, List.length_take, List.length_drop, List.length_singleton]; omega)), fun z => (nomatch z), fun _ hn2 => ?_, fun _ hn2 c nc => ?_⟩
      · have e0 : (ks.drop 1).take (ks.length - 2) = [] := List.map_eq_nil_iff.mp hn2
        obtain ⟨c, rfl⟩ : ∃ c, c = a1 := ⟨a1, rfl⟩
        have s3 := s2
        have ec : H2 c = some (.tup ((outRow ks).map V.int)) := by unfold outRow; rw [e0]; exact ea1
        refine ⟨_, rfl, rfl, rfl, c, 0, w, outRow ks, rfl, hw, ⟨.inr ec, by rw [outRow_len h2]; omega, bnd_out h2 hrow.2.2⟩, by rw [outRow_len h2]; omega, (hT.ext s1).ext s3, fun H4 p e4 t4 rp => ⟨by show 2 ≤ sizeLine; decide, fun z nz => ?_⟩⟩
        have sz := Same.up (o := .tup [V.int (ks.getD 0 0), V.ref p]) nz
        refine q _ z ((extN_of (s1.trans s3)).trans (e4.trans (extN_of sz))) (t4.ext sz) ⟨p, upd_same, ?_⟩
        unfold takeR
        rw [if_neg h1]
        rw [outRow_len h2] at rp
        exact rp.same sz
      · have s3 := s2.trans (Same.up (o := .tup ((outRow ks).map V.int)) nc)
        have ec : upd H2 c (.tup ((outRow ks).map V.int)) c = some (.tup ((outRow ks).map V.int)) := upd_same
        rw [show [ks.getD (ks.length - 1) 0].map V.int ++ ((ks.drop 1).take (ks.length - 2)).map V.int = (outRow ks).map V.int from rfl]
        generalize upd H2 c (.tup ((outRow ks).map V.int)) = H3 at s3 ec
        refine ⟨_, rfl, rfl, rfl, c, 0, w, outRow ks, rfl, hw, ⟨.inr ec, by rw [outRow_len h2]; omega, bnd_out h2 hrow.2.2⟩, by rw [outRow_len h2]; omega, (hT.ext s1).ext s3, fun H4 p e4 t4 rp => ⟨by show 2 ≤ sizeLine; decide, fun z nz => ?_⟩⟩
        have sz := Same.up (o := .tup [V.int (ks.getD 0 0), V.ref p]) nz
        refine q _ z ((extN_of (s1.trans s3)).trans (e4.trans (extN_of sz))) (t4.ext sz) ⟨p, upd_same, ?_⟩
        unfold takeR
        rw [if_neg h1]
        rw [outRow_len h2] at rp
        exact rp.same sz
def fdQ (v0 : V) : List (Str × V) := putF "row" v0 (([] : List (Str × V)))
def AtQ (C : Addr) (H : Hp) (p : Addr) (x0 : List Int) : Prop := ∃ (dx t0 : Addr), H p = some (.ins C dx (fdQ (.ref t0))) ∧ H t0 = some (.tup (x0.map V.int))
theorem AtQ.ins {C : Addr} {H : Hp} {p : Addr} {x0 : List Int} (h : AtQ C H p x0) : ∃ dx fs, H p = some (.ins C dx fs) := let ⟨dx, t0, h, e0⟩ := h; ⟨dx, _, h⟩
def spIQ (C : Addr) : Sp := fun vs H Q _ => ∃ (p dx a0 : Nat) (x0 : List Int), vs = [.ref p, .ref a0] ∧ H p = some (.ins C dx []) ∧ (H a0 = some (.lst (x0.map V.int)) ∨ H a0 = some (.tup (x0.map V.int))) ∧ ∀ (H' : Hp), (∀ b o, H b = some o → b ≠ p → H' b = some o) → AtQ C H' p x0 → Q .non H'
theorem ok_iQ (T : Tx K mg A) : FnOk P w K mg base CX0 1 A.f_q___init__ A.d_q___init__ ["self", "row"] (spIQ A.CQ) := by
  refine T.F_q___init__.ok sc_q___init__ (fun vs H Q E h => ?_) (fun cdv B outer s H vs Q E hr h => ?_)
  · obtain ⟨p, dx, a0, x0, rfl, _⟩ := h
    rfl
  · obtain ⟨p, dx, a0, x0, rfl, hp, ha0, q⟩ := h
    refine ⟨_, (pss_one (ps_fld (pv 0) (pe_callTy (r := rTupU) call_tupU (by rfl) T.g_tuple (by decide +kernel) (pa_cons (pv 1) pa_nil)) rfl)), ?_⟩
    have fr : ∀ b o, H b = some o → b ≠ p → H b = some o := fun b o e _ => e
    refine ⟨_, rfl, a0, _, rfl, ha0, fun t0 G0 s0 e0 => ?_⟩
    have hp := s0 _ _ hp
    have fr : ∀ b o, H b = some o → b ≠ p → G0 b = some o := fun b o e n => s0 _ _ (fr b o e n)
    refine ⟨_, rfl, p, A.CQ, dx, _, rfl, hp, T.cTQ, T.qRow, (by show 0 < 1000; decide), ?_⟩
    have fr : ∀ b o, H b = some o → b ≠ p → (upd G0 p (.ins A.CQ dx (putF "row" (.ref t0) ([])))) b = some o := fun b o e n => by rw [upd_ne n]; exact fr b o e n
    have e0 : (upd G0 p (.ins A.CQ dx (putF "row" (.ref t0) ([])))) t0 = _ := (upd_ne (ne_of e0 hp (by intro z; cases z))).trans e0
    have hp : (upd G0 p (.ins A.CQ dx (putF "row" (.ref t0) ([])))) p = _ := upd_same
    exact q _ fr ⟨dx, t0, hp, e0⟩
end
end Tw

set_option Elab.async false
set_option linter.all false
set_option maxRecDepth 100000
set_option maxHeartbeats 2000000
namespace Tw
open PySem PySem.Spec PyProof.Rows L2
section
variable {P : Program} {w : World} {K : PySem.W.Frag} {mg : Str → Option Value} {base : Heap} {A : Ad}
open LamX (ExtN Tabs TabS)
theorem b_iQ (T : Tx K mg A) : L2.Binds K A.d_q___init__ ["self", "row"] [] := T.F_q___init__.binds fun _ _ _ _ _ _ us hl => match us, hl with | [_, _], _ => rfl
def fdV (v0 v1 : V) : List (Str × V) := putF "key" v1 (putF "place" v0 (([] : List (Str × V))))
def AtV (C : Addr) (H : Hp) (p : Addr) (x0 : Int) (x1 : Int) : Prop := ∃ (dx : Addr), H p = some (.ins C dx (fdV (.int x0) (.int x1)))
theorem AtV.ins {C : Addr} {H : Hp} {p : Addr} {x0 : Int} {x1 : Int} (h : AtV C H p x0 x1) : ∃ dx fs, H p = some (.ins C dx fs) := let ⟨dx, h⟩ := h; ⟨dx, _, h⟩
def spIV (C : Addr) : Sp := fun vs H Q _ => ∃ (p dx : Nat) (x0 : Int) (x1 : Int), vs = [.ref p, .int x0, .int x1] ∧ H p = some (.ins C dx []) ∧ ∀ (H' : Hp), (∀ b o, H b = some o → b ≠ p → H' b = some o) → AtV C H' p x0 x1 → Q .non H'
theorem ok_iV (T : Tx K mg A) : FnOk P w K mg base CX0 1 A.f_v___init__ A.d_v___init__ ["self", "place", "key"] (spIV A.CV) := by
  refine T.F_v___init__.ok sc_v___init__ (fun vs H Q E h => ?_) (fun cdv B outer s H vs Q E hr h => ?_)
  · obtain ⟨p, dx, x0, x1, rfl, _⟩ := h
    rfl
  · obtain ⟨p, dx, x0, x1, rfl, hp, q⟩ := h
    refine ⟨_, (pss_cons (ps_fld (pv 0) (pv 1) rfl)
      (pss_one (ps_fld (pv 0) (pv 2) rfl))), ?_⟩
    have fr : ∀ b o, H b = some o → b ≠ p → H b = some o := fun b o e _ => e
    refine ⟨_, rfl, _, rfl, p, A.CV, dx, _, rfl, hp, T.cTV, T.vPlace, (by show 0 < 1000; decide), ?_⟩
    have fr : ∀ b o, H b = some o → b ≠ p → (upd H p (.ins A.CV dx (putF "place" (.int x0) ([])))) b = some o := fun b o e n => by rw [upd_ne n]; exact fr b o e n
    have hp : (upd H p (.ins A.CV dx (putF "place" (.int x0) ([])))) p = _ := upd_same
    generalize upd H p (.ins A.CV dx (putF "place" (.int x0) ([]))) = U0 at fr hp
    refine ⟨_, rfl, _, rfl, p, A.CV, dx, _, rfl, hp, T.cTV, T.vKey, (by show 1 < 1000; decide), ?_⟩
    have fr : ∀ b o, H b = some o → b ≠ p → (upd U0 p (.ins A.CV dx (putF "key" (.int x1) (putF "place" (.int x0) ([]))))) b = some o := fun b o e n => by rw [upd_ne n]; exact fr b o e n
    have hp : (upd U0 p (.ins A.CV dx (putF "key" (.int x1) (putF "place" (.int x0) ([]))))) p = _ := upd_same
    exact q _ fr ⟨dx, hp⟩
theorem b_iV (T : Tx K mg A) : L2.Binds K A.d_v___init__ ["self", "place", "key"] [] := T.F_v___init__.binds fun _ _ _ _ _ _ us hl => match us, hl with | [_, _, _], _ => rfl
theorem cut_to (xs : List V) (k : Nat) : cutV xs none (some (k : Int)) = xs.take k := by
  unfold cutV
  rw [HT.sIx_none, HT.sIx_nat, List.drop_zero, Nat.sub_zero]
  rcases Nat.le_total k xs.length with h | h
  · rw [Nat.min_eq_left h]
  · rw [Nat.min_eq_right h, List.take_length, List.take_of_length_le h]
theorem b_hwr (T : Tx K mg A) : L2.Binds K A.d_heap_with_room ["row", "arms"] [] := T.F_heap_with_room.binds fun _ _ _ _ _ _ us hl => match us, hl with | [_, _], _ => rfl
/-- what a heap, a lesser key and a place must be -/
structure TkOk (H : Hp) (r w : Nat) (ks : List Int) (least : Int) (place : Nat) : Prop where
  hw : 1 ≤ w ∧ w ≤ 4
  row : RowIn H r ks
  fl : faultL ks w = []
  nd : ks.Nodup
  l12 : ks.length < 12
  lb : -1000000000 ≤ least ∧ least ≤ 1000000000
  lt : least < ks.getD 0 0
  pl : place < ks.length
def spHa : Sp := fun vs H Q _ => ∃ (r w place : Nat) (least : Int) (ks : List Int), vs = [.ref r, .int least, .int place, .int w] ∧ TkOk H r w ks least place ∧ ∀ H' q, Same H H' → H' q = some (.tup (ks.map V.int)) → Q (.ref q) H'
theorem ok_ha (T : Tx K mg A) : FnOk P w K mg base CX0 11 A.f_heap_after A.d_heap_after ["row", "least", "place", "arms"] spHa := by
  refine T.F_heap_after.ok sc_heap_after (fun vs H Q E h => ?_) (fun cdv B outer s H vs Q E hr h => ?_)
  · obtain ⟨r, w, place, least, ks, rfl, _⟩ := h
    rfl
  · obtain ⟨r, w, place, least, ks, rfl, h, q⟩ := h
    have nd := sc_heap_after.nd
    have hpl := h.pl
    have hlt := h.lt
    have hne : ks ≠ [] := fun z => by rw [z] at hpl; simp at hpl
    refine ⟨_, (pss_cons (ps_set (i := 4) nd rfl (Or.inl rfl) (pe_call (ok_hwr T) (hr.mono (by decide)) (by rfl) T.m_heap_with_room T.F_heap_with_room.kp (b_hwr T) .nil pass0 (pa_cons (pv 0) (pa_cons (pv 3) pa_nil))))
      (pss_cons (ps_expr (pe_call (ok_cf T) (hr.mono (by decide)) (by rfl) T.m_check_filled T.F_check_filled.kp (b_cf T) .nil pass0 (pa_cons (pv 4) pa_nil)))
      (pss_cons (ps_expr (pe_call (ok_ck T) (hr.mono (by decide)) (by rfl) T.m_check_key T.F_check_key.kp (b_ck T) .nil pass0 (pa_cons (pv 1) pa_nil)))
      (pss_cons (ps_if (pt_cmpR op_ge (pv 1) (pe_ix (r := rIx K) ix_seq (pv 4) pe_int (fun _ _ => rfl)) (nomark _)) (pss_one ps_never) pss_nil)
      (pss_cons (ps_expr (pe_call (ok_cp T) (hr.mono (by decide)) (by rfl) T.m_check_place T.F_check_place.kp (b_cp T) .nil pass0 (pa_cons (pv 2) (pa_cons (pe_callB call_len_seq (by rfl) T.g_len PySem.boot_len (pa_cons (pv 4) pa_nil)) pa_nil))))
      (pss_one (ps_ret (pv 4)))))))), ?_⟩
    refine ⟨_, rfl, _, rfl, r, w, ks, rfl, h.hw, h.row, h.fl, h.nd, h.l12, fun H1 t s1 e1 => ?_⟩
    refine ⟨_, rfl, t, _, rfl, e1, fun z => hne (List.map_eq_nil_iff.mp z), ?_⟩
    refine ⟨_, rfl, least, rfl, h.lb, ?_⟩
    refine ⟨_, rfl, _, rfl, .inr (.inl ⟨t, _, _, _, rfl, rfl, SqT.of e1, (key_at (p := 0) (by omega) : atI (ks.map V.int) ((0 : Nat) : Int) = _), ?_⟩)⟩
    refine ⟨_, _, rfl, rfl, _, rfl, ?_⟩
    rw [decide_eq_false (show ¬ least ≥ keyAt ks 0 by unfold keyAt; omega)]
    refine iteF ⟨_, rfl, _, rfl, t, _, rfl, .inr (SqT.of e1), _, _, rfl, ⟨by omega, by rw [List.length_map]; omega⟩, ?_⟩
    exact ⟨_, rfl, q _ t s1 e1⟩
theorem b_ha (T : Tx K mg A) : L2.Binds K A.d_heap_after ["row", "least", "place", "arms"] [] := T.F_heap_after.binds fun _ _ _ _ _ _ us hl => match us, hl with | [_, _, _, _], _ => rfl
theorem b_pon (T : Tx K mg A) : L2.Binds K A.d_place_over_next ["heap", "arms"] [] := T.F_place_over_next.binds fun _ _ _ _ _ _ us hl => match us, hl with | [_, _], _ => rfl
theorem root_way : ∀ w, w < 5 → ∀ i, i < 13 → 1 ≤ w → 0 ∈ wayL w i := by decide +kernel
theorem way_of {n w place : Nat} (hw : 1 ≤ w ∧ w ≤ 4) (hn : n ≤ 12) (hp : place < n) : ∃ l, Down n w 0 l ∧ endOf 0 l = place ∧ wayL w place = 0 :: l := by
  obtain ⟨l, h1, h2⟩ := of_sub hw hn place place 0 (Nat.le_refl _) hp (root_way w (by omega) place (by omega) hw.1)
  refine ⟨l, h1, h2, ?_⟩
  have := way_down hw hn l 0 (by omega) h1
  rw [h2, way_zero w (by omega) hw.1] at this
  exact this
def spUt (A : Ad) : Sp := fun vs H Q _ => ∃ (r w place : Nat) (least : Int) (ks : List Int), vs = [.ref r, .int least, .int place, .int w] ∧ TkOk H r w ks least place ∧
  ∀ H' q, Same H H' → ((keyAt ks (overP ks.length w) > keyAt ks place ∧ AtV A.CV H' q (overP ks.length w : Nat) (keyAt ks (overP ks.length w))) ∨ (¬ keyAt ks (overP ks.length w) > keyAt ks place ∧ AtQ A.CQ H' q (ahdL w ks least place))) → Q (.ref q) H'
theorem ok_ut (T : Tx K mg A) : FnOk P w K mg base CX0 12 A.f_undo_take A.d_undo_take ["row", "least", "place", "arms"] (spUt A) := by
  obtain ⟨mo, ko⟩ := kb_of T
  refine T.F_undo_take.ok sc_undo_take (fun vs H Q E h => ?_) (fun cdv B outer s H vs Q E hr h => ?_)
  · obtain ⟨r, w, place, least, ks, rfl, _⟩ := h
    rfl
  · obtain ⟨r, w, place, least, ks, rfl, h, q⟩ := h
    have nd := sc_undo_take.nd
    have hpl := h.pl
    have hw := h.hw
    have h12 := h.l12
    have hov : overP ks.length w < ks.length := by
      show (ks.length - 1) / w < ks.length
      have := Nat.div_le_self (ks.length - 1) w
      omega
    refine ⟨_, PSs.nox (pss_cons (ps_set (i := 4) nd rfl (Or.inl rfl) (pe_call (ok_ha T) (hr.mono (by decide)) (by rfl) T.m_heap_after T.F_heap_after.kp (b_ha T) .nil pass0 (pa_cons (pv 0) (pa_cons (pv 1) (pa_cons (pv 2) (pa_cons (pv 3) pa_nil))))))
      (pss_cons (ps_set (i := 5) nd rfl (Or.inl rfl) (pe_call (ok_pon T) (hr.mono (by decide)) (by rfl) T.m_place_over_next T.F_place_over_next.kp (b_pon T) .nil pass0 (pa_cons (pv 4) (pa_cons (pv 3) pa_nil))))
      (pss_cons (ps_if (pt_cmpR op_gt (pe_ix (r := rIx K) ix_seq (pv 4) (pv 5) (fun _ _ => rfl)) (pe_ix (r := rIx K) ix_seq (pv 4) (pv 2) (fun _ _ => rfl)) (nomark _)) (pss_one (ps_ret (pe_make T.mkCV (ok_iV T) (hr.mono (by decide)) (by rfl) T.mCV (b_iV T) .nil pass0 (pa_cons (pv 5) (pa_cons (pe_ix (r := rIx K) ix_seq (pv 4) (pv 5) (fun _ _ => rfl)) pa_nil))))) pss_nil)
      (pss_cons (ps_set (i := 6) nd rfl (Or.inl rfl) (pe_call (ok_rb T) (hr.mono (by decide)) (by rfl) T.m_row_before T.F_row_before.kp (b_rb T) .nil pass0 (pa_cons (pv 4) (pa_cons (pe_meth (pe_cmethK (pe_glob (v := .ref A.C) (by rfl) T.mC (relR _)) T.cr T.cof (ok_of T) (hr.mono (by decide)) ko pass0 (pa_cons (pv 4) pa_nil) (pk_cons (pv 3) pk_nil)) T.cT T.M_t_way_to (ok_way T) (hr.mono (by decide)) (b_way T) .nil pass0 (pa_cons (pv 2) pa_nil)) pa_nil))))
      (pss_one (ps_ret (pe_make T.mkCQ (ok_iQ T) (hr.mono (by decide)) (by rfl) T.mCQ (b_iQ T) .nil pass0 (pa_cons (pe_op (r := rCatU) op_catU (pe_op (r := rCatU) op_catU (pe_tup (pa_cons (pv 1) pa_nil)) (pe_slice (r := rSlU) sl_tupU (pv 6) (po_some pe_int) po_none)) (pe_slice (r := rSlU) sl_tupU (pv 6) po_none (po_some pe_int))) pa_nil)))))))), ?_⟩
    refine ⟨_, rfl, _, rfl, _, rfl, _, rfl, r, w, place, least, ks, rfl, h, fun H1 t s1 e1 => ?_⟩
    refine ⟨_, rfl, _, rfl, t, w, _, rfl, hw, SqT.of e1, by rw [List.length_map]; omega, by rw [List.length_map]; exact h12, fun H2 s2 => ?_⟩
    rw [List.length_map]
    have e2 := s2 _ _ e1
    refine ⟨_, rfl, _, rfl, .inr (.inl ⟨t, _, _, _, rfl, rfl, SqT.of e2, key_at hov, ?_⟩)⟩
    refine ⟨_, rfl, _, rfl, .inr (.inl ⟨t, _, _, _, rfl, rfl, SqT.of e2, key_at hpl, ?_⟩)⟩
    refine ⟨_, _, rfl, rfl, _, rfl, ?_⟩
    by_cases hgt : keyAt ks (overP ks.length w) > keyAt ks place
    · rw [decide_eq_true hgt]
      refine iteT ⟨_, rfl, _, rfl, _, rfl, .inr (.inl ⟨t, _, _, _, rfl, rfl, SqT.of e2, key_at hov, fun x dx nx ndx nex => ?_⟩)⟩
      exact ⟨x, dx, _, _, rfl, upd_same, fun H3 k3 st => ⟨rfl, q H3 x (s1.trans (s2.trans (new_same nx ndx k3))) (.inl ⟨hgt, st⟩)⟩⟩
    · rw [decide_eq_false hgt]
      refine iteF ⟨_, rfl, rfl, _, rfl, _, rfl, rfl, rfl, t, w, ks, rfl, hw, .inr e2, h.row.2.1, h.row.2.2, fun H3 tr s3 p0 t3 => ?_⟩
      obtain ⟨dx, l, g1, g2⟩ := id t3.ob
      have noW : (tf ks.length w l).lookup ("way_to" : Str) = none := tf_no _ _ _ (by decide +kernel) (by decide +kernel) (by decide +kernel)
      obtain ⟨wl, d1, d2, d3⟩ := way_of hw (by omega : ks.length ≤ 12) hpl
      refine ⟨tr, dx, _, rfl, g1, noW, _, rfl, tr, ks.length, w, place, rfl, t3, hpl, fun H4 z s4 n4 e4 => ?_⟩
      rw [d3] at e4
      refine ⟨t, z, 0, ks.length, w, ks, wl, rfl, s4 _ _ (s3 _ _ e2), SqT.of e4, rfl, by omega, hw.1, by omega, d1, fun H5 u s5 e5 => ?_⟩
      rw [← d3] at e5
      obtain ⟨us, eus⟩ : ∃ us, us = undoS ks (wayL w place) := ⟨_, rfl⟩
      have hul : us.length = ks.length := by rw [eus, undo_len]
      rw [← eus] at e5
      refine ⟨_, rfl, by show 1 ≤ sizeLine; decide, fun c nc => ?_⟩
      have s6 := Same.up (o := .tup [V.int least]) nc
      have ec := upd_same (H := H5) (a := c) (o := .tup [V.int least])
      have e6 := s6 _ _ e5
      generalize upd H5 c (.tup [V.int least]) = H6 at s6 ec e6
      refine ⟨_, rfl, _, rfl, u, _, rfl, e6, fun f H7 s7 e7 => ?_⟩
      rw [show (1 : Int) = ((1 : Nat) : Int) from rfl, cut_from] at e7
      refine ⟨c, f, _, _, rfl, rfl, s7 _ _ ec, e7, by rw [List.length_drop, List.length_map, List.length_singleton, sizeLine_eq]; omega, fun g H8 s8 e8 => ?_⟩
      refine ⟨_, rfl, _, rfl, u, _, rfl, s8 _ _ (s7 _ _ e6), fun k H9 s9 e9 => ?_⟩
      rw [show (1 : Int) = ((1 : Nat) : Int) from rfl, cut_to] at e9
      refine ⟨g, k, _, _, rfl, rfl, s9 _ _ e8, e9, by rw [List.length_append, List.length_drop, List.length_take, List.length_map, List.length_singleton, sizeLine_eq]; omega, fun b G1 s10 e10 => ?_⟩
      have eb : G1 b = some (.tup ((ahdL w ks least place).map V.int)) := by
        rw [e10]
        unfold ahdL
        rw [← eus, List.map_cons, List.map_append, List.map_drop, List.map_take]
        rfl
      refine fun x dx3 nx ndx nex => ?_
      have s11 := new_up (C := A.CQ) nx ndx nex
      exact ⟨x, dx3, b, _, rfl, upd_same, .inr (s11 _ _ eb), fun G2 k2 st => ⟨rfl, q G2 x (s1.trans (s2.trans (s3.trans (s4.trans (s5.trans (s6.trans (s7.trans (s8.trans (s9.trans (s10.trans (new_same nx ndx k2))))))))))) (.inr ⟨hgt, st⟩)⟩⟩
theorem keyAt_app {ks : List Int} {k : Int} {p : Nat} (h : p < ks.length) : keyAt (ks ++ [k]) p = keyAt ks p := by
  unfold keyAt
  rw [List.getD_eq_getElem?_getD, List.getD_eq_getElem?_getD, List.getElem?_append_left h]
theorem push_ok {w : Nat} {ks : List Int} {k : Int} (hl : ks.length < 12) (h : HeapL ks.length w ks) : HeapL (ks.length + 1) w (goUp w 20 (ks ++ [k]) ks.length [ks.length] 0).1 ∧ ((goUp w 20 (ks ++ [k]) ks.length [ks.length] 0).1).Perm (ks ++ [k]) := by
  have hl2 : (ks ++ [k]).length = ks.length + 1 := by rw [List.length_append]; rfl
  refine ⟨up_good 20 _ _ _ _ hl2 (by omega) (by omega) (fun c h1 h2 hc => ?_) (fun c h1 h2 hc _ => ?_), up_perm 20 _ _ _ _ (by omega)⟩
  · have := par_lt (w := w) h1
    rw [keyAt_app (by omega), keyAt_app (by omega)]
    exact h c h1 (by omega)
  · have := par_lt (w := w) h1
    omega
theorem put_ok {w : Nat} (hw : 1 ≤ w) {k : Int} {ks : List Int} (hl : ks.length ≤ 12) (hp : 1 ≤ ks.length) (h : HeapL ks.length w ks) :
    (goDown ks.length w 20 (putRow k ks) 0 [0] 0).1.length = ks.length ∧ HeapL ks.length w (goDown ks.length w 20 (putRow k ks) 0 [0] 0).1 ∧ (ks.getD 0 0 :: (goDown ks.length w 20 (putRow k ks) 0 [0] 0).1).Perm (k :: ks) := by
  have hlp := putRow_len (k := k) hp
  have key : ∀ p, 1 ≤ p → keyAt (putRow k ks) p = keyAt ks p := fun p h1 => by
    unfold keyAt putRow
    obtain ⟨p, rfl⟩ : ∃ p', p = p' + 1 := ⟨p - 1, by omega⟩
    rw [List.getD_eq_getElem?_getD, List.getD_eq_getElem?_getD, List.getElem?_cons_succ, List.getElem?_drop, Nat.add_comm 1 p]
  refine ⟨by rw [down_res]; exact hlp, good_heapL (down_good hw 20 _ 0 _ _ hlp (Nat.le_refl _) (by omega) (by omega) (fun p _ hp2 hp0 c hc => ?_) (fun q _ _ hq => ?_)), ?_⟩
  · obtain ⟨m1, m2, m3⟩ := mem_kid.mp hc
    rw [key p (by omega), key c m1]
    have := h c m1 m2
    rw [m3] at this
    exact this
  · have := (kid_in hw hq).1
    omega
  · refine (List.Perm.cons _ (down_perm hw 20 _ _ _ _ hlp (by omega))).trans ?_
    refine (List.Perm.swap _ _ _).trans ?_
    exact List.Perm.cons _ (List.Perm.of_eq (head_cons hp).symm)
theorem outRow_key {ks : List Int} {p : Nat} (h1 : 1 ≤ p) (h2 : p < ks.length - 1) : keyAt (outRow ks) p = keyAt ks p := by
  unfold keyAt outRow
  obtain ⟨p, rfl⟩ : ∃ p', p = p' + 1 := ⟨p - 1, by omega⟩
  rw [List.getD_eq_getElem?_getD, List.getD_eq_getElem?_getD, List.getElem?_cons_succ, List.getElem?_take_of_lt (by omega), List.getElem?_drop, Nat.add_comm 1 p]
  rfl
theorem take_ok {w : Nat} (hw : 1 ≤ w) {ks : List Int} (hl : ks.length ≤ 12) (hp : 1 ≤ ks.length) (h : HeapL ks.length w ks) :
    (takeR ks w).1.length = ks.length - 1 ∧ HeapL (ks.length - 1) w (takeR ks w).1 ∧ (ks.getD 0 0 :: (takeR ks w).1).Perm ks := by
  unfold takeR
  by_cases h1 : ks.length = 1
  · rw [if_pos h1]
    refine ⟨by rw [h1]; rfl, fun c h2 h3 => by omega, ?_⟩
    have e := head_cons hp
    rw [List.drop_eq_nil_of_le (by omega)] at e
    exact List.Perm.of_eq e.symm
  · rw [if_neg h1]
    have h2 : 2 ≤ ks.length := by omega
    have hlo := outRow_len h2
    refine ⟨by rw [down_res]; exact hlo, good_heapL (down_good hw 20 _ 0 _ _ hlo (Nat.le_refl _) (by omega) (by omega) (fun p _ hp2 hp0 c hc => ?_) (fun q _ _ hq => ?_)), ?_⟩
    · obtain ⟨m1, m2, m3⟩ := mem_kid.mp hc
      rw [outRow_key (by omega) hp2, outRow_key m1 m2]
      have := h c m1 (by omega)
      rw [m3] at this
      exact this
    · have := (kid_in hw hq).1
      omega
    · exact (List.Perm.cons _ (down_perm hw 20 _ _ _ _ hlo (by omega))).trans (outRow_perm h2)
theorem dn_perm {n w : Nat} (hw : 1 ≤ w) : ∀ (l : List Nat) (ks : List Int) (p : Nat), ks.length = n → p < n → Down n w p l → (dnS ks p l).Perm ks
  | [], _, _, _, _, _ => List.Perm.refl _
  | b :: l, ks, p, hl, hp, ⟨hb, hd⟩ => by
    obtain ⟨b1, b2⟩ := kid_in hw hb
    exact (dn_perm hw l (swp ks p b) b (by rw [swp_len, hl]) b2 hd).trans (swp_perm (by omega) (by omega))
theorem in_bel {w n place one : Nat} (hw : 1 ≤ w ∧ w ≤ 4) (hn : n ≤ 12) (h1 : 1 ≤ n) (h : place ∈ wayL w (n - 1)) : one ∈ belL w n place ↔ one ∈ wayL w (n - 1) ∧ place < one := by
  obtain ⟨b1, b2, b3, b4⟩ := bel_ok hw hn h1 h
  refine ⟨fun z => ⟨by rw [b4]; exact List.mem_append_right _ z, ((down_lt hw.1 _ _ b1 b2).1 one z).1⟩, fun ⟨z, y⟩ => ?_⟩
  rw [b4] at z
  rcases List.mem_append.mp z with x | x
  · have := way_leA w (by omega) place (by omega) hw.1 one x
    omega
  · exact x
def stkP (w : Nat) (ks : List Int) (place one other : Nat) : Prop := (one ∈ wayL w (ks.length - 1) ∧ place < one) ∧ other ∈ kidL ks.length w ((one - 1) / w) ∧ keyAt ks other < keyAt ks one
theorem swp_swp_k17 {ks : List Int} {p b : Nat} (hp : p < ks.length) (hb : b < ks.length) (h : p ≠ b) : swp (swp ks p b) b p = ks := by
  refine ext_key (by rw [swp_len, swp_len]) fun q _ => ?_
  rw [keyAt_swp (by rw [swp_len]; exact hb) (by rw [swp_len]; exact hp), keyAt_swp hp hb, keyAt_swp hp hb, keyAt_swp hp hb, if_pos rfl, if_neg h, if_pos rfl]
  by_cases e1 : q = p
  · rw [if_pos e1, e1]
  · rw [if_neg e1, if_neg e1]
    by_cases e2 : q = b
    · rw [if_pos e2, e2]
    · rw [if_neg e2, if_neg e2]
/-- a push undoes it -/
theorem up_dn {n w : Nat} (hw : 1 ≤ w) : ∀ (l : List Nat) (ks : List Int) (p f : Nat) (way : List Nat) (lk : Nat), ks.length = n → p < n → Down n w p l → (∀ q ∈ l, keyAt ks p < keyAt ks q) → way.getLastD 0 = endOf p l →
    ∃ way' lk', goUp w (f + l.length) (dnS ks p l) (endOf p l) way lk = goUp w f ks p way' lk' ∧ way'.getLastD 0 = p
  | [], ks, p, f, way, lk, _, _, _, _, hl => ⟨way, lk, rfl, hl⟩
  | b :: l, ks, p, f, way, lk, hlen, hp, ⟨hb, hd⟩, hlt, hl => by
    obtain ⟨b1, b2⟩ := kid_in hw hb
    obtain ⟨m1, m2, m3⟩ := mem_kid.mp hb
    obtain ⟨h1, _, _⟩ := down_lt hw l b b2 hd
    have sw : ∀ c, keyAt (swp ks p b) c = if c = b then keyAt ks p else if c = p then keyAt ks b else keyAt ks c := fun c => keyAt_swp (by omega) (by omega)
    obtain ⟨way', lk', e, hw'⟩ := up_dn hw l (swp ks p b) b (f + 1) way lk (by rw [swp_len, hlen]) b2 hd (fun q hq => by
      have := h1 q hq
      rw [sw, sw, if_pos rfl, if_neg (by omega), if_neg (by omega)]
      exact hlt q (List.mem_cons_of_mem _ hq)) (by rw [hl, end_cons])
    refine ⟨way' ++ [p], lk' + 1, ?_, by simp⟩
    rw [end_cons]
    show goUp w (f + (l.length + 1)) (dnS (swp ks p b) b l) (endOf b l) way lk = _
    rw [show f + (l.length + 1) = f + 1 + l.length by omega, e]
    have hlt2 : keyAt (swp ks p b) b < keyAt (swp ks p b) ((b - 1) / w) := by
      rw [m3, sw, sw, if_pos rfl, if_neg (by omega), if_pos rfl]
      exact hlt b List.mem_cons_self
    rw [goUp_go (by omega) hlt2, m3, swp_swp_k17 (by omega) (by omega) (by omega)]
/-- but for a place -/
def HeapBut (n w : Nat) (ks : List Int) (p : Nat) : Prop := (∀ c, 1 ≤ c → c < n → c ≠ p → keyAt ks ((c - 1) / w) ≤ keyAt ks c) ∧ (p ≠ 0 → ∀ c ∈ kidL n w p, keyAt ks ((p - 1) / w) ≤ keyAt ks c)
theorem dn_heap {n w : Nat} (hw : 1 ≤ w) : ∀ (l : List Nat) (ks : List Int) (p : Nat), ks.length = n → p < n → Down n w p l → HeapBut n w ks p →
    (∀ q ∈ l, ∀ c ∈ kidL n w ((q - 1) / w), keyAt ks q ≤ keyAt ks c) → HeapBut n w (dnS ks p l) (endOf p l)
  | [], ks, p, _, _, _, h, _ => h
  | b :: l, ks, p, hl, hp, ⟨hb, hd⟩, h, hm => by
    obtain ⟨b1, b2⟩ := kid_in hw hb
    obtain ⟨m1, m2, m3⟩ := mem_kid.mp hb
    obtain ⟨h1, _, _⟩ := down_lt hw l b b2 hd
    have sw : ∀ c, keyAt (swp ks p b) c = if c = b then keyAt ks p else if c = p then keyAt ks b else keyAt ks c := fun c => keyAt_swp (by omega) (by omega)
    rw [end_cons]
    have hpb : keyAt ks p ≤ keyAt ks b := by have := h.1 b m1 m2 (by omega); rw [m3] at this; exact this
    refine dn_heap hw l (swp ks p b) b (by rw [swp_len, hl]) b2 hd ⟨fun c c1 c2 hc => ?_, fun _ c hc => ?_⟩ (fun q hq c hc => ?_)
    · rw [sw c, if_neg hc, sw]
      have hcp : (c - 1) / w ≤ c - 1 := Nat.div_le_self _ _
      by_cases e1 : c = p
      · subst e1
        rw [if_pos rfl, if_neg (by omega), if_neg (by omega)]
        exact h.2 (by omega) b hb
      · rw [if_neg e1]
        by_cases e2 : (c - 1) / w = b
        · rw [if_pos e2]
          have := h.1 c c1 c2 e1
          rw [e2] at this
          omega
        · rw [if_neg e2]
          by_cases e3 : (c - 1) / w = p
          · rw [if_pos e3]
            exact hm b List.mem_cons_self c (by rw [m3]; exact mem_kid.mpr ⟨c1, c2, e3⟩)
          · rw [if_neg e3]
            exact h.1 c c1 c2 e1
    · obtain ⟨c1, c2, c3⟩ := mem_kid.mp hc
      obtain ⟨d1, d2⟩ := kid_in hw hc
      rw [m3, sw, sw, if_neg (by omega), if_pos rfl, if_neg (by omega), if_neg (by omega)]
      have := h.1 c c1 c2 (by omega)
      rw [c3] at this
      exact this
    · obtain ⟨q1, q2⟩ := h1 q hq
      obtain ⟨c1, c2, c3⟩ := mem_kid.mp hc
      have hqb : b ≤ (q - 1) / w := by
        obtain ⟨j, hj, e⟩ := List.mem_iff_getElem.mp hq
        have g := down_get hw l b b2 hd j hj
        rw [e] at g
        rw [g.1]
        cases j with
        | zero => exact Nat.le_refl _
        | succ i =>
          rw [List.getD_cons_succ, List.getD_eq_getElem?_getD, List.getElem?_eq_getElem (by omega)]
          have := (down_get hw l b b2 hd i (by omega)).2.2.1
          show b ≤ l[i]
          omega
      have hcp : (c - 1) / w ≤ c - 1 := Nat.div_le_self _ _
      rw [sw, sw, if_neg (by omega), if_neg (by omega), if_neg (by omega), if_neg (by omega)]
      exact hm q (List.mem_cons_of_mem _ hq) c hc
def pushR (bs : List Int) (w : Nat) (key : Int) : List Int × List Nat × Nat := goUp w 20 (bs ++ [key]) bs.length [bs.length] 0
def undP (w : Nat) (ks bs : List Int) (key : Int) (place : Nat) : Prop := bs.length + 1 = ks.length ∧ faultL bs w = [] ∧ (pushR bs w key).1 = ks ∧ lastW (pushR bs w key).2.1 = place
theorem least_le_k17 {ks : List Int} {l : List Nat} {c : Nat} (h : c ∈ l) : keyAt ks (leastC ks l) ≤ keyAt ks c := by
  obtain ⟨n, en⟩ : ∃ n, l.length = n + 1 := ⟨l.length - 1, by have := List.length_pos_iff.mpr (List.ne_nil_of_mem h); omega⟩
  have b := Cl.best_is (fun i => keyAt ks (l.getD i 0)) n
  rw [← en] at b
  rw [← least_of b]
  obtain ⟨j, hj, e⟩ := List.mem_iff_getElem.mp h
  have := b.2.1 j hj
  simp only at this
  rw [show l.getD j 0 = c by rw [List.getD_eq_getElem?_getD, List.getElem?_eq_getElem hj, ← e]; rfl] at this
  exact this
theorem down_le {n w : Nat} (hw : 1 ≤ w) {ks : List Int} (hh : HeapL n w ks) : ∀ (l : List Nat) (p : Nat), Down n w p l → ∀ q ∈ l, keyAt ks p ≤ keyAt ks q
  | [], _, _, q, hq => nomatch hq
  | b :: l, p, ⟨hb, hd⟩, q, hq => by
    obtain ⟨m1, m2, m3⟩ := mem_kid.mp hb
    have h1 := hh b m1 m2
    rw [m3] at h1
    rcases List.mem_cons.mp hq with rfl | hq
    · exact h1
    · have := down_le hw hh l b hd q hq
      omega
theorem keyAt_take {ks : List Int} {m c : Nat} (h : c < m) : keyAt (ks.take m) c = keyAt ks c := by
  unfold keyAt
  rw [List.getD_eq_getElem?_getD, List.getElem?_take, if_pos h, List.getD_eq_getElem?_getD]
section
variable {w place : Nat} {ks : List Int}
theorem und_ok (hw : 1 ≤ w ∧ w ≤ 4) (h12 : ks.length ≤ 12) (h1 : 1 ≤ ks.length) (hf : faultL ks w = []) (hnd : ks.Nodup) (hpl : place ∈ wayL w (ks.length - 1)) (hb : badL ks.length w ks (belL w ks.length place) = none) :
    undP w ks (undR w ks place) (keyAt ks place) place ∧ ∀ z ∈ undR w ks place, z ∈ ks := by
  obtain ⟨b1, b2, b3, b4⟩ := bel_ok hw h12 h1 hpl
  obtain ⟨l, el⟩ : ∃ l, l = belL w ks.length place := ⟨_, rfl⟩
  unfold undR
  rw [← el] at b2 b3 b4 hb ⊢
  have hh := fault_heap hw h12 rfl hf
  have hall : ∀ c ∈ l, leastC ks (kidL ks.length w ((c - 1) / w)) = c := fun c hc => by
    have := List.find?_eq_none.mp hb c hc
    simpa using this
  have hle := down_le hw.1 hh l place b2
  have hin := (down_lt hw.1 l place b1 b2).1
  have hbut := dn_heap hw.1 l ks place rfl b1 b2 ⟨fun c c1 c2 _ => hh c c1 c2, fun h0 c hc => by
    obtain ⟨m1, m2, m3⟩ := mem_kid.mp hc
    have x := hh c m1 m2
    have y := hh place (by omega) b1
    rw [m3] at x
    omega⟩ (fun q hq c hc => by
    have := least_le_k17 (ks := ks) hc
    rw [hall q hq] at this
    exact this)
  rw [b3] at hbut
  have hlast : keyAt (dnS ks place l) (ks.length - 1) = keyAt ks place := by
    rw [dn_at hw.1 l ks place rfl b1 b2, if_pos b3.symm]
  have hdl := dn_len l ks place
  have hbl : ((dnS ks place l).take (ks.length - 1)).length = ks.length - 1 := by rw [List.length_take, hdl]; omega
  have happ : (dnS ks place l).take (ks.length - 1) ++ [keyAt ks place] = dnS ks place l := by
    refine ext_key (by rw [List.length_append, List.length_singleton, hbl, hdl]; omega) fun q hq => ?_
    rw [List.length_append, List.length_singleton, hbl] at hq
    by_cases e : q < ks.length - 1
    · have : keyAt ((dnS ks place l).take (ks.length - 1) ++ [keyAt ks place]) q = keyAt ((dnS ks place l).take (ks.length - 1)) q := by
        show List.getD _ q 0 = List.getD _ q 0
        rw [List.getD_eq_getElem?_getD, List.getElem?_append_left (by omega), List.getD_eq_getElem?_getD]
      rw [this, keyAt_take e]
    · have eq : q = ks.length - 1 := by omega
      rw [eq, hlast]
      show List.getD _ (ks.length - 1) 0 = _
      rw [List.getD_eq_getElem?_getD, List.getElem?_append_right (by omega), hbl, Nat.sub_self]
      rfl
  refine ⟨⟨by omega, heap_fault hbl fun c c1 c2 => ?_, ?_⟩, fun z hz => (dn_perm hw.1 l ks place rfl b1 b2).mem_iff.mp (List.mem_of_mem_take hz)⟩
  · have hcp : (c - 1) / w ≤ c - 1 := Nat.div_le_self _ _
    rw [keyAt_take (by omega), keyAt_take (by omega)]
    exact hbut.1 c c1 (by omega) (by omega)
  · have hll : l.length ≤ 12 := by
      have x := congrArg List.length b4
      have y := way_len w (by omega) (ks.length - 1) (by omega) hw.1
      have z := (way_idx hw (by omega) hpl).2.1
      rw [List.length_append] at x
      omega
    unfold pushR
    rw [happ, hbl]
    obtain ⟨way', lk', e, hw'⟩ := up_dn hw.1 l ks place (20 - l.length) [ks.length - 1] 0 rfl b1 b2 (fun q hq => by
      have x := hle q hq
      have y := key_ne hnd b1 (hin q hq).2 (by have := (hin q hq).1; omega)
      omega) (by rw [b3]; rfl)
    rw [show 20 - l.length + l.length = 20 by omega, b3] at e
    obtain ⟨f, hf2⟩ : ∃ f, 20 - l.length = f + 1 := ⟨20 - l.length - 1, by omega⟩
    rw [e, hf2]
    by_cases h0 : place = 0
    · rw [goUp, if_pos h0]
      exact ⟨rfl, hw'⟩
    · rw [goUp_stay h0 (by have := hh place (by omega) b1; omega)]
      exact ⟨rfl, hw'⟩
theorem stk_ok (hw : 1 ≤ w ∧ w ≤ 4) (h12 : ks.length ≤ 12) (h1 : 1 ≤ ks.length) (hnd : ks.Nodup) (hpl : place ∈ wayL w (ks.length - 1)) {c : Nat} (hb : badL ks.length w ks (belL w ks.length place) = some c) :
    stkP w ks place c (leastC ks (kidL ks.length w ((c - 1) / w))) := by
  obtain ⟨b1, b2, b3, b4⟩ := bel_ok hw h12 h1 hpl
  have hm := List.mem_of_find?_eq_some hb
  have hp := List.find?_some hb
  have hin := (down_lt hw.1 _ place b1 b2).1 c hm
  have hck : c ∈ kidL ks.length w ((c - 1) / w) := mem_kid.mpr ⟨by omega, hin.2, rfl⟩
  have hlm := least_mem (ks := ks) (List.ne_nil_of_mem hck)
  have hne : leastC ks (kidL ks.length w ((c - 1) / w)) ≠ c := by simpa using hp
  refine ⟨(in_bel hw h12 h1 hpl).mp hm, hlm, ?_⟩
  have x := least_le_k17 (ks := ks) hck
  have y := key_ne hnd (mem_kid.mp hlm).2.1 hin.2 hne
  omega
end
end
end Tw

set_option Elab.async false
set_option linter.all false
set_option maxRecDepth 100000
set_option maxHeartbeats 2000000
namespace Tw
open PySem PySem.Spec PyProof.Rows L2
section
variable {P : Program} {w : World} {K : PySem.W.Frag} {mg : Str → Option Value} {base : Heap} {A : Ad}
open LamX (ExtN Tabs TabS)
/-! what is used: ok_lp ok_up2 ok_ut ok_tk ok_th ok_put ok_build ok_code ok_dec ok_push ok_ish ok_sub ok_pon ok_hwr ok_arm ok_pick ok_take push_ok take_ok hole_ok put_ok bld_perm bld_good good_heapL und_ok ahd_bef kup2 klp kb_ut kb_build kb_code kb_dec kb_push kb_ish -/
theorem use41 : True := trivial

end
end Tw

set_option Elab.async false
set_option linter.all false
set_option maxRecDepth 100000
set_option maxHeartbeats 2000000
namespace Tw
open PySem PySem.Spec PyProof.Rows L2
section
variable {P : Program} {w : World} {K : PySem.W.Frag} {mg : Str → Option Value} {base : Heap} {A : Ad}
open LamX (ExtN Tabs TabS)
/-- a tuple of keys at an address -/
def RowAt (H : Hp) (v : V) (l : List Int) : Prop := ∃ t, v = .ref t ∧ H t = some (.tup (l.map V.int))
abbrev RowsAt (H : Hp) : List V → List (List Int) → Prop := Paired (RowAt H)
structure AccR (H1 : Hp) (D : Addr) (ls : List (List Int)) (H : Hp) : Prop where
  s : Same H1 H
  n : H1 D = Option.none
  a : ∃ xs, H D = some (.lst xs) ∧ RowsAt H xs ls
theorem AccR.start {H1 : Hp} {D : Addr} (n : H1 D = none) : AccR H1 D [] (upd H1 D (.lst [])) := ⟨Same.up n, n, [], upd_same, .nil⟩
theorem RowsAt.get {H : Hp} : ∀ {xs : List V} {ls : List (List Int)} {i : Nat} {x : V}, RowsAt H xs ls → xs[i]? = some x → ∃ hi : i < ls.length, RowAt H x ls[i]
  | _, _, 0, _, .cons a _, e => ⟨Nat.succ_pos _, by rw [← Option.some.inj e]; exact a⟩
  | _, _, i + 1, _, .cons _ b, e => by
    obtain ⟨hi, r⟩ := RowsAt.get b (by simpa using e)
    exact ⟨Nat.succ_lt_succ hi, r⟩
theorem RowsAt.put {H : Hp} {D : Addr} {xs zs ys : List V} {ls : List (List Int)} (hD : H D = some (.lst zs)) (h : RowsAt H xs ls) : RowsAt (upd H D (.lst ys)) xs ls :=
  L2.Paired.mapP h fun _ _ ⟨t, e, z⟩ => ⟨t, e, by rw [upd_ne (ne_of z hD (by intro q; cases q))]; exact z⟩
theorem RowsAt.push {H : Hp} {x : V} {l : List Int} (hp : RowAt H x l) : ∀ {xs : List V} {ls : List (List Int)}, RowsAt H xs ls → RowsAt H (xs ++ [x]) (ls ++ [l])
  | _, _, .nil => .cons hp .nil
  | _, _, .cons a b => .cons a (RowsAt.push hp b)
theorem AccR.push {H1 H : Hp} {D : Addr} {ls : List (List Int)} {x : V} {l : List Int} (h : AccR H1 D ls H) (hp : RowAt H x l) (hl : ls.length < sizeLine) :
    ∃ acc, H D = some (.lst acc) ∧ acc.length < sizeLine ∧ AccR H1 D (ls ++ [l]) (upd H D (.lst (acc ++ [x]))) := by
  obtain ⟨xs, e, z⟩ := h.a
  refine ⟨xs, e, by rw [z.length]; exact hl, fun b o k => ?_, h.n, xs ++ [x], upd_same, (RowsAt.push hp z).put e⟩
  rw [upd_ne (ne_of_none k h.n)]
  exact h.s b o k
theorem RowsAt.same {H H' : Hp} {xs : List V} {ls : List (List Int)} (h : RowsAt H xs ls) (s : Same H H') : RowsAt H' xs ls := L2.Paired.mapP h fun _ _ ⟨t, e, z⟩ => ⟨t, e, s _ _ z⟩
theorem AccR.same {H1 H H' : Hp} {D : Addr} {ls : List (List Int)} (h : AccR H1 D ls H) (s : Same H H') : AccR H1 D ls H' := ⟨h.s.trans s, h.n, let ⟨xs, e, z⟩ := h.a; ⟨xs, s _ _ e, z.same s⟩⟩
theorem AtQ.ext {C : Addr} {H H' : Hp} {p : Addr} {x0 : List Int} (h : AtQ C H p x0) (e : LamX.ExtN H H') : AtQ C H' p x0 := let ⟨dx, t0, h, e0⟩ := h; ⟨dx, t0, e _ _ h (fun _ z => nomatch z), e _ _ e0 (fun _ z => nomatch z)⟩
theorem AtQ.same {C : Addr} {H H' : Hp} {p : Addr} {x0 : List Int} (h : AtQ C H p x0) (s : Same H H') : AtQ C H' p x0 := h.ext (extN_of s)
theorem AtV.ext {C : Addr} {H H' : Hp} {p : Addr} {x0 : Int} {x1 : Int} (h : AtV C H p x0 x1) (e : LamX.ExtN H H') : AtV C H' p x0 x1 := let ⟨dx, h⟩ := h; ⟨dx, e _ _ h (fun _ z => nomatch z)⟩
theorem AtV.same {C : Addr} {H H' : Hp} {p : Addr} {x0 : Int} {x1 : Int} (h : AtV C H p x0 x1) (s : Same H H') : AtV C H' p x0 x1 := h.ext (extN_of s)
theorem DrAt.start {K : PySem.W.Frag} {H : Hp} {d a : Addr} {ns : List Int} (ha : SqL K H a (ns.map V.int)) (hl : ns.length ≤ 63) (hd : H d = none) : DrAt K (upd H d (.lst [.ref a, .int 0])) d a ns 0 := by
  refine ⟨upd_same, ?_, (Same.up hd).seq ha, hl⟩
  rcases ha with (h | ⟨o, h⟩) | h
  · exact .inl (ne_of_none h hd)
  · exact .inl (ne_of_none h hd)
  · exact .inr fun H' => .inr h
theorem FndU.same {A : Ad} {w place : Nat} {ks : List Int} {H H' : Hp} {q : Addr} (h : FndU A w ks place H q) (s : Same H H') : FndU A w ks place H' q := h.imp (fun ⟨c, a, b⟩ => ⟨c, a, b.same s⟩) (fun ⟨a, b⟩ => ⟨a, b.same s⟩)
end
end Tw

set_option Elab.async false
set_option linter.all false
set_option maxRecDepth 100000
set_option maxHeartbeats 2000000
namespace Tw
open PySem PySem.Spec PyProof.Rows L2
section
variable {P : Program} {w : World} {K : PySem.W.Frag} {mg : Str → Option Value} {base : Heap} {A : Ad}
open LamX (ExtN Tabs TabS)
/-! falling_chains on a heap, fewest_changed, places_behind -/
def spFc (A : Ad) : Sp := fun vs H Q _ => ∃ (r p n w : Nat) (ks : List Int), vs = [.ref r, .ref p] ∧ TreeAt A.C H p n w ∧ H r = some (.tup (ks.map V.int)) ∧ ks.length = n ∧ faultL ks w = [] ∧
  ∀ H' q (xs : List V), Same H H' → H' q = some (.lst xs) → xs.length = n → Q (.ref q) H'
theorem ok_fc (T : Tx K mg A) : FnOk P w K mg base CX0 9 A.f_falling_chains A.d_falling_chains ["row", "tree"] (spFc A) := by
  refine T.F_falling_chains.ok sc_falling_chains (fun vs H Q E h => ?_) (fun cdv B outer s H vs Q E hr h => ?_)
  · obtain ⟨r, p, n, w, ks, rfl, _⟩ := h
    rfl
  · obtain ⟨r, p, n, w, ks, rfl, ta, er, hkl, hf, q⟩ := h
    have nd := sc_falling_chains.nd
    have hn := ta.hn
    have hw := ta.hw
    obtain ⟨dx, l, g1, g2⟩ := id ta.ob
    refine ⟨_, PSs.nox (pss_cons (ps_set (i := 2) nd rfl (Or.inl rfl) (pe_lst pa_nil))
      (C8.pss_cut (ps_for PassesOwn.never rfl (pi_reversed (by rfl) T.g_reversed (pa_cons (pe_callTy (call_listO T.D_t___iter__ (ok_iter T) (b_iter T) T.D_t___len__ (ok_len T) (b_len T) (hr.mono (by decide))) (by rfl) T.g_list (by decide +kernel) (pa_cons (pv 1) pa_nil)) pa_nil)) (pg_name (i := 3) nd rfl (Or.inr rfl)) (pss_cons (ps_set (i := 4) nd rfl (Or.inr rfl) (pe_meth (pv 1) T.cT T.M_t_subtree (ok_sub T) (hr.mono (by decide)) (b_sub T) .nil pass0 (pa_cons (pv 3) pa_nil)))
      (C8.pss_cut (ps_setLc (i := 5) (own := [("chain", 7)]) (g := gName 7) rfl nd rfl rfl (sw_true rfl rfl rfl (by decide +kernel)) (pi_list (pv 2)) (blkOk_by (own := [("chain", 7)]) (N := ["row", "tree", "chains", "place", "below", "lesser", "longer", "chain"]) (sc := (defScope s_falling_chains)) (by decide +kernel)) (fun _ _ _ _ _ => pg_name (i := 7) nd rfl (Or.inl rfl)) (fun _ _ _ _ _ => pts_one (PW.pt (pw_and (pt_cmpR (r := L2.rIn K false) op_in_seq (pe_ix (r := rIxT K) ix_tup (pv 7) pe_int (fun _ _ => rfl)) (pv 4) (by rfl)) (pw_and1 (pt_cmpR op_lt (pe_ix (r := rIxT K) ix_tup (pv 0) (pe_ix (r := rIxT K) ix_tup (pv 7) pe_int (fun _ _ => rfl)) (fun _ _ => rfl)) (pe_ix (r := rIxT K) ix_tup (pv 0) (pv 3) (fun _ _ => rfl)) (nomark _)))))) (fun _ _ _ _ _ => (pv 7)))
      (pss_one (ps_if (pt_truK (K := K) rfl (pv 5) (fun _ => rfl)) pss_never (pss_one (ps_expr (pe_bm PySem.F.plainAttrs_list PySem.F.slot_list_append PySem.F.type_list_append mt_append (pv 2) (pa_cons (pe_tup (pa_cons (pv 3) pa_nil)) pa_nil)))))))))
      (pss_one (ps_ret (pv 2))))), ?_⟩
    refine ⟨Nat.zero_le _, fun D nD => ?_⟩
    have ac0 : AccR H D [] (upd H D (.lst [])) := AccR.start nD
    refine ⟨fun σ' H' => ∃ x3 x4 x5, σ' = [some (.ref r), some (.ref p), some (.ref D), x3, x4, x5, none, none] ∧ AccR H D ((List.range n).map fun j => [((n - 1 - j : Nat) : Int)]) H', ?_, ?_⟩
    · have sD := ac0.s
      refine ⟨_, rfl, p, dx, _, l, pl n, rfl, sD _ _ g1, tf_pl _ _ _, SqT.of (sD _ _ g2), by rw [pl_len]; omega, ⟨p, n, w, rfl, ta.same sD, n, rfl, by omega, rfl⟩, fun c nc => ?_⟩
      have ac1 := ac0.same (Same.up (o := .lst (pl n)) nc)
      have ec := upd_same (H := upd H D (.lst [])) (a := c) (o := .lst (pl n))
      have hcD : c ≠ D := fun z => by rw [z, upd_same] at nc; cases nc
      generalize upd (upd H D (.lst [])) c (.lst (pl n)) = H1 at ac1 ec
      refine ⟨c, _, rfl, SqL.of ec, RT.for_Itv (fun i σ' H' => (∃ x3 x4 x5, σ' = [some (.ref r), some (.ref p), some (.ref D), x3, x4, x5, none, none]) ∧ AccR H D ((List.range i).map fun j => [((n - 1 - j : Nat) : Int)]) H' ∧ H' c = some (.lst (pl n)) ∧ i ≤ n) ?_ ?_ ?_ ?_⟩
      · exact ⟨⟨_, _, _, rfl⟩, ac1, ec, Nat.zero_le _⟩
      · rintro i σ' H' h
        exact SqL.of h.2.2.1
      · rintro i x σ' H2 hi hx ⟨⟨x3, x4, x5, rfl⟩, ac, ec2, hi2⟩
        rw [pl_len] at hi hx
        obtain ⟨_, rfl⟩ := pl_at hx
        have hpn : n - 1 - i < n := by omega
        have noS : (tf n w l).lookup ("subtree" : Str) = none := tf_no _ _ _ (by decide +kernel) (by decide +kernel) (by decide +kernel)
        refine ⟨_, rfl, p, dx, _, rfl, ac.s _ _ g1, noS, _, rfl, p, n, w, n - 1 - i, rfl, ta.same ac.s, hpn, fun H3 b s3 nb eb => ?_⟩
        have ac3 := ac.same s3
        have ec3 := s3 _ _ ec2
        obtain ⟨xs, eD, rx⟩ := ac3.a
        have er3 := ac3.s _ _ er
        generalize ep : n - 1 - i = pp at *
        refine ⟨fun σ' H' => ∃ F : Addr, σ' = [some (.ref r), some (.ref p), some (.ref D), some (.int pp), some (.ref b), some (.ref F), none, none] ∧ Same H3 H' ∧ H' F = some (.lst []), ?_, ?_⟩
        · refine ⟨_, rfl, D, rfl, ⟨_, SqL.of eD⟩, fun D2 nD2 => ?_⟩
          refine lc_it (walk_list (xs := xs)) (fun j H' => Acc H3 D2 [] H') (Acc.start nD2) (fun j H' _ a => SqL.of (a.s _ _ eD)) ?_ ?_
          · rintro j y H5 H6 hj a ⟨rfl, hy⟩
            obtain ⟨hj2, t, rfl, et⟩ := RowsAt.get rx hy
            rw [List.length_map, List.length_range] at hj2
            rw [List.getElem_map, List.getElem_range] at et
            have et6 := a.s _ _ et
            obtain ⟨qq, eq⟩ : ∃ qq, qq = n - 1 - j := ⟨_, rfl⟩
            rw [← eq] at et6
            have hqn : qq < n := by omega
            refine ⟨rfl, _, rfl, t, _, _, V.int (qq : Nat), rfl, rfl, SqT.of et6, rfl, _, rfl, b, _, rfl, .inr (SqT.of (a.s _ _ eb)), rfl, vi_flat _, _, rfl, ?_⟩
            rw [if_neg Bool.false_ne_true, mem_vi]
            by_cases hin : qq ∈ subL n w pp
            · rw [decide_eq_true hin]
              refine iteT ⟨_, rfl, _, rfl, t, _, _, V.int (qq : Nat), rfl, rfl, SqT.of et6, rfl, r, _, _, _, rfl, rfl, SqT.of (a.s _ _ er3), key_at (show qq < ks.length by omega), _, rfl, _, rfl, r, _, _, _, rfl, rfl, SqT.of (a.s _ _ er3), key_at (show pp < ks.length by omega), _, _, rfl, rfl, _, rfl, ?_⟩
              have hle := no_fault hw (by omega) hf qq (by omega) pp (of_decide_eq_true (List.mem_filter.mp hin).2)
              rw [decide_eq_false (show ¬ keyAt ks qq < keyAt ks pp from Int.not_lt.mpr hle)]
              exact iteF a
            · rw [decide_eq_false hin]
              exact iteF (iteF a)
          · intro H5 a
            exact ⟨D2, rfl, a.s, a.a⟩
        rintro σ' H4 ⟨F, rfl, s4, eF⟩
        have ac4 := ac3.same s4
        refine ⟨_, rfl, false, .inl ⟨_, SqL.of eF, rfl⟩, iteF ?_⟩
        obtain ⟨xs4, eD4, _⟩ := ac4.a
        refine ⟨_, rfl, .inl ⟨rfl, _, SqL.of eD4⟩, _, rfl, by show 1 ≤ sizeLine; decide, fun t nt => ?_⟩
        have ac5 := ac4.same (Same.up (o := .tup [V.int (pp : Nat)]) nt)
        obtain ⟨acc, a1, a2, a3⟩ := ac5.push (x := .ref t) (l := [((pp : Nat) : Int)]) ⟨t, rfl, upd_same⟩ (small1000 (by rw [List.length_map, List.length_range]; omega))
        refine ⟨D, acc, _, rfl, rfl, a1, a2, ⟨_, _, _, rfl⟩, ?_, ?_, by omega⟩
        · rw [List.range_succ, List.map_append]
          show AccR H D (_ ++ [[((n - 1 - i : Nat) : Int)]]) _
          rw [ep]
          exact a3
        · rw [upd_ne hcD]
          exact (Same.up nt) _ _ (s4 _ _ ec3)
      · rintro σ' H2 ⟨⟨x3, x4, x5, rfl⟩, ac, _, _⟩
        rw [pl_len] at ac
        exact ⟨x3, x4, x5, rfl, ac⟩
    rintro σ' H2 ⟨x3, x4, x5, rfl, ac⟩
    obtain ⟨xs, eD, rx⟩ := ac.a
    refine ⟨_, rfl, q _ D xs ac.s eD ?_⟩
    rw [Paired.length rx, List.length_map, List.length_range]
theorem b_fc (T : Tx K mg A) : L2.Binds K A.d_falling_chains ["row", "tree"] [] := T.F_falling_chains.binds fun _ _ _ _ _ _ us hl => match us, hl with | [_, _], _ => rfl
def spFewc : Sp := fun vs H Q _ => ∃ (r w : Nat) (ks : List Int), vs = [.ref r, .int w] ∧ (1 ≤ w ∧ w ≤ 4) ∧ H r = some (.tup (ks.map V.int)) ∧ ks.length ≤ 12 ∧ (∀ n ∈ ks, -1000000000 ≤ n ∧ n ≤ 1000000000) ∧ faultL ks w = [] ∧ ∀ H', Same H H' → Q (.int 0) H'
theorem ok_fewc (T : Tx K mg A) : FnOk P w K mg base CX0 10 A.f_fewest_changed A.d_fewest_changed ["row", "arms"] spFewc := by
  obtain ⟨mo, ko⟩ := kb_of T
  refine T.F_fewest_changed.ok sc_fewest_changed (fun vs H Q E h => ?_) (fun cdv B outer s H vs Q E hr h => ?_)
  · obtain ⟨r, w, ks, rfl, _⟩ := h
    rfl
  · obtain ⟨r, w, ks, rfl, hw, er, h12, hb, hf, q⟩ := h
    have nd := sc_fewest_changed.nd
    refine ⟨_, (pss_cons (ps_set (i := 2) nd rfl (Or.inl rfl) (pe_cmethK (pe_glob (v := .ref A.C) (by rfl) T.mC (relR _)) T.cr T.cof (ok_of T) (hr.mono (by decide)) ko pass0 (pa_cons (pv 0) pa_nil) (pk_cons (pv 1) pk_nil)))
      (pss_one (ps_ret (pe_op op_sub (pe_callB (call_len_own T.D_t___len__ (ok_len T) (hr.mono (by decide)) (b_len T) pass0) (by rfl) T.g_len PySem.boot_len (pa_cons (pv 2) pa_nil)) (pe_callB call_len_seq (by rfl) T.g_len PySem.boot_len (pa_cons (pe_call (ok_fc T) (hr.mono (by decide)) (by rfl) T.m_falling_chains T.F_falling_chains.kp (b_fc T) .nil pass0 (pa_cons (pv 0) (pa_cons (pv 2) pa_nil))) pa_nil)))))), ?_⟩
    refine ⟨rfl, _, rfl, _, rfl, rfl, rfl, r, w, ks, rfl, hw, .inr er, h12, hb, fun H1 tr s1 p0 t1 => ?_⟩
    obtain ⟨dx, l, g1, g2⟩ := id t1.ob
    refine ⟨_, rfl, tr, dx, _, rfl, g1, tr, ks.length, w, rfl, t1, ks.length, rfl, by omega, _, rfl, _, rfl, r, tr, ks.length, w, ks, rfl, t1, s1 _ _ er, rfl, hf, fun H2 q2 xs s2 e2 hl => ?_⟩
    refine ⟨q2, _, rfl, .inl (SqL.of e2), _, _, rfl, rfl, ?_⟩
    rw [hl]
    have := q H2 (s1.trans s2)
    rw [show (0 : Int) = ((ks.length : Nat) : Int) - ((ks.length : Nat) : Int) by omega] at this
    exact this
theorem kfewc (T : Tx K mg A) : ∃ mv : List Value, KBn K A.d_fewest_changed ["row", "arms"] 1 ["arms"] (fun us ws => us ++ (mv ++ ws)) (fun vs zs => vs ++ zs) := by
  obtain ⟨mv, h⟩ := T.F_fewest_changed.kbinds0 (ps := ["row", "arms"]) 1 ["arms"] [] (fun us mv ws => us ++ (mv ++ ws)) (by simp) (by simp) (fun r1 r2 r3 => r1.append (r2.append r3))
    (fun D doc pm an cdv ct us mv ws h1 h2 h3 => by
      match us, mv, ws, h1, h2, h3 with
      | [a], [], [e], _, _, _ => rfl)
  exact ⟨mv, h⟩
def behB (w : Nat) (ks : List Int) (p : Nat) : Bool := decide (keyAt ks (overP ks.length w) ≤ keyAt ks p)
def behL (w : Nat) (ks : List Int) : List Nat := (List.range ks.length).filter (behB w ks)
def spPb : Sp := fun vs H Q _ => ∃ (r w : Nat) (ks : List Int), vs = [.ref r, .int w] ∧ HpD H r w ks ∧ ks.length < 12 ∧ ∀ H' q, Same H H' → H' q = some (.lst (vi (behL w ks))) → Q (.ref q) H'
theorem ok_pb (T : Tx K mg A) : FnOk P w K mg base CX0 11 A.f_places_behind A.d_places_behind ["row", "arms"] spPb := by
  refine T.F_places_behind.ok sc_places_behind (fun vs H Q E h => ?_) (fun cdv B outer s H vs Q E hr h => ?_)
  · obtain ⟨r, w, ks, rfl, _⟩ := h
    rfl
  · obtain ⟨r, w, ks, rfl, hp, h12, q⟩ := h
    have nd := sc_places_behind.nd
    have h1 := hp.h1
    have hw := hp.hw
    refine ⟨_, (pss_cons (ps_set (i := 2) nd rfl (Or.inr rfl) (pe_call (ok_hwr T) (hr.mono (by decide)) (by rfl) T.m_heap_with_room T.F_heap_with_room.kp (b_hwr T) .nil pass0 (pa_cons (pv 0) (pa_cons (pv 1) pa_nil))))
      (pss_cons (ps_if (pt_not (pt_truK (K := K) rfl (pv 2) (fun _ => rfl))) (pss_one (ps_ret (pe_lst pa_nil))) pss_nil)
      (pss_cons (ps_set (i := 3) nd rfl (Or.inr rfl) (pe_call (ok_pon T) (hr.mono (by decide)) (by rfl) T.m_place_over_next T.F_place_over_next.kp (b_pon T) .nil pass0 (pa_cons (pv 2) (pa_cons (pv 1) pa_nil))))
      (pss_one (ps_ret (pe_lc (own := [("place", 4), ("key", 5)]) (g := gTup K 2 (gCons (gName 4) (gCons (gName 5) gNil))) rfl nd (pi_enS (by rfl) T.g_enumerate (pa_cons (pv 2) pa_nil)) (blkOk_by (own := [("place", 4), ("key", 5)]) (N := ["row", "arms", "heap", "over", "place", "key"]) (sc := (defScope s_places_behind)) (by decide +kernel)) (fun _ _ _ _ _ => pg_tup rfl (pgs_cons (pg_name (i := 4) nd rfl (Or.inl rfl)) (pgs_cons (pg_name (i := 5) nd rfl (Or.inl rfl)) pgs_nil))) (fun _ _ _ _ _ => pts_one (pt_cmpR op_le (pe_ix (r := rIxT K) ix_tup (pv 2) (pv 3) (fun _ _ => rfl)) (pv 5) (nomark _))) (fun _ _ _ _ _ => (pv 4)))))))), ?_⟩
    refine ⟨_, rfl, _, rfl, r, w, ks, rfl, hw, hp.row, hp.fl, hp.nd, h12, fun H1 t s1 et => ?_⟩
    refine ⟨_, rfl, true, .inr (.inl ⟨_, SqT.of et, by cases ks with | nil => exact absurd h1 (by decide) | cons a l => rfl⟩), iteF ?_⟩
    have hov : overP ks.length w < ks.length := by
      show (ks.length - 1) / w < ks.length
      have := Nat.div_le_self (ks.length - 1) w
      omega
    refine ⟨_, rfl, _, rfl, t, w, _, rfl, hw, SqT.of et, by rw [List.length_map]; exact h1, by rw [List.length_map]; exact h12, fun H2 s2 => ?_⟩
    have et2 := s2 _ _ et
    rw [List.length_map]
    refine ⟨_, rfl, t, _, rfl, .inr ⟨SqT.of et2, fun D nD => ?_⟩⟩
    refine lc_it (walk_enumT (xs := ks.map V.int)) (fun i H' => Acc H2 D (vi (((List.range i).filter (behB w ks)))) H') (Acc.start nD) (fun i H' _ ac => SqT.of (ac.s _ _ et2)) ?_ ?_
    · rintro i x H3 H4 hi ac ⟨T', x1, x2, rfl, hT, rfl, e1, e2⟩
      obtain ⟨hi2, rfl⟩ := ints_at e2
      cases e1
      have ac3 := ac.same (Same.up (o := .tup [V.int (i : Nat), V.int ks[i]]) hT)
      refine ⟨_, _, rfl, SqT.of upd_same, rfl, _, _, rfl, _, _, rfl, rfl, rfl, _, rfl, _, rfl, t, _, _, _, rfl, rfl, SqT.of (ac3.s _ _ et2), key_at hov, _, rfl, _, _, rfl, rfl, _, rfl, ?_⟩
      generalize upd H3 T' (.tup [V.int (i : Nat), V.int ks[i]]) = H5 at ac3
      rw [List.range_succ, List.filter_append]
      by_cases h : keyAt ks (overP ks.length w) ≤ keyAt ks i
      · rw [el_key hi2, decide_eq_true h]
        refine iteT ⟨_, rfl, ?_⟩
        rw [List.filter_cons_of_pos (show behB w ks i = true from decide_eq_true h), List.filter_nil, vi_app]
        refine ⟨_, ac3.a, small1000 ?_, ac3.push⟩
        have := List.length_filter_le (behB w ks) (List.range i)
        rw [List.length_range] at this
        rw [vi_len]
        omega
      · rw [el_key hi2, decide_eq_false h]
        refine iteF ?_
        rw [List.filter_cons_of_neg (by rw [show behB w ks i = false from decide_eq_false h]; exact Bool.false_ne_true), List.filter_nil, List.append_nil]
        exact ac3
    · intro H3 ac
      rw [List.length_map] at ac
      exact q H3 D (s1.trans (s2.trans ac.s)) ac.a
theorem kpb (T : Tx K mg A) : ∃ mv : List Value, KBn K A.d_places_behind ["row", "arms"] 1 ["arms"] (fun us ws => us ++ (mv ++ ws)) (fun vs zs => vs ++ zs) := by
  obtain ⟨mv, h⟩ := T.F_places_behind.kbinds0 (ps := ["row", "arms"]) 1 ["arms"] [] (fun us mv ws => us ++ (mv ++ ws)) (by simp) (by simp) (fun r1 r2 r3 => r1.append (r2.append r3))
    (fun D doc pm an cdv ct us mv ws h1 h2 h3 => by
      match us, mv, ws, h1, h2, h3 with
      | [a], [], [e], _, _, _ => rfl)
  exact ⟨mv, h⟩

end
end Tw

set_option Elab.async false
set_option linter.all false
set_option maxRecDepth 100000
set_option maxHeartbeats 2000000
namespace Tw
open PySem PySem.Spec PyProof.Rows L2
section
variable {P : Program} {w : World} {K : PySem.W.Frag} {mg : Str → Option Value} {base : Heap} {A : Ad}
open LamX (ExtN Tabs TabS)
/-- going down, undone -/
theorem down_undo {n w : Nat} (hw : 1 ≤ w) : ∀ (f : Nat) (ks : List Int) (p : Nat) (way : List Nat) (lk : Nat), ks.length = n → p < n →
    ∃ l, Down n w p l ∧ (goDown n w f ks p way lk).2.1 = way ++ l ∧ undoS (goDown n w f ks p way lk).1 (p :: l) = ks
  | 0, ks, p, way, lk, _, _ => ⟨[], trivial, by rw [List.append_nil]; rfl, rfl⟩
  | f + 1, ks, p, way, lk, hl, hp => by
    by_cases h0 : kidL n w p = []
    · rw [goDown_leaf h0]
      exact ⟨[], trivial, by rw [List.append_nil], rfl⟩
    · by_cases hlt : keyAt ks (leastC ks (kidL n w p)) < keyAt ks p
      · rw [goDown_go h0 rfl hlt]
        have hm := least_mem (ks := ks) h0
        generalize leastC ks (kidL n w p) = b at hm
        obtain ⟨b1, b2⟩ := kid_in hw hm
        obtain ⟨l, d1, d2, d3⟩ := down_undo hw f (swp ks p b) b (way ++ [b]) (lk + (kidL n w p).length) (by rw [swp_len]; exact hl) b2
        refine ⟨b :: l, ⟨hm, d1⟩, by rw [d2, List.append_assoc]; rfl, ?_⟩
        show swp (undoS _ (b :: l)) p b = ks
        rw [d3, swp_swp (by omega) (by omega)]
      · rw [goDown_stay h0 hlt]
        exact ⟨[], trivial, by rw [List.append_nil], rfl⟩
theorem bld_succ (n w : Nat) (ks : List Int) (i : Nat) : bld n w ks (i + 1) = bstep n w (bld n w ks i) (n - 1 - i) := rfl
/-- the stops of a row lead back to it -/
def bldF (n w : Nat) (ks : List Int) (p : Nat) : Nat := lastW (goDown n w 20 (bld n w ks (n - 1 - p)).1 p [p] 0).2.1
theorem back_bld {n w : Nat} (hw : 1 ≤ w ∧ w ≤ 4) (hn : n ≤ 12) {ks : List Int} (hl : ks.length = n) : ∀ j, j ≤ n → backL n w (bldF n w ks) (bld n w ks n).1 j = (bld n w ks (n - j)).1
  | 0, _ => rfl
  | j + 1, hj => by
    have ih := back_bld hw hn hl j (by omega)
    rw [back_succ]
    obtain ⟨m, em⟩ : ∃ m, n - j = m + 1 := ⟨n - j - 1, by omega⟩
    have e2 : n - (j + 1) = m := by omega
    have ep : n - 1 - m = j := by omega
    rw [em, bld_succ, ep] at ih
    unfold bstep at ih
    rw [e2]
    by_cases h0 : kidL n w j = []
    · rw [if_pos h0] at ih ⊢
      exact ih
    · rw [if_neg h0] at ih ⊢
      obtain ⟨l, d1, d2, d3⟩ := down_undo (n := n) hw.1 20 (bld n w ks m).1 j [j] 0 (by rw [bld_len]; exact hl) (by omega)
      have ef : bldF n w ks j = endOf j l := by
        unfold bldF
        rw [show n - 1 - j = m by omega, d2, last_end]
      rw [ih, ef, path_down hw hn (by omega) d1]
      exact d3
theorem sub_down {n w : Nat} (hw : 1 ≤ w ∧ w ≤ 4) (hn : n ≤ 12) {p : Nat} {l : List Nat} (hp : p < n) (hd : Down n w p l) : endOf p l ∈ subL n w p := by
  obtain ⟨x, e⟩ := way_end w p hw (by omega)
  refine List.mem_filter.mpr ⟨List.mem_range.mpr (down_lt hw.1 l p hp hd).2.2, decide_eq_true ?_⟩
  rw [way_down hw hn l p hp hd, e]
  simp
theorem bldF_ok {n w : Nat} (hw : 1 ≤ w ∧ w ≤ 4) (hn : n ≤ 12) {ks : List Int} (hl : ks.length = n) : StOk n w (bldF n w ks) := fun p hp _ => by
  obtain ⟨l, d1, d2, _⟩ := down_undo hw.1 20 (bld n w ks (n - 1 - p)).1 p [p] 0 (by rw [bld_len]; exact hl) hp
  unfold bldF
  rw [d2, last_end]
  exact sub_down hw hn hp d1
theorem bld_stp {n w : Nat} (ks : List Int) : ∀ i, i ≤ n → (bld n w ks i).2.1 = stpL n w (bldF n w ks) i
  | 0, _ => rfl
  | i + 1, hi => by
    have ih := bld_stp (n := n) (w := w) ks i (by omega)
    rw [bld_succ, stp_succ]
    unfold bstep
    by_cases h0 : kidL n w (n - 1 - i) = []
    · rw [if_pos h0, if_pos h0]
      exact ih
    · rw [if_neg h0, if_neg h0]
      show (bld n w ks i).2.1 ++ [_] = _
      rw [ih]
      unfold bldF
      rw [show n - 1 - (n - 1 - i) = i by omega]
theorem fdQ_row (v0 : V) : (fdQ v0).lookup ("row" : Str) = some v0 := by
  unfold fdQ
  rw [lookup_putF, if_pos rfl]
theorem kb_tk (T : Tx K mg A) : ∃ mv : List Value, KBn K A.d_take ["row", "arms"] 1 ["arms"] (fun us ws => us ++ (mv ++ ws)) (fun vs zs => vs ++ zs) := by
  obtain ⟨mv, h⟩ := T.F_take.kbinds0 (ps := ["row", "arms"]) 1 ["arms"] [] (fun us mv ws => us ++ (mv ++ ws)) (by simp) (by simp) (fun r1 r2 r3 => r1.append (r2.append r3))
    (fun D doc pm an cdv ct us mv ws h1 h2 h3 => by
      match us, mv, ws, h1, h2, h3 with
      | [a], [], [c], _, _, _ => rfl)
  exact ⟨mv, h⟩
theorem undo_perm {n w : Nat} (hw : 1 ≤ w) {R : List Int} (hl : R.length = n) : ∀ (l : List Nat) (p : Nat), p < n → Down n w p l → (undoS R (p :: l)).Perm R
  | [], p, _, _ => List.Perm.refl _
  | b :: l, p, hp, ⟨hb, hd⟩ => by
    obtain ⟨b1, b2⟩ := kid_in hw hb
    show (swp (undoS R (b :: l)) p b).Perm R
    exact (swp_perm (by rw [undo_len]; omega) (by rw [undo_len]; omega)).trans (undo_perm hw hl l b b2 hd)
theorem DrAt.ext {K : PySem.W.Frag} {H H' : Hp} {d a : Addr} {ns : List Int} {k : Nat} (h : DrAt K H d a ns k) (e : ExtN H H') : DrAt K H' d a ns k := ⟨e _ _ h.l (fun ps z => nomatch z), h.n, e.sqL h.s, h.h⟩
theorem TkOk.ext {H H' : Hp} {r w : Nat} {ks : List Int} {least : Int} {place : Nat} (h : TkOk H r w ks least place) (e : ExtN H H') : TkOk H' r w ks least place :=
  ⟨h.hw, ⟨h.row.1.imp (fun z => e _ _ z fun _ y => nomatch y) (fun z => e _ _ z fun _ y => nomatch y), h.row.2⟩, h.fl, h.nd, h.l12, h.lb, h.lt, h.pl⟩
theorem TookAt.ext {C : Addr} {H H' : Hp} {t : Addr} {x : Int} {r : List Int × List Nat × Nat} (h : TookAt C H t x r) (e : ExtN H H') : TookAt C H' t x r :=
  let ⟨p, a, s⟩ := h; ⟨p, e _ _ a (fun ps z => nomatch z), SiftAt.ext s e⟩
end
end Tw

set_option Elab.async false
set_option linter.all false
set_option maxRecDepth 100000
set_option maxHeartbeats 2000000
namespace Tw
open PySem PySem.Spec PyProof.Rows L2
section
variable {P : Program} {w : World} {K : PySem.W.Frag} {mg : Str → Option Value} {base : Heap} {A : Ad}
open LamX (ExtN Tabs TabS)
/-! the law's own: _law_undone_right -/
theorem set_lt : ∀ {ks : List Int}, ¬ ks.Nodup → ∃ ms : List Int, ms.length < ks.length ∧ ∀ x ∈ ks, x ∈ ms
  | [], h => absurd List.nodup_nil h
  | a :: l, h => by
    by_cases ha : a ∈ l
    · exact ⟨l, by rw [List.length_cons]; omega, fun x hx => (List.mem_cons.mp hx).elim (fun e => e ▸ ha) id⟩
    · obtain ⟨ms, h1, h2⟩ := set_lt (ks := l) fun z => h (List.nodup_cons.mpr ⟨ha, z⟩)
      exact ⟨a :: ms, by rw [List.length_cons, List.length_cons]; omega, fun x hx => (List.mem_cons.mp hx).elim (fun e => e ▸ List.mem_cons_self) fun z => List.mem_cons_of_mem _ (h2 x z)⟩
theorem set_count {ks us : List Int} (hd : us.Nodup) (hm : ∀ k, decide (k ∈ ks) = true ↔ k ∈ us) : us.length = ks.length ↔ ks.Nodup := by
  refine ⟨fun h => ?_, fun h => ?_⟩
  · refine Classical.byContradiction fun hn => ?_
    obtain ⟨ms, h1, h2⟩ := set_lt hn
    have := List.Nodup.length_le_of_subset hd (l₂ := ms) fun x hx => h2 x (of_decide_eq_true ((hm x).mpr hx))
    omega
  · exact ((List.perm_ext_iff_of_nodup hd h).mpr fun x => ⟨fun z => of_decide_eq_true ((hm x).mpr z), fun z => (hm x).mp (decide_eq_true z)⟩).length_eq
def spLur (A : Ad) : Sp := fun vs H Q _ => ∃ (r w : Nat) (ks : List Int), vs = [.ref r, .int w] ∧ (1 ≤ w ∧ w ≤ 4) ∧ H r = some (.tup (ks.map V.int)) ∧ ks.length ≤ 12 ∧ (∀ n ∈ ks, -1000 ≤ n ∧ n ≤ 1000) ∧ faultL ks w = [] ∧ Tabs (TT A) H ∧
  ∀ (H' : Hp), ExtN H H' → Tabs (TT A) H' → Q (.bl true) H'
structure UrT (A : Ad) (r : Addr) (ks : List Int) (H0 H : Hp) : Prop where
  e : ExtN H0 H
  t : Tabs (TT A) H
  er : H r = some (.tup (ks.map V.int))
theorem UrT.ext {A : Ad} {r : Addr} {ks : List Int} {H0 H H' : Hp} (h : UrT A r ks H0 H) (e : ExtN H H') (t : Tabs (TT A) H') : UrT A r ks H0 H' := ⟨h.e.trans e, t, e _ _ h.er (fun _ z => nomatch z)⟩
theorem UrT.same {A : Ad} {r : Addr} {ks : List Int} {H0 H H' : Hp} (h : UrT A r ks H0 H) (s : Same H H') : UrT A r ks H0 H' := h.ext (extN_of s) (h.t.ext s)
theorem ok_lur (T : Tx K mg A) (TB : LamX.TabB base mg A.c_least_child A.P_least_child) (TB2 : LamX.TabB base mg A.c_undo_push A.P_undo_push) : FnOk P w K mg base CX0 14 A.f__law_undone_right A.d__law_undone_right ["row", "wide"] (spLur A) := by
  obtain ⟨mu, kup⟩ := kup2 T
  obtain ⟨ml, klp⟩ := klp T
  obtain ⟨m1, kpb⟩ := kpb T
  obtain ⟨m2, kut⟩ := kb_ut T
  obtain ⟨m3, kt⟩ := kb_tk T
  obtain ⟨m4, kp⟩ := kb_push T
  obtain ⟨m5, kc⟩ := kb_code T
  obtain ⟨m6, kd⟩ := kb_dec T
  refine T.F__law_undone_right.ok sc__law_undone_right (fun vs H Q E h => ?_) (fun cdv B outer s H vs Q E hr h => ?_)
  · obtain ⟨r, v, ks, rfl, _⟩ := h
    rfl
  · obtain ⟨r, v, ks, rfl, hw, er, h12, hb, hf, hT, q⟩ := h
    have nd := sc__law_undone_right.nd
    have hu := hr.units
    have hb9 : ∀ z ∈ ks, -1000000000 ≤ z ∧ z ≤ 1000000000 := fun z hz => by have := hb z hz; omega
    refine ⟨_, PSs.nox (pss_cons (ps_if (PW.pt (pw_or (pt_cmpR op_eq (pe_callB call_len_seq (by rfl) T.g_len PySem.boot_len (pa_cons (pv 0) pa_nil)) pe_int (nomark _)) (pw_or1 (pt_cmpR op_ne (pe_callB cr_lenSet (by rfl) T.g_len PySem.boot_len (pa_cons (pe_callTy (cr_setTI rfl) (by rfl) T.g_set (by decide +kernel) (pa_cons (pv 0) pa_nil)) pa_nil)) (pe_callB call_len_seq (by rfl) T.g_len PySem.boot_len (pa_cons (pv 0) pa_nil)) (nomark _))))) (pss_one (ps_ret pe_bl)) pss_nil)
      (C8.pss_cut (ps_for PassesOwn.never rfl (pi_list (pe_callN (ok_lp T TB2) (hr.mono (by decide)) (by rfl) T.m_last_places T.F_last_places.kp klp pass0 (pa_cons (pv 0) pa_nil) (pk_cons (pv 1) pk_nil))) (pg_name (i := 2) nd rfl (Or.inl rfl)) (C8.pss_cut (ps_set (i := 3) nd rfl (Or.inl rfl) (pe_callN (ok_up2 T TB2) (hr.mono (by decide)) (by rfl) T.m_undo_push T.F_undo_push.kp kup pass0 (pa_cons (pv 0) (pa_cons (pv 2) pa_nil)) (pk_cons (pv 1) pk_nil)))
      (pss_one (ps_if (pt_cmpR (op_neD hu) (pe_fld (pe_callN (ok_push T) (hr.mono (by decide)) (by rfl) T.m_push T.F_push.kp kp pass0 (pa_cons (pe_fld (pv 3) rfl) (pa_cons (pe_fld (pv 3) rfl) pa_nil)) (pk_cons (pv 1) pk_nil)) rfl) (pe_callTy call_tuple_of (by rfl) T.g_tuple (by decide +kernel) (pa_cons (pv 0) pa_nil)) (nomark _)) (pss_one (ps_ret pe_bl)) pss_nil))))
      (C8.pss_cut (ps_for PassesOwn.never rfl (pi_list (pe_ifExp (pt_cmpR op_lt (pe_callB call_len_seq (by rfl) T.g_len PySem.boot_len (pa_cons (pv 0) pa_nil)) pe_int (nomark _)) (pe_callN (ok_pb T) (hr.mono (by decide)) (by rfl) T.m_places_behind T.F_places_behind.kp kpb pass0 (pa_cons (pv 0) pa_nil) (pk_cons (pv 1) pk_nil)) (pe_lst pa_nil))) (pg_name (i := 2) nd rfl (Or.inl rfl)) (C8.pss_cut (ps_set (i := 3) nd rfl (Or.inl rfl) (pe_callN (ok_ut T) (hr.mono (by decide)) (by rfl) T.m_undo_take T.F_undo_take.kp kut pass0 (pa_cons (pv 0) (pa_cons (pe_op op_sub (pe_ix (r := rIxT K) ix_tup (pv 0) pe_int (fun _ _ => rfl)) pe_int) (pa_cons (pv 2) pa_nil))) (pk_cons (pv 1) pk_nil)))
      (pss_one (ps_if (pt_cmpR (op_neD hu) (pe_fld (pe_ix (r := rIxT K) ix_tup (pe_callN (ok_tk T TB) (hr.mono (by decide)) (by rfl) T.m_take T.F_take.kp kt pass0 (pa_cons (pe_fld (pv 3) rfl) pa_nil) (pk_cons (pv 1) pk_nil)) pe_int (fun _ _ => rfl)) rfl) (pe_callTy call_tuple_of (by rfl) T.g_tuple (by decide +kernel) (pa_cons (pv 0) pa_nil)) (nomark _)) (pss_one (ps_ret pe_bl)) pss_nil))))
      (C8.pss_cut (ps_asg (pe_callN (ok_code T TB) (hr.mono (by decide)) (by rfl) T.m_code T.F_code.kp kc pass0 (pa_cons (pe_revT (pv 0) (pe_un un_neg pe_int)) pa_nil) (pk_cons (pv 1) pk_nil)) (pg_tup rfl (pgs_cons (pg_name (i := 4) nd rfl (Or.inl rfl)) (pgs_cons (pg_name (i := 5) nd rfl (Or.inl rfl)) pgs_nil))))
      (pss_one (ps_ret (pe_cmpR (op_eqD hu) (pe_callN (ok_dec T) (hr.mono (by decide)) (by rfl) T.m_decode T.F_decode.kp kd pass0 (pa_cons (pv 4) (pa_cons (pv 5) pa_nil)) (pk_cons (pv 1) pk_nil)) (pe_callTy call_tuple_of (by rfl) T.g_tuple (by decide +kernel) (pa_cons (pe_revT (pv 0) (pe_un un_neg pe_int)) pa_nil)) (nomark _)))))))), ?_⟩
    refine ⟨_, rfl, r, _, rfl, .inr (SqT.of er), rfl, _, rfl, ?_⟩
    rw [List.length_map]
    by_cases h0 : ks.length = 0
    · rw [decide_eq_true (show V.int (ks.length : Nat) = V.int 0 by rw [h0]; rfl)]
      exact iteT (iteT (q H (fun b o e _ => e) hT))
    rw [decide_eq_false (show ¬ V.int (ks.length : Nat) = V.int 0 from fun z => h0 (by injection z with z; omega))]
    have h1 : 1 ≤ ks.length := by omega
    refine iteF ⟨_, rfl, r, ks, rfl, SqT.of er, by omega, fun p n _ np => ?_⟩
    have I1 : UrT A r ks H (upd H p (SetO w p (fun j => decide (j ∈ ks)) n)) := ⟨extN_of (Same.up np), hT.ext (Same.up np), (Same.up np) _ _ er⟩
    refine ⟨p, _, n, rfl, upd_same, fun us hd hm hl => ?_⟩
    refine ⟨_, rfl, r, _, rfl, .inr (SqT.of I1.er), rfl, _, rfl, ?_⟩
    rw [List.length_map]
    have hsc := set_count hd hm
    rw [hl] at hsc
    by_cases hnd : ks.Nodup
    case neg =>
      refine ite_b (c := true) (by rw [decide_eq_false (fun z => hnd (hsc.mp (by injection z with z; exact Int.ofNat.inj z)))]; rfl) (iteT (q _ I1.e I1.t))
    refine ite_b (c := false) (by rw [hsc.mpr hnd, decide_eq_true rfl]; rfl) (iteF ?_)
    have hpd : ∀ {G : Hp}, G r = some (.tup (ks.map V.int)) → HpD G r v ks := fun h => ⟨hw, ⟨.inr h, h12, hb9⟩, hf, hnd, h1⟩
    -- pushes undone
    refine ⟨fun σ' H' => ∃ x2 x3 : Option V, σ' = [some (.ref r), some (.int v), x2, x3, none, none] ∧ UrT A r ks H H', ?_, ?_⟩
    · refine ⟨_, rfl, _, rfl, rfl, rfl, r, v, ks, rfl, hpd I1.er, I1.t, fun H2 q2 e2 t2 eq => ?_⟩
      have I2 := I1.ext e2 t2
      refine ⟨q2, rfl, ⟨_, SqL.of eq⟩, ?_⟩
      refine for_it (walk_list (xs := vi (lastP v ks))) (fun i σ' H' => (∃ x2 x3 : Option V, σ' = [some (.ref r), some (.int v), x2, x3, none, none]) ∧ UrT A r ks H H' ∧ H' q2 = some (.lst (vi (lastP v ks))))
        ⟨⟨none, none, rfl⟩, I2, eq⟩ (fun i σ' H' _ h => SqL.of h.2.2) ?_ (fun σ' H' ⟨⟨x2, x3, e⟩, I, _⟩ => ⟨x2, x3, e, I⟩)
      rintro i x σ' H3o H3 hi ⟨⟨x2, x3, rfl⟩, I3, eq3⟩ ⟨rfl, hx⟩
      rw [vi_len] at hi
      rw [vi_getD hi] at hx
      cases hx
      rw [show (lastP v ks).getD i 0 = (lastP v ks)[i] by rw [List.getD_eq_getElem?_getD, List.getElem?_eq_getElem hi]; rfl]
      obtain ⟨hpl, hfr⟩ := List.mem_filter.mp (show (lastP v ks)[i] ∈ (wayL v (ks.length - 1)).filter (freeB v ks) from List.getElem_mem hi)
      have hfree := of_decide_eq_true hfr
      generalize (lastP v ks)[i] = p at *
      obtain ⟨hund, hin⟩ := und_ok hw h12 h1 hf hnd hpl hfree
      refine ⟨fun σ' H' => ∃ q3 : Addr, σ' = [some (.ref r), some (.int v), some (.int p), some (.ref q3), none, none] ∧ UrT A r ks H H' ∧ H' q2 = some (.lst (vi (lastP v ks))) ∧ AtU A.CU H' q3 (undR v ks p) (keyAt ks p), ?_, ?_⟩
      · refine ⟨_, rfl, _, rfl, _, rfl, rfl, rfl, r, v, p, ks, rfl, ⟨hw, ⟨.inr I3.er, h12, hb9⟩, hf, hnd, h1, hpl⟩, I3.t, fun H4 q3 e4 t4 fnd => ?_⟩
        rcases fnd with ⟨c, hbad, _⟩ | ⟨_, atu⟩
        · rw [hfree] at hbad
          cases hbad
        · exact ⟨q3, rfl, I3.ext e4 t4, e4 _ _ eq3 (fun _ z => nomatch z), atu⟩
      rintro σ' H4 ⟨q3, rfl, I4, eq4, atu⟩
      obtain ⟨dx, u0, g, g0⟩ := id atu
      have hpn : p < ks.length := by
        have := way_leA v (by omega) (ks.length - 1) (by omega) hw.1 p hpl
        omega
      refine ⟨_, rfl, q3, A.CU, dx, _, _, rfl, g, T.cTU, T.uRow, fdU_row _ _, _, rfl, q3, A.CU, dx, _, _, rfl, g, T.cTU, T.uKey, fdU_key _ _, _, rfl, rfl, rfl, u0, v, keyAt ks p, undR v ks p, rfl, hw, ⟨.inr g0, by have := hund.1; omega, fun z hz => hb9 z (hin z hz)⟩, hund.2.1, hb9 _ (keyAt_mem hpn), by have := hund.1; omega, fun H5 q5 s5 sf => ?_⟩
      obtain ⟨dz, v1, v2, f0, f1, f2⟩ := sf
      refine ⟨q5, A.CS, dz, _, _, rfl, f0, T.cTS, T.nRow, zf_row _ _ _, _, rfl, r, _, rfl, .inr ⟨SqT.of (s5 _ _ I4.er), ?_⟩⟩
      refine ⟨_, _, ints_tup K f1, ints_tup K (s5 _ _ I4.er), ints_shT _, ints_shT _, _, rfl, ?_⟩
      rw [ints_eqv, show (goUp v 20 (undR v ks p ++ [keyAt ks p]) (undR v ks p).length [(undR v ks p).length] 0).1 = ks from hund.2.2.1, decide_eq_true rfl]
      exact iteF ⟨⟨_, _, rfl⟩, I4.same s5, s5 _ _ eq4⟩
    rintro σ' H2 ⟨x2, x3, rfl, I2⟩
    -- takings undone
    refine ⟨fun σ' H' => ∃ x2 x3 : Option V, σ' = [some (.ref r), some (.int v), x2, x3, none, none] ∧ UrT A r ks H H', ?_, ?_⟩
    · refine ⟨_, rfl, r, _, rfl, .inr (SqT.of I2.er), _, _, rfl, rfl, _, rfl, ?_⟩
      rw [List.length_map]
      by_cases h11 : ks.length < 12
      case neg =>
        rw [decide_eq_false (show ¬ ((ks.length : Nat) : Int) < 12 by omega)]
        refine iteF ⟨Nat.zero_le _, fun l nl => ⟨l, rfl, ⟨_, SqL.of upd_same⟩, ?_⟩⟩
        exact for_it (walk_list (xs := [])) (fun i σ' H' => (∃ x2 x3 : Option V, σ' = [some (.ref r), some (.int v), x2, x3, none, none]) ∧ UrT A r ks H H' ∧ H' l = some (.lst []))
          ⟨⟨_, _, rfl⟩, I2.same (Same.up nl), upd_same⟩ (fun i σ' H' _ h => SqL.of h.2.2) (fun i x σ' G1 G2 hi => absurd hi (Nat.not_lt_zero _)) (fun σ' H' ⟨⟨x2, x3, e⟩, I, _⟩ => ⟨x2, x3, e, I⟩)
      rw [decide_eq_true (show ((ks.length : Nat) : Int) < 12 by omega)]
      refine iteT ⟨_, rfl, _, rfl, rfl, rfl, r, v, ks, rfl, hpd I2.er, h11, fun H3 q2 s3 eq => ?_⟩
      have I3 := I2.same s3
      refine ⟨q2, rfl, ⟨_, SqL.of eq⟩, ?_⟩
      refine for_it (walk_list (xs := vi (behL v ks))) (fun i σ' H' => (∃ x2 x3 : Option V, σ' = [some (.ref r), some (.int v), x2, x3, none, none]) ∧ UrT A r ks H H' ∧ H' q2 = some (.lst (vi (behL v ks))))
        ⟨⟨_, _, rfl⟩, I3, eq⟩ (fun i σ' H' _ h => SqL.of h.2.2) ?_ (fun σ' H' ⟨⟨x2, x3, e⟩, I, _⟩ => ⟨x2, x3, e, I⟩)
      rintro i x σ' H4o H4 hi ⟨⟨x2, x3, rfl⟩, I4, eq4⟩ ⟨rfl, hx⟩
      rw [vi_len] at hi
      rw [vi_getD hi] at hx
      cases hx
      rw [show (behL v ks).getD i 0 = (behL v ks)[i] by rw [List.getD_eq_getElem?_getD, List.getElem?_eq_getElem hi]; rfl]
      obtain ⟨hpr, hbe⟩ := List.mem_filter.mp (show (behL v ks)[i] ∈ (List.range ks.length).filter (behB v ks) from List.getElem_mem hi)
      have hpn := List.mem_range.mp hpr
      have hbe := of_decide_eq_true hbe
      generalize (behL v ks)[i] = p at *
      obtain ⟨least, eleast⟩ : ∃ least, least = keyAt ks 0 - 1 := ⟨_, rfl⟩
      have hk0 := hb (keyAt ks 0) (keyAt_mem (by omega))
      have tk : TkOk H4 r v ks least p := ⟨hw, ⟨.inr I4.er, h12, hb9⟩, hf, hnd, h11, ⟨by omega, by omega⟩, by show least < keyAt ks 0; omega, hpn⟩
      have hroot : ∀ z ∈ ks, keyAt ks 0 ≤ z := fun z hz => by
        obtain ⟨j, hj, e⟩ := List.mem_iff_getElem.mp hz
        have := no_fault hw (by omega) hf j hj 0 (root_way v (by omega) j (by omega) hw.1)
        rw [← e, el_key hj]
        exact this
      have hlt : ∀ z ∈ ks, least < z := fun z hz => by have := hroot z hz; omega
      obtain ⟨l, d1, d2, d3⟩ := way_of hw h12 hpn
      have m4 := ahd_bef hw (by omega) rfl hf hnd hlt hpn d1 d3 d2 (show ¬ keyAt ks (overP ks.length v) > keyAt ks p by omega)
      obtain ⟨b1, b2, b3, b4, _⟩ := m4
      have hab : ∀ z ∈ ahdL v ks least p, -1000000000 ≤ z ∧ z ≤ 1000000000 := fun z hz => by
        unfold ahdL at hz
        have hu : ∀ z ∈ undoS ks (wayL v p), -1000000000 ≤ z ∧ z ≤ 1000000000 := fun z hz => by
          rw [d3] at hz
          exact hb9 z ((undo_perm hw.1 rfl l 0 (by omega) d1).mem_iff.mp hz)
        rcases List.mem_cons.mp hz with rfl | hz
        · omega
        · rcases List.mem_append.mp hz with hz | hz
          · exact hu z (List.mem_of_mem_drop hz)
          · exact hu z (List.mem_of_mem_take hz)
      refine ⟨fun σ' H' => ∃ q3 : Addr, σ' = [some (.ref r), some (.int v), some (.int p), some (.ref q3), none, none] ∧ UrT A r ks H H' ∧ H' q2 = some (.lst (vi (behL v ks))) ∧ AtQ A.CQ H' q3 (ahdL v ks least p), ?_, ?_⟩
      · refine ⟨_, rfl, _, rfl, r, _, _, _, rfl, rfl, SqT.of I4.er, (key_at (p := 0) (by omega) : atI (ks.map V.int) ((0 : Nat) : Int) = _), _, _, rfl, rfl, _, rfl, _, rfl, rfl, rfl, r, v, p, least, ks, by rw [eleast]; rfl, tk, fun H5 q3 s5 fnd => ?_⟩
        rcases fnd with ⟨hg, _⟩ | ⟨_, atq⟩
        · omega
        · exact ⟨q3, rfl, I4.same s5, s5 _ _ eq4, atq⟩
      rintro σ' H5 ⟨q3, rfl, I5, eq5, atq⟩
      obtain ⟨dx, u0, g, g0⟩ := id atq
      generalize ahdL v ks least p = as at *
      refine ⟨_, rfl, q3, A.CQ, dx, _, _, rfl, g, T.cTQ, T.qRow, fdQ_row _, _, rfl, rfl, rfl, u0, v, as, rfl, hw, ⟨.inr g0, by omega, hab⟩, b2, (fun z => by rw [z] at b1; cases b1), I5.t, fun H6 t e6 tb6 took => ?_⟩
      obtain ⟨q7, et, dz, v1, v2, f0, f1, f2⟩ := took
      have I6 := I5.ext e6 tb6
      refine ⟨t, _, _, V.ref q7, rfl, rfl, SqT.of et, rfl, q7, A.CS, dz, _, _, rfl, f0, T.cTS, T.nRow, zf_row _ _ _, _, rfl, r, _, rfl, .inr ⟨SqT.of I6.er, ?_⟩⟩
      refine ⟨_, _, ints_tup K f1, ints_tup K I6.er, ints_shT _, ints_shT _, _, rfl, ?_⟩
      rw [ints_eqv, b4, decide_eq_true rfl]
      exact iteF ⟨⟨_, _, rfl⟩, I6, e6 _ _ eq5 (fun _ z => nomatch z)⟩
    rintro σ' H3 ⟨x2', x3', rfl, I3⟩
    -- the code
    have hrl : ks.reverse.length = ks.length := List.length_reverse
    have hrb : ∀ z ∈ ks.reverse, -1000000000 ≤ z ∧ z ≤ 1000000000 := fun z hz => hb9 z (List.mem_reverse.mp hz)
    have hrd : ks.reverse.Nodup := (List.reverse_perm ks).nodup_iff.mpr hnd
    obtain ⟨st, est⟩ : ∃ st, st = bld ks.reverse.length v ks.reverse ks.reverse.length := ⟨_, rfl⟩
    have hn12 : ks.reverse.length ≤ 12 := by omega
    have hperm : st.1.Perm ks.reverse := est ▸ bld_perm hw.1 rfl _ (Nat.le_refl _)
    have hlen : st.1.length = ks.reverse.length := hperm.length_eq
    have hgood : GoodFrom ks.reverse.length v st.1 0 := by
      have := bld_good hw.1 hn12 (ks := ks.reverse) rfl ks.reverse.length (Nat.le_refl _)
      rw [Nat.sub_self, ← est] at this
      exact this
    have hstp : st.2.1 = stpL ks.reverse.length v (bldF ks.reverse.length v ks.reverse) ks.reverse.length := est ▸ bld_stp ks.reverse _ (Nat.le_refl _)
    have hback : backL ks.reverse.length v (bldF ks.reverse.length v ks.reverse) st.1 ks.reverse.length = ks.reverse := by
      rw [est, back_bld hw hn12 rfl _ (Nat.le_refl _), Nat.sub_self]
      rfl
    have hsf : faultL st.1 v = [] := heap_fault hlen (good_heapL hgood)
    have hso := bldF_ok hw hn12 (ks := ks.reverse) rfl
    refine ⟨fun σ' H' => ∃ (t4 t5 : Addr) (xs : List V), σ' = [some (.ref r), some (.int v), x2', x3', some (.ref t4), some (.ref t5)] ∧ UrT A r ks H H' ∧ H' t4 = some (.tup (st.1.map V.int)) ∧ H' t5 = some (.tup xs) ∧ PrsAt H' xs st.2.1, ?_, ?_⟩
    · refine ⟨_, rfl, _, rfl, rfl, r, _, rfl, SqT.of I3.er, fun m H4 s4 em => ?_⟩
      rw [← List.map_reverse] at em
      have I4 := I3.same s4
      refine ⟨_, rfl, rfl, rfl, m, v, ks.reverse, rfl, hw, ⟨.inr em, hn12, hrb⟩, hrd, I4.t, fun H5 c e5 t5 hc => ?_⟩
      rw [← est] at hc
      obtain ⟨t4, t5', xs, g1, g2, g3, g4⟩ := hc
      exact ⟨_, _, rfl, SqT.of g1, rfl, _, _, rfl, _, _, rfl, rfl, t4, t5', xs, rfl, I4.ext e5 t5, g2, g3, g4⟩
    rintro σ' H4 ⟨t4, t5, xs, rfl, I4, e4, e5, ps⟩
    rw [hstp] at ps
    refine ⟨_, rfl, _, rfl, _, rfl, rfl, rfl, t4, t5, v, st.1, xs, bldF ks.reverse.length v ks.reverse, rfl, hw, ⟨.inr e4, by omega, fun z hz => hrb z (hperm.mem_iff.mp hz)⟩, hsf, hperm.nodup_iff.mpr hrd, .inr e5, by rw [hlen]; exact ps, by rw [hlen]; exact hso, fun H5 t s5 et => ?_⟩
    rw [hlen, hback] at et
    have I5 := I4.same s5
    refine ⟨_, rfl, _, rfl, rfl, r, _, rfl, SqT.of I5.er, fun m H6 s6 em => ?_⟩
    rw [← List.map_reverse] at em
    refine ⟨m, _, rfl, .inr ⟨SqT.of em, ?_⟩⟩
    refine ⟨_, _, ints_tup K (s6 _ _ et), ints_tup K em, ints_shT _, ints_shT _, ?_⟩
    rw [ints_eqv, decide_eq_true rfl]
    exact q H6 (I5.same s6).e (I5.same s6).t
theorem b_lur (T : Tx K mg A) : L2.Binds K A.d__law_undone_right ["row", "wide"] [] := T.F__law_undone_right.binds fun _ _ _ _ _ _ us hl => match us, hl with | [_, _], _ => rfl

end
end Tw

set_option Elab.async false
set_option linter.all false
set_option maxRecDepth 100000
set_option maxHeartbeats 2000000
namespace Tw
open PySem PySem.Spec PyProof.Rows L2
section
variable {P : Program} {w : World} {K : PySem.W.Frag} {mg : Str → Option Value} {base : Heap} {A : Ad}
open LamX (ExtN Tabs TabS)
theorem kb_put (T : Tx K mg A) : ∃ mv : List Value, KBn K A.d_put_for ["row", "key", "arms"] 2 ["arms"] (fun us ws => us ++ (mv ++ ws)) (fun vs zs => vs ++ zs) := by
  obtain ⟨mv, h⟩ := T.F_put_for.kbinds0 (ps := ["row", "key", "arms"]) 2 ["arms"] [] (fun us mv ws => us ++ (mv ++ ws)) (by simp) (by simp) (fun r1 r2 r3 => r1.append (r2.append r3))
    (fun D doc pm an cdv ct us mv ws h1 h2 h3 => by
      match us, mv, ws, h1, h2, h3 with
      | [a, b], [], [c], _, _, _ => rfl)
  exact ⟨mv, h⟩
theorem kb_th (T : Tx K mg A) : ∃ mv : List Value, KBn K A.d_take_by_hole ["row", "arms"] 1 ["arms"] (fun us ws => us ++ (mv ++ ws)) (fun vs zs => vs ++ zs) := by
  obtain ⟨mv, h⟩ := T.F_take_by_hole.kbinds0 (ps := ["row", "arms"]) 1 ["arms"] [] (fun us mv ws => us ++ (mv ++ ws)) (by simp) (by simp) (fun r1 r2 r3 => r1.append (r2.append r3))
    (fun D doc pm an cdv ct us mv ws h1 h2 h3 => by
      match us, mv, ws, h1, h2, h3 with
      | [a], [], [c], _, _, _ => rfl)
  exact ⟨mv, h⟩
end
end Tw

set_option Elab.async false
set_option linter.all false
set_option maxRecDepth 100000
set_option maxHeartbeats 2000000
namespace Tw
open PySem PySem.Spec PyProof.Rows L2
section
variable {P : Program} {w : World} {K : PySem.W.Frag} {mg : Str → Option Value} {base : Heap} {A : Ad}
open LamX (ExtN Tabs TabS)
/-! the law's own: _law_done -/
theorem sort_head {ks s : List Int} {a : Int} (hp : s.Perm ks) (hs : s.Pairwise (· ≤ ·)) (ha : a ∈ ks) (hl : ∀ z ∈ ks, a ≤ z) : s = a :: s.drop 1 := by
  cases s with
  | nil => exact absurd (hp.mem_iff.mpr ha) (by simp)
  | cons b l =>
    have h1 := hl b (hp.mem_iff.mp List.mem_cons_self)
    have h2 : b ≤ a := by
      rcases List.mem_cons.mp (hp.mem_iff.mpr ha) with e | e
      · exact Int.le_of_eq e.symm
      · exact (List.pairwise_cons.mp hs).1 a e
    rw [show b = a by omega]
    rfl
theorem cut_one (xs : List Int) : cutV (xs.map V.int) (some 1) none = (xs.drop 1).map V.int := by
  rw [show (1 : Int) = ((1 : Nat) : Int) from rfl, cut_from, List.map_drop]
structure GoodK (w : Nat) (ms : List Int) : Prop where
  l12 : ms.length ≤ 12
  b : ∀ z ∈ ms, -1000 ≤ z ∧ z ≤ 1000
  f : faultL ms w = []
def DoneAt (H : Hp) (q : Addr) (w : Nat) : Prop := ∃ (r l : Addr) (ms ls : List Int), H q = some (.tup [.ref r, .ref l]) ∧ H r = some (.tup (ms.map V.int)) ∧ H l = some (.lst (ls.map V.int)) ∧ GoodK w ms ∧ ls.Perm ms ∧ ls.Pairwise (· ≤ ·)
def spLd (A : Ad) : Sp := fun vs H Q _ => ∃ (word r w : Nat) (key : Int) (ks : List Int), vs = [.int word, .int key, .ref r, .int w] ∧ word ≤ 5 ∧ (-1000 ≤ key ∧ key ≤ 1000) ∧ (1 ≤ w ∧ w ≤ 4) ∧ H r = some (.tup (ks.map V.int)) ∧ GoodK w ks ∧ Tabs (TT A) H ∧
  ∀ (H' : Hp) (q : Addr), ExtN H H' → Tabs (TT A) H' → DoneAt H' q w → Q (.ref q) H'
theorem ok_ld (T : Tx K mg A) (TB : LamX.TabB base mg A.c_least_child A.P_least_child) : FnOk P w K mg base CX0 12 A.f__law_done A.d__law_done ["word", "key", "row", "wide"] (spLd A) := by
  obtain ⟨m1, kp⟩ := kb_push T
  obtain ⟨m2, kb⟩ := kb_build T
  obtain ⟨m3, kpf⟩ := kb_put T
  obtain ⟨m4, kth⟩ := kb_th T
  obtain ⟨m5, kt⟩ := kb_tk T
  refine T.F__law_done.ok sc__law_done (fun vs H Q E h => ?_) (fun cdv B outer s H vs Q E hr h => ?_)
  · obtain ⟨word, r, w, key, ks, rfl, _⟩ := h
    rfl
  · obtain ⟨word, r, v, key, ks, rfl, hwd, hkey, hw, er, gk, hT, q⟩ := h
    have nd := sc__law_done.nd
    have hu := hr.units
    have hu2 : (B.deeper (envOfC "_law_done" (defScope s__law_done) s.heap.objs.size A.f__law_done cdv)).units + 65 < cLine := by have := hr.un; omega
    obtain ⟨h12, hb, hf⟩ := id gk
    have hb9 : ∀ z ∈ ks, -1000000000 ≤ z ∧ z ≤ 1000000000 := fun z hz => by have := hb z hz; omega
    have hh : HeapL ks.length v ks := fault_heap hw h12 rfl hf
    obtain ⟨S0, eS⟩ : ∃ S0 : L2.St, S0 = [some (.int word), some (.int key), some (.ref r), some (.int v), none, none, none] := ⟨_, rfl⟩
    refine ⟨_, PSs.nox (C8.pss_cut (ps_if (PW.pt (pw_and (pt_cmpR op_lt (pv 0) pe_int (nomark _)) (pw_and1 (pt_cmpR op_lt (pe_callB call_len_seq (by rfl) T.g_len PySem.boot_len (pa_cons (pv 2) pa_nil)) pe_int (nomark _))))) (pss_one (ps_ret (pe_tup (pa_cons (pe_fld (pe_callN (ok_push T) (hr.mono (by decide)) (by rfl) T.m_push T.F_push.kp kp pass0 (pa_cons (pv 2) (pa_cons (pv 1) pa_nil)) (pk_cons (pv 3) pk_nil)) rfl) (pa_cons (pe_callB cr_sortedI (by rfl) T.g_sorted (by decide +kernel) (pa_cons (pe_op op_cat (pe_callTy call_list_of (by rfl) T.g_list (by decide +kernel) (pa_cons (pv 2) pa_nil)) (pe_lst (pa_cons (pv 1) pa_nil))) pa_nil)) pa_nil))))) pss_nil)
      (C8.pss_cut (ps_if (PW.pt (pw_or (pt_cmpR op_eq (pe_callB call_len_seq (by rfl) T.g_len PySem.boot_len (pa_cons (pv 2) pa_nil)) pe_int (nomark _)) (pw_or1 (pt_cmpR op_eq (pv 0) pe_int (nomark _))))) (pss_one (ps_ret (pe_tup (pa_cons (pe_fld (pe_callN (ok_build T TB) (hr.mono (by decide)) (by rfl) T.m_build T.F_build.kp kb pass0 (pa_cons (pe_revT (pv 2) (pe_un un_neg pe_int)) pa_nil) (pk_cons (pv 3) pk_nil)) rfl) (pa_cons (pe_callB cr_sortedTu (by rfl) T.g_sorted (by decide +kernel) (pa_cons (pv 2) pa_nil)) pa_nil))))) pss_nil)
      (C8.pss_cut (ps_if (pt_cmpR op_eq (pv 0) pe_int (nomark _)) (pss_cons (ps_asg (pe_callN (ok_put T TB) (hr.mono (by decide)) (by rfl) T.m_put_for T.F_put_for.kp kpf pass0 (pa_cons (pv 2) (pa_cons (pv 1) pa_nil)) (pk_cons (pv 3) pk_nil)) (pg_tup rfl (pgs_cons (pg_name (i := 4) nd rfl (Or.inl rfl)) (pgs_cons (pg_name (i := 5) nd rfl (Or.inl rfl)) pgs_nil))))
      (pss_one (ps_set (i := 6) nd rfl (Or.inl rfl) (pe_callB cr_sortedI (by rfl) T.g_sorted (by decide +kernel) (pa_cons (pe_op op_cat (pe_slice (r := rSlL K) sl_list (pe_callB cr_sortedTu (by rfl) T.g_sorted (by decide +kernel) (pa_cons (pv 2) pa_nil)) (po_some pe_int) po_none) (pe_lst (pa_cons (pv 1) pa_nil))) pa_nil))))) (pss_cons (ps_asg (pe_ifExp (pt_cmpR op_eq (pv 0) pe_int (nomark _)) (pe_callN (ok_th T TB) (hr.mono (by decide)) (by rfl) T.m_take_by_hole T.F_take_by_hole.kp kth pass0 (pa_cons (pv 2) pa_nil) (pk_cons (pv 3) pk_nil)) (pe_callN (ok_tk T TB) (hr.mono (by decide)) (by rfl) T.m_take T.F_take.kp kt pass0 (pa_cons (pv 2) pa_nil) (pk_cons (pv 3) pk_nil))) (pg_tup rfl (pgs_cons (pg_name (i := 4) nd rfl (Or.inl rfl)) (pgs_cons (pg_name (i := 5) nd rfl (Or.inl rfl)) pgs_nil))))
      (pss_one (ps_set (i := 6) nd rfl (Or.inl rfl) (pe_slice (r := rSlL K) sl_list (pe_callB cr_sortedTu (by rfl) T.g_sorted (by decide +kernel) (pa_cons (pv 2) pa_nil)) (po_some pe_int) po_none)))))
      (pss_one (ps_ret (pe_tup (pa_cons (pe_fld (pv 5) rfl) (pa_cons (pe_ifExp (pt_cmpR op_eq (pv 4) (pe_callB (cr_minTu hr.hd hu2) (by rfl) T.g_min (by decide +kernel) (pa_cons (pv 2) pa_nil)) (nomark _)) (pv 6) pe_non) pa_nil)))))))), ?_⟩
    refine ⟨fun σ' H' => σ' = S0 ∧ H' = H ∧ ¬ (word < 3 ∧ ks.length < 12), ?_, ?_⟩
    · subst eS
      refine ⟨_, rfl, _, _, rfl, rfl, _, rfl, ?_⟩
      by_cases hw3 : word < 3
      case neg =>
        rw [decide_eq_false (show ¬ ((word : Nat) : Int) < 3 by omega)]
        exact iteF (iteF ⟨rfl, rfl, fun z => hw3 z.1⟩)
      rw [decide_eq_true (show ((word : Nat) : Int) < 3 by omega)]
      refine iteT ⟨_, rfl, r, _, rfl, .inr (SqT.of er), _, _, rfl, rfl, _, rfl, ?_⟩
      rw [List.length_map]
      by_cases h11 : ks.length < 12
      case neg =>
        rw [decide_eq_false (show ¬ ((ks.length : Nat) : Int) < 12 by omega)]
        exact iteF ⟨rfl, rfl, fun z => h11 z.2⟩
      rw [decide_eq_true (show ((ks.length : Nat) : Int) < 12 by omega)]
      refine iteT ⟨_, rfl, _, rfl, _, rfl, rfl, rfl, r, v, key, ks, rfl, hw, ⟨.inr er, h12, hb9⟩, hf, ⟨by omega, by omega⟩, h11, fun H1 q1 s1 sf => ?_⟩
      obtain ⟨p1, p2⟩ := push_ok (w := v) (ks := ks) (k := key) h11 hh
      obtain ⟨dz, u1, u2, f0, f1, f2⟩ := sf
      generalize (goUp v 20 (ks ++ [key]) ks.length [ks.length] 0).1 = ms at *
      have hml : ms.length = ks.length + 1 := by rw [p2.length_eq, List.length_append]; rfl
      refine ⟨q1, A.CS, dz, _, _, rfl, f0, T.cTS, T.nRow, zf_row _ _ _, ?_⟩
      refine ⟨_, rfl, r, _, rfl, .inr (SqT.of (s1 _ _ er)), fun l nl => ?_⟩
      have s2 := Same.up (o := .lst (ks.map V.int)) nl
      have el := upd_same (H := H1) (a := l) (o := .lst (ks.map V.int))
      have f12 := s2 _ _ f1
      generalize upd H1 l (.lst (ks.map V.int)) = H2 at s2 el f12
      refine ⟨_, rfl, by show 1 ≤ sizeLine; decide, fun l2 nl2 => ?_⟩
      have s3 := Same.up (o := .lst [V.int key]) nl2
      refine ⟨l, l2, _, _, rfl, rfl, s3 _ _ el, upd_same, by rw [List.length_map, List.length_singleton, sizeLine_eq]; omega, fun D nD => ?_⟩
      rw [map_one]
      have s4 := Same.up (o := .lst ((ks ++ [key]).map V.int)) nD
      refine ⟨D, _, rfl, SqL.of upd_same, fun ls o hpm hso no => ?_⟩
      have s5 := Same.up (o := .lst (ls.map V.int)) no
      refine ⟨by show 2 ≤ sizeLine; decide, fun t nt => ?_⟩
      have s6 := Same.up (o := .tup [V.ref u1, V.ref o]) nt
      have sall := s1.trans (s2.trans (s3.trans (s4.trans (s5.trans s6))))
      refine q _ t (extN_of sall) (hT.ext sall) ⟨u1, o, ms, ls, upd_same, s6 _ _ (s5 _ _ (s4 _ _ (s3 _ _ f12))), s6 _ _ upd_same, ⟨by omega, fun z hz => ?_, heap_fault hml p1⟩, hpm.trans p2.symm, hso⟩
      rcases List.mem_append.mp (p2.mem_iff.mp hz) with h | h
      · exact hb z h
      · rw [List.mem_singleton.mp h]
        exact hkey
    rintro σ' H1 ⟨eq, rfl, hno⟩
    subst σ'
    refine ⟨fun σ' H' => σ' = S0 ∧ H' = H1 ∧ 1 ≤ ks.length, ?_, ?_⟩
    · subst eS
      refine ⟨_, rfl, r, _, rfl, .inr (SqT.of er), rfl, _, rfl, ?_⟩
      rw [List.length_map]
      by_cases h5 : ks.length = 0 ∨ word = 5
      case neg =>
        have h0 : ks.length ≠ 0 := fun z => h5 (.inl z)
        have hw5 : word ≠ 5 := fun z => h5 (.inr z)
        rw [decide_eq_false (show ¬ V.int (ks.length : Nat) = V.int 0 from fun z => h0 (by injection z with z; omega))]
        refine iteF ⟨_, rfl, rfl, _, rfl, ?_⟩
        rw [decide_eq_false (show ¬ V.int (word : Nat) = V.int 5 from fun z => hw5 (by injection z with z; omega))]
        exact iteF ⟨rfl, rfl, by omega⟩
      by_cases h0 : ks.length = 0
      · rw [decide_eq_true (show V.int (ks.length : Nat) = V.int 0 by rw [h0]; rfl)]
        refine iteT (iteT ⟨_, rfl, _, rfl, rfl, r, _, rfl, SqT.of er, fun m H4 s4 em => ?_⟩)
        rw [← List.map_reverse] at em
        refine ⟨_, rfl, rfl, rfl, m, v, ks.reverse, rfl, hw, ⟨.inr em, by rw [List.length_reverse]; exact h12, fun z hz => hb9 z (List.mem_reverse.mp hz)⟩, hT.ext s4, fun H5 q5 e5 t5 hbt => ?_⟩
        obtain ⟨dz, u1, u2, xs, f0, f1, f2, f3⟩ := hbt
        have hperm := bld_perm hw.1 (ks := ks.reverse) rfl ks.reverse.length (Nat.le_refl _)
        have hgood := bld_good hw.1 (show ks.reverse.length ≤ 12 by rw [List.length_reverse]; exact h12) (ks := ks.reverse) rfl ks.reverse.length (Nat.le_refl _)
        rw [Nat.sub_self] at hgood
        generalize (bld ks.reverse.length v ks.reverse ks.reverse.length).1 = ms at *
        have hpk := hperm.trans (List.reverse_perm ks)
        refine ⟨q5, A.CB, dz, _, _, rfl, f0, T.cTB, T.bRow, uf_row _ _ _ _, ?_⟩
        have er5 := e5 _ _ (s4 _ _ er) (fun _ z => nomatch z)
        refine ⟨_, rfl, r, ks, rfl, SqT.of er5, fun ls o hpm hso no => ?_⟩
        have s5 := Same.up (o := .lst (ls.map V.int)) no
        refine ⟨by show 2 ≤ sizeLine; decide, fun t nt => ?_⟩
        have s6 := s5.trans (Same.up (o := .tup [V.ref u1, V.ref o]) nt)
        exact q _ t ((extN_of s4).trans (e5.trans (extN_of s6))) (t5.ext s6) ⟨u1, o, ms, ls, upd_same, s6 _ _ f1, (Same.up nt) _ _ upd_same, ⟨by rw [hpk.length_eq]; exact h12, fun z hz => hb z (hpk.mem_iff.mp hz), heap_fault (by rw [hperm.length_eq]) (good_heapL hgood)⟩, hpm.trans hpk.symm, hso⟩
      · rw [decide_eq_false (show ¬ V.int (ks.length : Nat) = V.int 0 from fun z => h0 (by injection z with z; omega))]
        refine iteF ⟨_, rfl, rfl, _, rfl, ?_⟩
        rw [decide_eq_true (show V.int (word : Nat) = V.int 5 by rw [h5.resolve_left h0]; rfl)]
        refine iteT ⟨_, rfl, _, rfl, rfl, r, _, rfl, SqT.of er, fun m H4 s4 em => ?_⟩
        rw [← List.map_reverse] at em
        refine ⟨_, rfl, rfl, rfl, m, v, ks.reverse, rfl, hw, ⟨.inr em, by rw [List.length_reverse]; exact h12, fun z hz => hb9 z (List.mem_reverse.mp hz)⟩, hT.ext s4, fun H5 q5 e5 t5 hbt => ?_⟩
        obtain ⟨dz, u1, u2, xs, f0, f1, f2, f3⟩ := hbt
        have hperm := bld_perm hw.1 (ks := ks.reverse) rfl ks.reverse.length (Nat.le_refl _)
        have hgood := bld_good hw.1 (show ks.reverse.length ≤ 12 by rw [List.length_reverse]; exact h12) (ks := ks.reverse) rfl ks.reverse.length (Nat.le_refl _)
        rw [Nat.sub_self] at hgood
        generalize (bld ks.reverse.length v ks.reverse ks.reverse.length).1 = ms at *
        have hpk := hperm.trans (List.reverse_perm ks)
        refine ⟨q5, A.CB, dz, _, _, rfl, f0, T.cTB, T.bRow, uf_row _ _ _ _, ?_⟩
        have er5 := e5 _ _ (s4 _ _ er) (fun _ z => nomatch z)
        refine ⟨_, rfl, r, ks, rfl, SqT.of er5, fun ls o hpm hso no => ?_⟩
        have s5 := Same.up (o := .lst (ls.map V.int)) no
        refine ⟨by show 2 ≤ sizeLine; decide, fun t nt => ?_⟩
        have s6 := s5.trans (Same.up (o := .tup [V.ref u1, V.ref o]) nt)
        exact q _ t ((extN_of s4).trans (e5.trans (extN_of s6))) (t5.ext s6) ⟨u1, o, ms, ls, upd_same, s6 _ _ f1, (Same.up nt) _ _ upd_same, ⟨by rw [hpk.length_eq]; exact h12, fun z hz => hb z (hpk.mem_iff.mp hz), heap_fault (by rw [hperm.length_eq]) (good_heapL hgood)⟩, hpm.trans hpk.symm, hso⟩
    rintro σ' H2 ⟨eq, rfl, h1⟩
    subst σ'
    have hk0 : keyAt ks 0 ∈ ks := keyAt_mem (by omega)
    have hne : ks ≠ [] := fun z => by rw [z] at h1; exact absurd h1 (by decide)
    have hroot : ∀ z ∈ ks, keyAt ks 0 ≤ z := fun z hz => by
      obtain ⟨j, hj, e⟩ := List.mem_iff_getElem.mp hz
      have := no_fault hw (by omega) hf j hj 0 (root_way v (by omega) j (by omega) hw.1)
      rw [← e, el_key hj]
      exact this
    refine ⟨fun σ' H' => ∃ (q5 l6 : Addr) (ms ls : List Int) (rs : List Int × List Nat × Nat), σ' = [some (.int word), some (.int key), some (.ref r), some (.int v), some (.int (keyAt ks 0)), some (.ref q5), some (.ref l6)] ∧ ExtN H2 H' ∧ Tabs (TT A) H' ∧ resSift A.CS H' q5 rs ∧ rs.1 = ms ∧ H' l6 = some (.lst (ls.map V.int)) ∧ GoodK v ms ∧ ls.Perm ms ∧ ls.Pairwise (· ≤ ·), ?_, ?_⟩
    · subst eS
      refine ⟨_, rfl, rfl, _, rfl, ?_⟩
      by_cases hw4 : word = 4
      · rw [decide_eq_true (show V.int (word : Nat) = V.int 4 by rw [hw4]; rfl)]
        refine iteT ⟨_, rfl, _, rfl, _, rfl, rfl, rfl, r, v, key, ks, rfl, hw, ⟨.inr er, h12, hb9⟩, hf, ⟨by omega, by omega⟩, hne, hT, fun H3 t e3 t3 took => ?_⟩
        obtain ⟨q5, et, sf⟩ := took
        obtain ⟨o1, o2, o3⟩ := put_ok (w := v) hw.1 (k := key) (ks := ks) h12 h1 hh
        refine ⟨_, _, rfl, SqT.of et, rfl, _, _, rfl, _, _, rfl, rfl, ?_⟩
        have er3 := e3 _ _ er (fun _ z => nomatch z)
        refine ⟨_, rfl, r, ks, rfl, SqT.of er3, fun s o hpm hso no => ?_⟩
        have s4 := Same.up (o := .lst (s.map V.int)) no
        have hs := sort_head hpm hso hk0 hroot
        refine ⟨_, rfl, o, _, rfl, SqL.of upd_same, fun p np => ?_⟩
        rw [cut_one]
        have s5 := Same.up (o := .lst ((s.drop 1).map V.int)) np
        refine ⟨_, rfl, by show 1 ≤ sizeLine; decide, fun l nl => ?_⟩
        have s6 := Same.up (o := .lst [V.int key]) nl
        have hsl : s.length = ks.length := hpm.length_eq
        refine ⟨p, l, _, _, rfl, rfl, s6 _ _ upd_same, upd_same, by rw [List.length_map, List.length_drop, List.length_singleton, sizeLine_eq]; omega, fun D nD => ?_⟩
        rw [map_one]
        have s7 := Same.up (o := .lst ((s.drop 1 ++ [key]).map V.int)) nD
        refine ⟨D, _, rfl, SqL.of upd_same, fun ls o2' hpm2 hso2 no2 => ?_⟩
        have s8 := Same.up (o := .lst (ls.map V.int)) no2
        have sall := s4.trans (s5.trans (s6.trans (s7.trans s8)))
        have hperm : ls.Perm (goDown ks.length v 20 (putRow key ks) 0 [0] 0).1 := by
          refine hpm2.trans (List.Perm.cons_inv (a := keyAt ks 0) ?_)
          have x1 : (keyAt ks 0 :: (s.drop 1 ++ [key])).Perm (ks ++ [key]) := by
            rw [← List.cons_append, ← hs]
            exact hpm.append_right _
          exact (x1.trans List.perm_append_comm).trans o3.symm
        refine ⟨q5, o2', _, ls, _, rfl, e3.trans (extN_of sall), t3.ext sall, sf.ext (extN_of sall), rfl, upd_same, ⟨by rw [o1]; exact h12, fun z hz => ?_, heap_fault o1 o2⟩, hperm, hso2⟩
        rcases List.mem_cons.mp (o3.mem_iff.mp (List.mem_cons_of_mem _ hz)) with rfl | h
        · exact hkey
        · exact hb z h
      · rw [decide_eq_false (show ¬ V.int (word : Nat) = V.int 4 from fun z => hw4 (by injection z with z; omega))]
        refine iteF ⟨_, rfl, rfl, _, rfl, ?_⟩
        by_cases hw3 : word = 3
        · rw [decide_eq_true (show V.int (word : Nat) = V.int 3 by rw [hw3]; rfl)]
          refine iteT ⟨_, rfl, _, rfl, rfl, rfl, r, v, ks, rfl, hw, ⟨.inr er, h12, hb9⟩, hf, hne, hT, fun H3 t e3 t3 took => ?_⟩
          obtain ⟨q5, et, sf⟩ := took
          obtain ⟨o1, o2, o3⟩ := hole_ok (w := v) hw.1 (ks := ks) h12 h1 hh
          refine ⟨_, _, rfl, SqT.of et, rfl, _, _, rfl, _, _, rfl, rfl, ?_⟩
          have er3 := e3 _ _ er (fun _ z => nomatch z)
          refine ⟨_, rfl, r, ks, rfl, SqT.of er3, fun s o hpm hso no => ?_⟩
          have s4 := Same.up (o := .lst (s.map V.int)) no
          have hs := sort_head hpm hso hk0 hroot
          refine ⟨_, rfl, o, _, rfl, SqL.of upd_same, fun p np => ?_⟩
          rw [cut_one]
          have sall := s4.trans (Same.up (o := .lst ((s.drop 1).map V.int)) np)
          have hperm : (s.drop 1).Perm (holeR ks v).1 := by
            refine List.Perm.cons_inv (a := keyAt ks 0) ?_
            rw [← hs]
            exact hpm.trans o3.symm
          refine ⟨q5, p, _, _, _, rfl, e3.trans (extN_of sall), t3.ext sall, sf.ext (extN_of sall), rfl, upd_same, ⟨by rw [o1]; omega, fun z hz => hb z (o3.mem_iff.mp (List.mem_cons_of_mem _ hz)), heap_fault o1 o2⟩, hperm, hso.sublist (List.drop_sublist 1 s)⟩
        · rw [decide_eq_false (show ¬ V.int (word : Nat) = V.int 3 from fun z => hw3 (by injection z with z; omega))]
          refine iteF ⟨_, rfl, _, rfl, rfl, rfl, r, v, ks, rfl, hw, ⟨.inr er, h12, hb9⟩, hf, hne, hT, fun H3 t e3 t3 took => ?_⟩
          obtain ⟨q5, et, sf⟩ := took
          obtain ⟨o1, o2, o3⟩ := take_ok (w := v) hw.1 (ks := ks) h12 h1 hh
          refine ⟨_, _, rfl, SqT.of et, rfl, _, _, rfl, _, _, rfl, rfl, ?_⟩
          have er3 := e3 _ _ er (fun _ z => nomatch z)
          refine ⟨_, rfl, r, ks, rfl, SqT.of er3, fun s o hpm hso no => ?_⟩
          have s4 := Same.up (o := .lst (s.map V.int)) no
          have hs := sort_head hpm hso hk0 hroot
          refine ⟨_, rfl, o, _, rfl, SqL.of upd_same, fun p np => ?_⟩
          rw [cut_one]
          have sall := s4.trans (Same.up (o := .lst ((s.drop 1).map V.int)) np)
          have hperm : (s.drop 1).Perm (takeR ks v).1 := by
            refine List.Perm.cons_inv (a := keyAt ks 0) ?_
            rw [← hs]
            exact hpm.trans o3.symm
          refine ⟨q5, p, _, _, _, rfl, e3.trans (extN_of sall), t3.ext sall, sf.ext (extN_of sall), rfl, upd_same, ⟨by rw [o1]; omega, fun z hz => hb z (o3.mem_iff.mp (List.mem_cons_of_mem _ hz)), heap_fault o1 o2⟩, hperm, hso.sublist (List.drop_sublist 1 s)⟩
    rintro σ' H3 ⟨q5, l6, ms, ls, rs, rfl, e3, t3, ⟨dz, u1, u2, f0, f1, f2⟩, rfl, el, gm, hpm, hso⟩
    refine ⟨_, rfl, q5, A.CS, dz, _, _, rfl, f0, T.cTS, T.nRow, zf_row _ _ _, ?_⟩
    have er3 := e3 _ _ er (fun _ z => nomatch z)
    refine ⟨_, rfl, _, rfl, r, ks, rfl, SqT.of er3, hne, fun m hm hle => ⟨rfl, _, rfl, ?_⟩⟩
    have em : m = keyAt ks 0 := by
      have x := hle _ hk0
      have y := hroot m hm
      omega
    subst em
    rw [decide_eq_true rfl]
    refine iteT ⟨_, rfl, by show 2 ≤ sizeLine; decide, fun t nt => ?_⟩
    have s6 := Same.up (o := .tup [V.ref u1, V.ref l6]) nt
    exact q _ t (e3.trans (extN_of s6)) (t3.ext s6) ⟨u1, l6, rs.1, ls, upd_same, s6 _ _ f1, s6 _ _ el, gm, hpm, hso⟩
theorem b_ld (T : Tx K mg A) : L2.Binds K A.d__law_done ["word", "key", "row", "wide"] [] := T.F__law_done.binds fun _ _ _ _ _ _ us hl => match us, hl with | [_, _, _, _], _ => rfl

end
end Tw

set_option Elab.async false
set_option linter.all false
set_option maxRecDepth 100000
set_option maxHeartbeats 2000000
namespace Tw
open PySem PySem.Spec PyProof.Rows L2
section
variable {P : Program} {w : World} {K : PySem.W.Frag} {mg : Str → Option Value} {base : Heap} {A : Ad}
open LamX (ExtN Tabs TabS)
theorem b_arm (T : Tx K mg A) : L2.Binds K A.d__law_arms ["draw"] [] := T.F__law_arms.binds fun _ _ _ _ _ _ us hl => match us, hl with | [_], _ => rfl
theorem ints_eqvL (a b : List Int) : PyData.eqv (.list (a.map PyData.int)) (.list (b.map PyData.int)) = decide (a = b) := by
  rw [← ints_all]
  simp [PyData.eqv]
theorem kih (T : Tx K mg A) : ∃ mv : List Value, KBn K A.d_is_heap ["row", "arms"] 1 ["arms"] (fun us ws => us ++ (mv ++ ws)) (fun vs zs => vs ++ zs) := by
  obtain ⟨mv, h⟩ := T.F_is_heap.kbinds0 (ps := ["row", "arms"]) 1 ["arms"] [] (fun us mv ws => us ++ (mv ++ ws)) (by simp) (by simp) (fun r1 r2 r3 => r1.append (r2.append r3))
    (fun D doc pm an cdv ct us mv ws h1 h2 h3 => by
      match us, mv, ws, h1, h2, h3 with
      | [a], [], [c], _, _, _ => rfl)
  exact ⟨mv, h⟩
theorem sorted_one {xs ys : List Int} (hp : xs.Perm ys) (h1 : xs.Pairwise (· ≤ ·)) (h2 : ys.Pairwise (· ≤ ·)) : xs = ys := List.Perm.eq_of_pairwise (fun x y _ _ h1 h2 => Int.le_antisymm h1 h2) h1 h2 hp
theorem tabs_but {T : List (Addr × Str)} {H H' : Hp} {d : Addr} {xs : List V} (t : Tabs T H) (h : H d = some (.lst xs)) (b : But d H H') : Tabs T H' := fun p hp => by
  obtain ⟨ps, h1, h2, h3⟩ := t p hp
  refine ⟨ps, b _ _ (ne_of h1 h (by intro z; cases z)) h1, h2, fun pos cv hc => ?_⟩
  obtain ⟨c, e1, e2⟩ := h3 pos cv hc
  exact ⟨c, e1, b _ _ (ne_of e2 h (by intro z; unfold LamX.CodeO at z; cases z)) e2⟩
end
end Tw

set_option Elab.async false
set_option linter.all false
set_option maxRecDepth 100000
set_option maxHeartbeats 2000000
namespace Tw
open PySem PySem.Spec PyProof.Rows L2
section
variable {P : Program} {w : World} {K : PySem.W.Frag} {mg : Str → Option Value} {base : Heap} {A : Ad}
open LamX (ExtN Tabs TabS)
/-! the law -/
def spLaw (K : PySem.W.Frag) (A : Ad) : Sp := fun vs H Q _ => ∃ (a : Addr) (ns : List Int), vs = [.ref a] ∧ SqL K H a (ns.map V.int) ∧ ns.length ≤ 63 ∧ Tabs (TT A) H ∧ ∀ H', Q (.bl true) H'
theorem ok_law (T : Tx K mg A) (TB : LamX.TabB base mg A.c_least_child A.P_least_child) (TB2 : LamX.TabB base mg A.c_undo_push A.P_undo_push) : FnOk P w K mg base CX0 16 A.f_law A.d_law ["script"] (spLaw K A) := by
  obtain ⟨mh, kih⟩ := kb_ish T
  obtain ⟨mf, kfewc⟩ := kfewc T
  refine T.F_law.ok sc_law (fun vs H Q E h => ?_) (fun cdv B outer s H vs Q E hr h => ?_)
  · obtain ⟨a, ns, rfl, _⟩ := h
    rfl
  · obtain ⟨a, ns, rfl, ha, hl, hT, q⟩ := h
    have nd := sc_law.nd
    have hu := hr.units
    refine ⟨_, PSs.nox (pss_cons (ps_set (i := 1) nd rfl (Or.inl rfl) (pe_lst (pa_cons (pv 0) (pa_cons pe_int pa_nil))))
      (C8.pss_cut (ps_par3 (i := 2) (j := 3) (l := 4) rfl nd rfl rfl rfl (by decide) (by decide) (by decide) rfl rfl rfl (pa_cons (pe_call (ok_arm T) (hr.mono (by decide)) (by rfl) T.m__law_arms T.F__law_arms.kp (b_arm T) .nil pass0 (pa_cons (pv 1) pa_nil)) (pa_cons (pe_call (ok_pick T) (hr.mono (by decide)) (by rfl) T.m__law_pick T.F__law_pick.kp (b_pick T) .nil pass0 (pa_cons (pv 1) (pa_cons (pe_lst (pa_cons pe_int (pa_cons pe_int (pa_cons pe_int pa_nil)))) pa_nil))) (pa_cons (pe_tup pa_nil) pa_nil))) rfl)
      (C8.pss_cut (ps_for PassesOwn.never rfl (pi_range1 rfl T.g_range (pa_cons (pe_op op_add pe_int (pe_call (ok_take T) (hr.mono (by decide)) (by rfl) T.m__law_take T.F__law_take.kp (b_take T) .nil pass0 (pa_cons (pv 1) (pa_cons pe_int pa_nil)))) pa_nil)) (pg_name (i := 5) nd rfl (Or.inl rfl)) (C8.pss_cut (ps_asg (pe_call (ok_ld T TB) (hr.mono (by decide)) (by rfl) T.m__law_done T.F__law_done.kp (b_ld T) .nil pass0 (pa_cons (pe_call (ok_take T) (hr.mono (by decide)) (by rfl) T.m__law_take T.F__law_take.kp (b_take T) .nil pass0 (pa_cons (pv 1) (pa_cons pe_int pa_nil))) (pa_cons (pe_call (ok_take T) (hr.mono (by decide)) (by rfl) T.m__law_take T.F__law_take.kp (b_take T) .nil pass0 (pa_cons (pv 1) (pa_cons (pv 3) pa_nil))) (pa_cons (pv 4) (pa_cons (pv 2) pa_nil))))) (pg_tup rfl (pgs_cons (pg_name (i := 4) nd rfl (Or.inl rfl)) (pgs_cons (pg_name (i := 6) nd rfl (Or.inl rfl)) pgs_nil))))
      (C8.pss_cut (ps_if (PW.pt (pw_or (pt_cmpR (op_neD hu) (pe_callB cr_sortedTu (by rfl) T.g_sorted (by decide +kernel) (pa_cons (pv 4) pa_nil)) (pv 6) (nomark _)) (pw_or1 (pt_not (pt_val (pe_callN (ok_ish T) (hr.mono (by decide)) (by rfl) T.m_is_heap T.F_is_heap.kp kih pass0 (pa_cons (pv 4) pa_nil) (pk_cons (pv 2) pk_nil))))))) (pss_one (ps_ret pe_bl)) pss_nil)
      (C8.pss_cut (ps_if (pt_cmpR op_ne (pe_callN (ok_fewc T) (hr.mono (by decide)) (by rfl) T.m_fewest_changed T.F_fewest_changed.kp kfewc pass0 (pa_cons (pv 4) pa_nil) (pk_cons (pv 2) pk_nil)) pe_int (nomark _)) (pss_one (ps_ret pe_bl)) pss_nil)
      (pss_one (ps_if (PW.pt (pw_and (pt_cmpR op_eq (pe_op op_mod (pv 5) pe_int) pe_int (nomark _)) (pw_and1 (pt_not (pt_val (pe_call (ok_lur T TB TB2) (hr.mono (by decide)) (by rfl) T.m__law_undone_right T.F__law_undone_right.kp (b_lur T) .nil pass0 (pa_cons (pv 4) (pa_cons (pv 2) pa_nil)))))))) (pss_one (ps_ret pe_bl)) pss_nil))))))
      (pss_one (ps_ret pe_bl))))), ?_⟩
    refine ⟨_, rfl, by show 2 ≤ sizeLine; decide, fun d hd => ?_⟩
    have dr0 : DrAt K _ d a ns 0 := DrAt.start ha hl hd
    have t0 : Tabs (TT A) (upd H d (.lst [.ref a, .int 0])) := hT.ext (Same.up hd)
    refine ⟨fun σ' H' => ∃ (v sp : Nat) (r : Addr), σ' = [some (.ref a), some (.ref d), some (.int v), some (.int sp), some (.ref r), none, none] ∧ DrAt K H' d a ns 2 ∧ Tabs (TT A) H' ∧ (1 ≤ v ∧ v ≤ 4) ∧ (0 < sp ∧ sp ≤ 1000) ∧ H' r = some (.tup []), ?_, ?_⟩
    · refine ⟨_, rfl, d, a, ns, 0, rfl, dr0, by omega, fun H2 v b2 dr2 hw => ?_⟩
      have t2 := tabs_but t0 dr0.l b2
      refine ⟨_, rfl, by show 3 ≤ sizeLine; decide, fun b hb => ?_⟩
      have hbd : b ≠ d := fun z => by rw [z, dr2.l] at hb; cases hb
      have s3' := Same.up (o := .lst [V.int 3, V.int 12, V.int 1000]) hb
      have dr3' := dr2.same s3'
      have t3' := t2.ext s3'
      refine ⟨d, a, b, ns, [3, 12, 1000], 1, rfl, dr3', by omega, upd_same, hbd, by show 0 < 3; decide, fun H3 z b3 dr3 hz => ?_⟩
      have t3 := tabs_but t3' dr3'.l b3
      have hz2 : 0 < z ∧ z ≤ 1000 := by
        simp only [List.mem_cons, List.not_mem_nil, or_false] at hz
        omega
      obtain ⟨sp, rfl⟩ : ∃ sp : Nat, z = (sp : Int) := ⟨z.toNat, by omega⟩
      refine ⟨by show 0 ≤ sizeLine; decide, fun e ne => ⟨_, _, _, rfl, v, sp, e, rfl, dr3.same (Same.up ne), t3.ext (Same.up ne), hw, ⟨by omega, by omega⟩, upd_same⟩⟩
    rintro σ' H1 ⟨v, sp, r, rfl, dr1, t1, hw, hsp, er⟩
    refine ⟨fun _ _ => True, ?_, fun _ H' _ => q H'⟩
    refine ⟨_, rfl, d, a, ns, 2, 41, rfl, dr1, by omega, by decide, fun H2 m b2 dr2 hm => ?_⟩
    have t2 := tabs_but t1 dr1.l b2
    have hrd : r ≠ d := ne_of er dr1.l (by intro z; cases z)
    have er2 := b2 _ _ hrd er
    refine ⟨_, _, rfl, rfl, _, rfl, by omega, by omega, ?_⟩
    refine for_it (walk_range (lo := 0) (n := _)) (fun i σ' H' => (∃ (r : Addr) (x5 x6 : Option V) (ks : List Int), σ' = [some (.ref a), some (.ref d), some (.int v), some (.int sp), some (.ref r), x5, x6] ∧ H' r = some (.tup (ks.map V.int)) ∧ GoodK v ks) ∧ DrAt K H' d a ns (3 + 2 * i) ∧ Tabs (TT A) H')
      ⟨⟨r, none, none, [], rfl, er2, by show 0 ≤ 12; decide, (fun z hz => nomatch hz), rfl⟩, dr2, t2⟩ (fun _ _ _ _ _ => trivial) ?_ (fun _ _ _ => trivial)
    rintro i y σ' H3 H4 hi ⟨⟨r, x5, x6, ks, rfl, er, gk⟩, dr, tb⟩ ⟨rfl, ey⟩
    obtain rfl : y = V.int (i : Nat) := by
      rw [ey]
      show V.int (0 + (i : Int)) = _
      rw [Int.zero_add]
    have hi61 : i ≤ 61 := by
      have : (20 + (m : Int)).toNat ≤ 61 := by omega
      omega
    have hrd : r ≠ d := ne_of er dr.l (by intro z; cases z)
    refine ⟨fun σ' H' => ∃ (r l : Addr) (ms ls : List Int), σ' = [some (.ref a), some (.ref d), some (.int v), some (.int sp), some (.ref r), some (.int i), some (.ref l)] ∧ H' r = some (.tup (ms.map V.int)) ∧ H' l = some (.lst (ls.map V.int)) ∧ GoodK v ms ∧ ls.Perm ms ∧ ls.Pairwise (· ≤ ·) ∧ DrAt K H' d a ns (3 + 2 * i + 2) ∧ Tabs (TT A) H', ?_, ?_⟩
    · refine ⟨_, rfl, d, a, ns, _, 6, rfl, dr, by omega, by decide, fun H5 word b5 dr5 hwd => ?_⟩
      have t5 := tabs_but tb dr.l b5
      have er5 := b5 _ _ hrd er
      refine ⟨_, rfl, _, rfl, d, a, ns, _, sp, rfl, dr5, by omega, hsp.1, fun H6 key b6 dr6 hkey => ?_⟩
      have t6 := tabs_but t5 dr5.l b6
      have er6 := b6 _ _ hrd er5
      refine ⟨_, rfl, _, rfl, word, r, v, key, ks, rfl, by omega, ⟨by omega, by omega⟩, hw, er6, gk, t6, fun H7 q7 e7 t7 dn => ?_⟩
      obtain ⟨r7, l7, ms, ls, g1, g2, g3, gm, hpm, hso⟩ := dn
      exact ⟨_, _, rfl, SqT.of g1, rfl, _, _, rfl, _, _, rfl, rfl, r7, l7, ms, ls, rfl, g2, g3, gm, hpm, hso, dr6.ext e7, t7⟩
    rintro σ' H5 ⟨r5, l5, ms, ls, rfl, er5, el5, gm, hpm, hso, dr5, t5⟩
    have hb9 : ∀ z ∈ ms, -1000000000 ≤ z ∧ z ≤ 1000000000 := fun z hz => by have := gm.b z hz; omega
    generalize eS : ([some (.ref a), some (.ref d), some (.int v), some (.int sp), some (.ref r5), some (.int i), some (.ref l5)] : L2.St) = S0
    refine ⟨fun σ' H' => σ' = S0 ∧ Same H5 H', ?_, ?_⟩
    · subst eS
      refine ⟨_, rfl, r5, ms, rfl, SqT.of er5, fun us o hpu hsu no => ?_⟩
      have s6 := Same.up (o := .lst (us.map V.int)) no
      obtain rfl : us = ls := sorted_one (hpu.trans hpm.symm) hsu hso
      refine ⟨_, rfl, .list (us.map PyData.int), .list (us.map PyData.int), .lst (SqL.of upd_same) (ints_dp _ _ _), .lst (SqL.of (s6 _ _ el5)) (ints_dp _ _ _), shaped_ints _, shaped_ints _, _, rfl, ?_⟩
      rw [ints_eqvL, decide_eq_true rfl]
      refine iteF ⟨_, rfl, _, rfl, rfl, rfl, r5, v, ms, rfl, hw, ⟨.inr (s6 _ _ er5), gm.l12, hb9⟩, fun H7 s7 => ⟨_, rfl, ?_⟩⟩
      rw [decide_eq_true gm.f]
      exact iteF ⟨rfl, s6.trans s7⟩
    rintro σ' H6 ⟨eq, s6⟩
    subst σ'
    refine ⟨fun σ' H' => σ' = S0 ∧ Same H5 H', ?_, ?_⟩
    · subst eS
      refine ⟨_, rfl, _, rfl, rfl, rfl, r5, v, ms, rfl, hw, s6 _ _ er5, gm.l12, hb9, gm.f, fun H7 s7 => ⟨rfl, _, rfl, ?_⟩⟩
      exact ite_b (c := false) (by rw [decide_eq_true rfl]; rfl) (iteF ⟨rfl, s6.trans s7⟩)
    rintro σ' H7 ⟨eq, s7⟩
    subst σ'
    subst eS
    have nx : ∀ {G : Hp}, ExtN H5 G → Tabs (TT A) G → (∃ (r : Addr) (x5 x6 : Option V) (ks : List Int), ([some (.ref a), some (.ref d), some (.int v), some (.int sp), some (.ref r5), some (.int i), some (.ref l5)] : L2.St) = [some (.ref a), some (.ref d), some (.int v), some (.int sp), some (.ref r), x5, x6] ∧ G r = some (.tup (ks.map V.int)) ∧ GoodK v ks) ∧ DrAt K G d a ns (3 + 2 * (i + 1)) ∧ Tabs (TT A) G := fun e t => ⟨⟨r5, _, _, ms, rfl, e _ _ er5 (fun _ z => nomatch z), gm⟩, dr5.ext e, t⟩
    refine ⟨_, rfl, _, _, rfl, rfl, by show (0 : Int) < 5; decide, rfl, _, rfl, ?_⟩
    by_cases h5 : (i : Int) % 5 = 0
    · rw [decide_eq_true (show V.int ((i : Int) % 5) = V.int 0 by rw [h5])]
      refine iteT ⟨_, rfl, _, rfl, r5, v, ms, rfl, hw, s7 _ _ er5, gm.l12, gm.b, gm.f, t5.ext s7, fun H8 e8 t8 => ⟨_, rfl, iteF ?_⟩⟩
      exact nx ((extN_of s7).trans e8) t8
    · rw [decide_eq_false (fun z => h5 (by injection z))]
      exact iteF (iteF (nx (extN_of s7) (t5.ext s7)))

end
end Tw

set_option Elab.async false
set_option linter.all false
set_option maxRecDepth 100000
set_option maxHeartbeats 2000000
namespace Tw
open PySem PySem.Spec PyProof.Rows L2
theorem kit_no {K : PySem.W.Frag} {C : Addr} {t : String} (hc : PySem.W.isClsIn K C = true) (ht : PySem.W.typeIn K (.ref C) = some (.type "type")) (hs : PySem.W.subIn K (.type t) (.ref C) = some false) : PySem.W.kitOne K (.type t) (.ref C) = some false := by
  unfold PySem.W.kitOne PySem.W.kitCls
  have h1 : (PySem.W.clsIn K C).isSome = true := hc
  simp only [h1, ht, hs, beq_self_eq_true, Bool.and_self, if_true]
  rfl
theorem kit_no2 {K : PySem.W.Frag} {C D : Addr} (hc : PySem.W.isClsIn K C = true) (ht : PySem.W.typeIn K (.ref C) = some (.type "type")) (hs : PySem.W.subIn K (.ref D) (.ref C) = some false) (hn : (D == C) = false) : PySem.W.kitOne K (.ref D) (.ref C) = some false := by
  unfold PySem.W.kitOne PySem.W.kitCls
  have h1 : (PySem.W.clsIn K C).isSome = true := hc
  have h2 : (Value.ref D == Value.ref C) = false := beq_eq_false_iff_ne.mpr fun z => by
    injection z with z
    exact (beq_eq_false_iff_ne.mp hn) z
  rw [h2, if_neg Bool.false_ne_true]
  simp only [h1, ht, hs, beq_self_eq_true, Bool.and_self, if_true]
theorem all_mk {l : PySem.W.OpenLaw} {w : World} {K : PySem.W.Frag} {h : Heap} {mg : Str → Option Value} (X : K.In h) (G : h.Ns mainGlobals mg) {fa C CS CB CU CY CQ CV po D_t___init__ D_t_of D_is_heap D_faults D_sift_up D_sift_down D_push D_take D_take_by_hole D_put_for D_build D_code D_decode D_fewest_changed D_undo_push D_last_places D_undo_take D_places_behind f_is_integer f_is_integer_from f_is_key f_check_arms f_check_many f_check_place f_check_key f_row_of f_check_different f_t___init__ f_t_of f_t___len__ f_t___contains__ f_t___iter__ f_t___getitem__ f_t_parent f_t_way_to f_t_depth f_t_subtree f_is_heap f_faults f_heap_of f_different_heap_of f_z___init__ f_sift_up f_sift_down f_least_child f_row_before f_u___init__ f_push f_take f_take_by_hole f_put_for f_build f_filled_heap_of f_check_filled f_code f_decode f_places_that_stop f_check_stops f_is_stop f_row_with f_way_down f_fewest_changed f_falling_chains f_n___init__ f_n___eq__ f_y___init__ f_undo_push f_last_places f_last_way f_heap_and_way_below f_q___init__ f_v___init__ f_undo_take f_places_behind f_heap_with_room f_heap_after f_place_over_next f__law_number f__law_take f__law_pick f__law_arms f__law_undone_right f__law_done f_law : Addr} {cc_least_child PP_least_child : Addr} {cc_undo_push PP_undo_push : Addr} {od_is_integer an_is_integer : Option Addr} {sl_is_integer : Array (Option Value)} {oc_is_integer kV_is_integer dc_is_integer pm_is_integer cd_is_integer ct_is_integer : Value} {od_is_integer_from an_is_integer_from : Option Addr} {sl_is_integer_from : Array (Option Value)} {oc_is_integer_from kV_is_integer_from dc_is_integer_from pm_is_integer_from cd_is_integer_from ct_is_integer_from : Value} {od_is_key an_is_key : Option Addr} {sl_is_key : Array (Option Value)} {oc_is_key kV_is_key dc_is_key pm_is_key cd_is_key ct_is_key : Value} {od_check_arms an_check_arms : Option Addr} {sl_check_arms : Array (Option Value)} {oc_check_arms kV_check_arms dc_check_arms pm_check_arms cd_check_arms ct_check_arms : Value} {od_check_many an_check_many : Option Addr} {sl_check_many : Array (Option Value)} {oc_check_many kV_check_many dc_check_many pm_check_many cd_check_many ct_check_many : Value} {od_check_place an_check_place : Option Addr} {sl_check_place : Array (Option Value)} {oc_check_place kV_check_place dc_check_place pm_check_place cd_check_place ct_check_place : Value} {od_check_key an_check_key : Option Addr} {sl_check_key : Array (Option Value)} {oc_check_key kV_check_key dc_check_key pm_check_key cd_check_key ct_check_key : Value} {od_row_of an_row_of : Option Addr} {sl_row_of : Array (Option Value)} {oc_row_of kV_row_of dc_row_of pm_row_of cd_row_of ct_row_of : Value} {od_check_different an_check_different : Option Addr} {sl_check_different : Array (Option Value)} {oc_check_different kV_check_different dc_check_different pm_check_different cd_check_different ct_check_different : Value} {od_t___init__ an_t___init__ : Option Addr} {sl_t___init__ : Array (Option Value)} {oc_t___init__  dc_t___init__ pm_t___init__ cd_t___init__ ct_t___init__ : Value} {od_t_of an_t_of : Option Addr} {sl_t_of : Array (Option Value)} {oc_t_of  dc_t_of pm_t_of cd_t_of ct_t_of : Value} {od_t___len__ an_t___len__ : Option Addr} {sl_t___len__ : Array (Option Value)} {oc_t___len__ kV_t___len__ dc_t___len__ pm_t___len__ cd_t___len__ ct_t___len__ : Value} {od_t___contains__ an_t___contains__ : Option Addr} {sl_t___contains__ : Array (Option Value)} {oc_t___contains__ kV_t___contains__ dc_t___contains__ pm_t___contains__ cd_t___contains__ ct_t___contains__ : Value} {od_t___iter__ an_t___iter__ : Option Addr} {sl_t___iter__ : Array (Option Value)} {oc_t___iter__ kV_t___iter__ dc_t___iter__ pm_t___iter__ cd_t___iter__ ct_t___iter__ : Value} {od_t___getitem__ an_t___getitem__ : Option Addr} {sl_t___getitem__ : Array (Option Value)} {oc_t___getitem__ kV_t___getitem__ dc_t___getitem__ pm_t___getitem__ cd_t___getitem__ ct_t___getitem__ : Value} {od_t_parent an_t_parent : Option Addr} {sl_t_parent : Array (Option Value)} {oc_t_parent kV_t_parent dc_t_parent pm_t_parent cd_t_parent ct_t_parent : Value} {od_t_way_to an_t_way_to : Option Addr} {sl_t_way_to : Array (Option Value)} {oc_t_way_to kV_t_way_to dc_t_way_to pm_t_way_to cd_t_way_to ct_t_way_to : Value} {od_t_depth an_t_depth : Option Addr} {sl_t_depth : Array (Option Value)} {oc_t_depth kV_t_depth dc_t_depth pm_t_depth cd_t_depth ct_t_depth : Value} {od_t_subtree an_t_subtree : Option Addr} {sl_t_subtree : Array (Option Value)} {oc_t_subtree kV_t_subtree dc_t_subtree pm_t_subtree cd_t_subtree ct_t_subtree : Value} {od_is_heap an_is_heap : Option Addr} {sl_is_heap : Array (Option Value)} {oc_is_heap  dc_is_heap pm_is_heap cd_is_heap ct_is_heap : Value} {od_faults an_faults : Option Addr} {sl_faults : Array (Option Value)} {oc_faults  dc_faults pm_faults cd_faults ct_faults : Value} {od_heap_of an_heap_of : Option Addr} {sl_heap_of : Array (Option Value)} {oc_heap_of kV_heap_of dc_heap_of pm_heap_of cd_heap_of ct_heap_of : Value} {od_different_heap_of an_different_heap_of : Option Addr} {sl_different_heap_of : Array (Option Value)} {oc_different_heap_of kV_different_heap_of dc_different_heap_of pm_different_heap_of cd_different_heap_of ct_different_heap_of : Value} {od_z___init__ an_z___init__ : Option Addr} {sl_z___init__ : Array (Option Value)} {oc_z___init__ kV_z___init__ dc_z___init__ pm_z___init__ cd_z___init__ ct_z___init__ : Value} {od_sift_up an_sift_up : Option Addr} {sl_sift_up : Array (Option Value)} {oc_sift_up  dc_sift_up pm_sift_up cd_sift_up ct_sift_up : Value} {od_sift_down an_sift_down : Option Addr} {sl_sift_down : Array (Option Value)} {oc_sift_down  dc_sift_down pm_sift_down cd_sift_down ct_sift_down : Value} {od_least_child an_least_child : Option Addr} {sl_least_child : Array (Option Value)} {oc_least_child kV_least_child dc_least_child pm_least_child  ct_least_child : Value} {od_row_before an_row_before : Option Addr} {sl_row_before : Array (Option Value)} {oc_row_before kV_row_before dc_row_before pm_row_before cd_row_before ct_row_before : Value} {od_u___init__ an_u___init__ : Option Addr} {sl_u___init__ : Array (Option Value)} {oc_u___init__ kV_u___init__ dc_u___init__ pm_u___init__ cd_u___init__ ct_u___init__ : Value} {od_push an_push : Option Addr} {sl_push : Array (Option Value)} {oc_push  dc_push pm_push cd_push ct_push : Value} {od_take an_take : Option Addr} {sl_take : Array (Option Value)} {oc_take  dc_take pm_take cd_take ct_take : Value} {od_take_by_hole an_take_by_hole : Option Addr} {sl_take_by_hole : Array (Option Value)} {oc_take_by_hole  dc_take_by_hole pm_take_by_hole cd_take_by_hole ct_take_by_hole : Value} {od_put_for an_put_for : Option Addr} {sl_put_for : Array (Option Value)} {oc_put_for  dc_put_for pm_put_for cd_put_for ct_put_for : Value} {od_build an_build : Option Addr} {sl_build : Array (Option Value)} {oc_build  dc_build pm_build cd_build ct_build : Value} {od_filled_heap_of an_filled_heap_of : Option Addr} {sl_filled_heap_of : Array (Option Value)} {oc_filled_heap_of kV_filled_heap_of dc_filled_heap_of pm_filled_heap_of cd_filled_heap_of ct_filled_heap_of : Value} {od_check_filled an_check_filled : Option Addr} {sl_check_filled : Array (Option Value)} {oc_check_filled kV_check_filled dc_check_filled pm_check_filled cd_check_filled ct_check_filled : Value} {od_code an_code : Option Addr} {sl_code : Array (Option Value)} {oc_code  dc_code pm_code cd_code ct_code : Value} {od_decode an_decode : Option Addr} {sl_decode : Array (Option Value)} {oc_decode  dc_decode pm_decode cd_decode ct_decode : Value} {od_places_that_stop an_places_that_stop : Option Addr} {sl_places_that_stop : Array (Option Value)} {oc_places_that_stop kV_places_that_stop dc_places_that_stop pm_places_that_stop cd_places_that_stop ct_places_that_stop : Value} {od_check_stops an_check_stops : Option Addr} {sl_check_stops : Array (Option Value)} {oc_check_stops kV_check_stops dc_check_stops pm_check_stops cd_check_stops ct_check_stops : Value} {od_is_stop an_is_stop : Option Addr} {sl_is_stop : Array (Option Value)} {oc_is_stop kV_is_stop dc_is_stop pm_is_stop cd_is_stop ct_is_stop : Value} {od_row_with an_row_with : Option Addr} {sl_row_with : Array (Option Value)} {oc_row_with kV_row_with dc_row_with pm_row_with cd_row_with ct_row_with : Value} {od_way_down an_way_down : Option Addr} {sl_way_down : Array (Option Value)} {oc_way_down kV_way_down dc_way_down pm_way_down cd_way_down ct_way_down : Value} {od_fewest_changed an_fewest_changed : Option Addr} {sl_fewest_changed : Array (Option Value)} {oc_fewest_changed  dc_fewest_changed pm_fewest_changed cd_fewest_changed ct_fewest_changed : Value} {od_falling_chains an_falling_chains : Option Addr} {sl_falling_chains : Array (Option Value)} {oc_falling_chains kV_falling_chains dc_falling_chains pm_falling_chains cd_falling_chains ct_falling_chains : Value} {od_n___init__ an_n___init__ : Option Addr} {sl_n___init__ : Array (Option Value)} {oc_n___init__ kV_n___init__ dc_n___init__ pm_n___init__ cd_n___init__ ct_n___init__ : Value} {od_n___eq__ an_n___eq__ : Option Addr} {sl_n___eq__ : Array (Option Value)} {oc_n___eq__ kV_n___eq__ dc_n___eq__ pm_n___eq__ cd_n___eq__ ct_n___eq__ : Value} {od_y___init__ an_y___init__ : Option Addr} {sl_y___init__ : Array (Option Value)} {oc_y___init__ kV_y___init__ dc_y___init__ pm_y___init__ cd_y___init__ ct_y___init__ : Value} {od_undo_push an_undo_push : Option Addr} {sl_undo_push : Array (Option Value)} {oc_undo_push  dc_undo_push pm_undo_push  ct_undo_push : Value} {od_last_places an_last_places : Option Addr} {sl_last_places : Array (Option Value)} {oc_last_places  dc_last_places pm_last_places cd_last_places ct_last_places : Value} {od_last_way an_last_way : Option Addr} {sl_last_way : Array (Option Value)} {oc_last_way kV_last_way dc_last_way pm_last_way cd_last_way ct_last_way : Value} {od_heap_and_way_below an_heap_and_way_below : Option Addr} {sl_heap_and_way_below : Array (Option Value)} {oc_heap_and_way_below kV_heap_and_way_below dc_heap_and_way_below pm_heap_and_way_below cd_heap_and_way_below ct_heap_and_way_below : Value} {od_q___init__ an_q___init__ : Option Addr} {sl_q___init__ : Array (Option Value)} {oc_q___init__ kV_q___init__ dc_q___init__ pm_q___init__ cd_q___init__ ct_q___init__ : Value} {od_v___init__ an_v___init__ : Option Addr} {sl_v___init__ : Array (Option Value)} {oc_v___init__ kV_v___init__ dc_v___init__ pm_v___init__ cd_v___init__ ct_v___init__ : Value} {od_undo_take an_undo_take : Option Addr} {sl_undo_take : Array (Option Value)} {oc_undo_take  dc_undo_take pm_undo_take cd_undo_take ct_undo_take : Value} {od_places_behind an_places_behind : Option Addr} {sl_places_behind : Array (Option Value)} {oc_places_behind  dc_places_behind pm_places_behind cd_places_behind ct_places_behind : Value} {od_heap_with_room an_heap_with_room : Option Addr} {sl_heap_with_room : Array (Option Value)} {oc_heap_with_room kV_heap_with_room dc_heap_with_room pm_heap_with_room cd_heap_with_room ct_heap_with_room : Value} {od_heap_after an_heap_after : Option Addr} {sl_heap_after : Array (Option Value)} {oc_heap_after kV_heap_after dc_heap_after pm_heap_after cd_heap_after ct_heap_after : Value} {od_place_over_next an_place_over_next : Option Addr} {sl_place_over_next : Array (Option Value)} {oc_place_over_next kV_place_over_next dc_place_over_next pm_place_over_next cd_place_over_next ct_place_over_next : Value} {od__law_number an__law_number : Option Addr} {sl__law_number : Array (Option Value)} {oc__law_number kV__law_number dc__law_number pm__law_number cd__law_number ct__law_number : Value} {od__law_take an__law_take : Option Addr} {sl__law_take : Array (Option Value)} {oc__law_take kV__law_take dc__law_take pm__law_take cd__law_take ct__law_take : Value} {od__law_pick an__law_pick : Option Addr} {sl__law_pick : Array (Option Value)} {oc__law_pick kV__law_pick dc__law_pick pm__law_pick cd__law_pick ct__law_pick : Value} {od__law_arms an__law_arms : Option Addr} {sl__law_arms : Array (Option Value)} {oc__law_arms kV__law_arms dc__law_arms pm__law_arms cd__law_arms ct__law_arms : Value} {od__law_undone_right an__law_undone_right : Option Addr} {sl__law_undone_right : Array (Option Value)} {oc__law_undone_right kV__law_undone_right dc__law_undone_right pm__law_undone_right cd__law_undone_right ct__law_undone_right : Value} {od__law_done an__law_done : Option Addr} {sl__law_done : Array (Option Value)} {oc__law_done kV__law_done dc__law_done pm__law_done cd__law_done ct__law_done : Value} {od_law an_law : Option Addr} {sl_law : Array (Option Value)} {oc_law kV_law dc_law pm_law cd_law ct_law : Value}
    (hfa : mg "law" = some (.ref fa))
    (aC : PySem.W.nsIn K mainGlobals "Tree" = some (some (.ref C)))
    (aCS : PySem.W.nsIn K mainGlobals "Sift" = some (some (.ref CS)))
    (aCB : PySem.W.nsIn K mainGlobals "Built" = some (some (.ref CB)))
    (aCU : PySem.W.nsIn K mainGlobals "Undone" = some (some (.ref CU)))
    (aCY : PySem.W.nsIn K mainGlobals "Stuck" = some (some (.ref CY)))
    (aCQ : PySem.W.nsIn K mainGlobals "Before" = some (some (.ref CQ)))
    (aCV : PySem.W.nsIn K mainGlobals "Over" = some (some (.ref CV)))
    (a_is_integer : PySem.W.nsIn K mainGlobals "is_integer" = some (some (.ref f_is_integer)))
    (l_is_integer : K.lookup f_is_integer = some ⟨oc_is_integer, od_is_integer, .func (PySem.W.fnOf "is_integer" "is_integer" (defArgs s_is_integer) (defBody s_is_integer) (defScope s_is_integer) .none kV_is_integer dc_is_integer pm_is_integer an_is_integer cd_is_integer ct_is_integer), sl_is_integer⟩)
    (c_is_integer : PySem.W.codeIn K cd_is_integer "is_integer" = true)
    (k_is_integer : PySem.W.keepIn K (.ref f_is_integer) = true)
    (a_is_integer_from : PySem.W.nsIn K mainGlobals "is_integer_from" = some (some (.ref f_is_integer_from)))
    (l_is_integer_from : K.lookup f_is_integer_from = some ⟨oc_is_integer_from, od_is_integer_from, .func (PySem.W.fnOf "is_integer_from" "is_integer_from" (defArgs s_is_integer_from) (defBody s_is_integer_from) (defScope s_is_integer_from) .none kV_is_integer_from dc_is_integer_from pm_is_integer_from an_is_integer_from cd_is_integer_from ct_is_integer_from), sl_is_integer_from⟩)
    (c_is_integer_from : PySem.W.codeIn K cd_is_integer_from "is_integer_from" = true)
    (k_is_integer_from : PySem.W.keepIn K (.ref f_is_integer_from) = true)
    (a_is_key : PySem.W.nsIn K mainGlobals "is_key" = some (some (.ref f_is_key)))
    (l_is_key : K.lookup f_is_key = some ⟨oc_is_key, od_is_key, .func (PySem.W.fnOf "is_key" "is_key" (defArgs s_is_key) (defBody s_is_key) (defScope s_is_key) .none kV_is_key dc_is_key pm_is_key an_is_key cd_is_key ct_is_key), sl_is_key⟩)
    (c_is_key : PySem.W.codeIn K cd_is_key "is_key" = true)
    (k_is_key : PySem.W.keepIn K (.ref f_is_key) = true)
    (a_check_arms : PySem.W.nsIn K mainGlobals "check_arms" = some (some (.ref f_check_arms)))
    (l_check_arms : K.lookup f_check_arms = some ⟨oc_check_arms, od_check_arms, .func (PySem.W.fnOf "check_arms" "check_arms" (defArgs s_check_arms) (defBody s_check_arms) (defScope s_check_arms) .none kV_check_arms dc_check_arms pm_check_arms an_check_arms cd_check_arms ct_check_arms), sl_check_arms⟩)
    (c_check_arms : PySem.W.codeIn K cd_check_arms "check_arms" = true)
    (k_check_arms : PySem.W.keepIn K (.ref f_check_arms) = true)
    (a_check_many : PySem.W.nsIn K mainGlobals "check_many" = some (some (.ref f_check_many)))
    (l_check_many : K.lookup f_check_many = some ⟨oc_check_many, od_check_many, .func (PySem.W.fnOf "check_many" "check_many" (defArgs s_check_many) (defBody s_check_many) (defScope s_check_many) .none kV_check_many dc_check_many pm_check_many an_check_many cd_check_many ct_check_many), sl_check_many⟩)
    (c_check_many : PySem.W.codeIn K cd_check_many "check_many" = true)
    (k_check_many : PySem.W.keepIn K (.ref f_check_many) = true)
    (a_check_place : PySem.W.nsIn K mainGlobals "check_place" = some (some (.ref f_check_place)))
    (l_check_place : K.lookup f_check_place = some ⟨oc_check_place, od_check_place, .func (PySem.W.fnOf "check_place" "check_place" (defArgs s_check_place) (defBody s_check_place) (defScope s_check_place) .none kV_check_place dc_check_place pm_check_place an_check_place cd_check_place ct_check_place), sl_check_place⟩)
    (c_check_place : PySem.W.codeIn K cd_check_place "check_place" = true)
    (k_check_place : PySem.W.keepIn K (.ref f_check_place) = true)
    (a_check_key : PySem.W.nsIn K mainGlobals "check_key" = some (some (.ref f_check_key)))
    (l_check_key : K.lookup f_check_key = some ⟨oc_check_key, od_check_key, .func (PySem.W.fnOf "check_key" "check_key" (defArgs s_check_key) (defBody s_check_key) (defScope s_check_key) .none kV_check_key dc_check_key pm_check_key an_check_key cd_check_key ct_check_key), sl_check_key⟩)
    (c_check_key : PySem.W.codeIn K cd_check_key "check_key" = true)
    (k_check_key : PySem.W.keepIn K (.ref f_check_key) = true)
    (a_row_of : PySem.W.nsIn K mainGlobals "row_of" = some (some (.ref f_row_of)))
    (l_row_of : K.lookup f_row_of = some ⟨oc_row_of, od_row_of, .func (PySem.W.fnOf "row_of" "row_of" (defArgs s_row_of) (defBody s_row_of) (defScope s_row_of) .none kV_row_of dc_row_of pm_row_of an_row_of cd_row_of ct_row_of), sl_row_of⟩)
    (c_row_of : PySem.W.codeIn K cd_row_of "row_of" = true)
    (k_row_of : PySem.W.keepIn K (.ref f_row_of) = true)
    (a_check_different : PySem.W.nsIn K mainGlobals "check_different" = some (some (.ref f_check_different)))
    (l_check_different : K.lookup f_check_different = some ⟨oc_check_different, od_check_different, .func (PySem.W.fnOf "check_different" "check_different" (defArgs s_check_different) (defBody s_check_different) (defScope s_check_different) .none kV_check_different dc_check_different pm_check_different an_check_different cd_check_different ct_check_different), sl_check_different⟩)
    (c_check_different : PySem.W.codeIn K cd_check_different "check_different" = true)
    (k_check_different : PySem.W.keepIn K (.ref f_check_different) = true)
    (a_t___init__ : PySem.W.findIn K (.ref C) "__init__" = some (some (.ref f_t___init__)))
    (i_t___init__ : PySem.W.isFn K (.ref f_t___init__) = true)
    (l_t___init__ : K.lookup f_t___init__ = some ⟨oc_t___init__, od_t___init__, .func (PySem.W.fnOf "__init__" "Tree.__init__" (defArgs s_t___init__) (defBody s_t___init__) (defScope s_t___init__) .none (.ref D_t___init__) dc_t___init__ pm_t___init__ an_t___init__ cd_t___init__ ct_t___init__), sl_t___init__⟩)
    (c_t___init__ : PySem.W.codeIn K cd_t___init__ "Tree.__init__" = true)
    (k_t___init__ : PySem.W.keepIn K (.ref f_t___init__) = true)
    {tk_t___init__ : Tok}
    (w_t___init__ : PySem.W.nsIn K D_t___init__ "arms" = some (some (.int 2 tk_t___init__)))
    (a_t_of : PySem.W.findCls K (.ref C) (.type "type") "of" = some (.get (.builtin "classmethod.__get__") (.ref po) .none (.ref C)))
    {rest_of : List Value}
    (r_t_of : PySem.W.recIn K po "classmethod" = some (.ref f_t_of :: rest_of))
    (n_t_of : PySem.W.fnIn K f_t_of = true)
    (l_t_of : K.lookup f_t_of = some ⟨oc_t_of, od_t_of, .func (PySem.W.fnOf "of" "Tree.of" (defArgs s_t_of) (defBody s_t_of) (defScope s_t_of) .none (.ref D_t_of) dc_t_of pm_t_of an_t_of cd_t_of ct_t_of), sl_t_of⟩)
    (c_t_of : PySem.W.codeIn K cd_t_of "Tree.of" = true)
    (k_t_of : PySem.W.keepIn K (.ref f_t_of) = true)
    {tk_t_of : Tok}
    (w_t_of : PySem.W.nsIn K D_t_of "arms" = some (some (.int 2 tk_t_of)))
    (a_t___len__ : PySem.W.findIn K (.ref C) "__len__" = some (some (.ref f_t___len__)))
    (i_t___len__ : PySem.W.isFn K (.ref f_t___len__) = true)
    (n_t___len__ : PySem.W.fnIn K f_t___len__ = true)
    (l_t___len__ : K.lookup f_t___len__ = some ⟨oc_t___len__, od_t___len__, .func (PySem.W.fnOf "__len__" "Tree.__len__" (defArgs s_t___len__) (defBody s_t___len__) (defScope s_t___len__) .none kV_t___len__ dc_t___len__ pm_t___len__ an_t___len__ cd_t___len__ ct_t___len__), sl_t___len__⟩)
    (c_t___len__ : PySem.W.codeIn K cd_t___len__ "Tree.__len__" = true)
    (k_t___len__ : PySem.W.keepIn K (.ref f_t___len__) = true)
    (a_t___contains__ : PySem.W.findIn K (.ref C) "__contains__" = some (some (.ref f_t___contains__)))
    (i_t___contains__ : PySem.W.isFn K (.ref f_t___contains__) = true)
    (n_t___contains__ : PySem.W.fnIn K f_t___contains__ = true)
    (l_t___contains__ : K.lookup f_t___contains__ = some ⟨oc_t___contains__, od_t___contains__, .func (PySem.W.fnOf "__contains__" "Tree.__contains__" (defArgs s_t___contains__) (defBody s_t___contains__) (defScope s_t___contains__) .none kV_t___contains__ dc_t___contains__ pm_t___contains__ an_t___contains__ cd_t___contains__ ct_t___contains__), sl_t___contains__⟩)
    (c_t___contains__ : PySem.W.codeIn K cd_t___contains__ "Tree.__contains__" = true)
    (k_t___contains__ : PySem.W.keepIn K (.ref f_t___contains__) = true)
    (a_t___iter__ : PySem.W.findIn K (.ref C) "__iter__" = some (some (.ref f_t___iter__)))
    (i_t___iter__ : PySem.W.isFn K (.ref f_t___iter__) = true)
    (n_t___iter__ : PySem.W.fnIn K f_t___iter__ = true)
    (l_t___iter__ : K.lookup f_t___iter__ = some ⟨oc_t___iter__, od_t___iter__, .func (PySem.W.fnOf "__iter__" "Tree.__iter__" (defArgs s_t___iter__) (defBody s_t___iter__) (defScope s_t___iter__) .none kV_t___iter__ dc_t___iter__ pm_t___iter__ an_t___iter__ cd_t___iter__ ct_t___iter__), sl_t___iter__⟩)
    (c_t___iter__ : PySem.W.codeIn K cd_t___iter__ "Tree.__iter__" = true)
    (k_t___iter__ : PySem.W.keepIn K (.ref f_t___iter__) = true)
    (a_t___getitem__ : PySem.W.findIn K (.ref C) "__getitem__" = some (some (.ref f_t___getitem__)))
    (i_t___getitem__ : PySem.W.isFn K (.ref f_t___getitem__) = true)
    (n_t___getitem__ : PySem.W.fnIn K f_t___getitem__ = true)
    (l_t___getitem__ : K.lookup f_t___getitem__ = some ⟨oc_t___getitem__, od_t___getitem__, .func (PySem.W.fnOf "__getitem__" "Tree.__getitem__" (defArgs s_t___getitem__) (defBody s_t___getitem__) (defScope s_t___getitem__) .none kV_t___getitem__ dc_t___getitem__ pm_t___getitem__ an_t___getitem__ cd_t___getitem__ ct_t___getitem__), sl_t___getitem__⟩)
    (c_t___getitem__ : PySem.W.codeIn K cd_t___getitem__ "Tree.__getitem__" = true)
    (k_t___getitem__ : PySem.W.keepIn K (.ref f_t___getitem__) = true)
    (a_t_parent : PySem.W.findIn K (.ref C) "parent" = some (some (.ref f_t_parent)))
    (i_t_parent : PySem.W.isFn K (.ref f_t_parent) = true)
    (l_t_parent : K.lookup f_t_parent = some ⟨oc_t_parent, od_t_parent, .func (PySem.W.fnOf "parent" "Tree.parent" (defArgs s_t_parent) (defBody s_t_parent) (defScope s_t_parent) .none kV_t_parent dc_t_parent pm_t_parent an_t_parent cd_t_parent ct_t_parent), sl_t_parent⟩)
    (c_t_parent : PySem.W.codeIn K cd_t_parent "Tree.parent" = true)
    (k_t_parent : PySem.W.keepIn K (.ref f_t_parent) = true)
    (a_t_way_to : PySem.W.findIn K (.ref C) "way_to" = some (some (.ref f_t_way_to)))
    (i_t_way_to : PySem.W.isFn K (.ref f_t_way_to) = true)
    (l_t_way_to : K.lookup f_t_way_to = some ⟨oc_t_way_to, od_t_way_to, .func (PySem.W.fnOf "way_to" "Tree.way_to" (defArgs s_t_way_to) (defBody s_t_way_to) (defScope s_t_way_to) .none kV_t_way_to dc_t_way_to pm_t_way_to an_t_way_to cd_t_way_to ct_t_way_to), sl_t_way_to⟩)
    (c_t_way_to : PySem.W.codeIn K cd_t_way_to "Tree.way_to" = true)
    (k_t_way_to : PySem.W.keepIn K (.ref f_t_way_to) = true)
    (a_t_depth : PySem.W.findIn K (.ref C) "depth" = some (some (.ref f_t_depth)))
    (i_t_depth : PySem.W.isFn K (.ref f_t_depth) = true)
    (l_t_depth : K.lookup f_t_depth = some ⟨oc_t_depth, od_t_depth, .func (PySem.W.fnOf "depth" "Tree.depth" (defArgs s_t_depth) (defBody s_t_depth) (defScope s_t_depth) .none kV_t_depth dc_t_depth pm_t_depth an_t_depth cd_t_depth ct_t_depth), sl_t_depth⟩)
    (c_t_depth : PySem.W.codeIn K cd_t_depth "Tree.depth" = true)
    (k_t_depth : PySem.W.keepIn K (.ref f_t_depth) = true)
    (a_t_subtree : PySem.W.findIn K (.ref C) "subtree" = some (some (.ref f_t_subtree)))
    (i_t_subtree : PySem.W.isFn K (.ref f_t_subtree) = true)
    (l_t_subtree : K.lookup f_t_subtree = some ⟨oc_t_subtree, od_t_subtree, .func (PySem.W.fnOf "subtree" "Tree.subtree" (defArgs s_t_subtree) (defBody s_t_subtree) (defScope s_t_subtree) .none kV_t_subtree dc_t_subtree pm_t_subtree an_t_subtree cd_t_subtree ct_t_subtree), sl_t_subtree⟩)
    (c_t_subtree : PySem.W.codeIn K cd_t_subtree "Tree.subtree" = true)
    (k_t_subtree : PySem.W.keepIn K (.ref f_t_subtree) = true)
    (a_is_heap : PySem.W.nsIn K mainGlobals "is_heap" = some (some (.ref f_is_heap)))
    (l_is_heap : K.lookup f_is_heap = some ⟨oc_is_heap, od_is_heap, .func (PySem.W.fnOf "is_heap" "is_heap" (defArgs s_is_heap) (defBody s_is_heap) (defScope s_is_heap) .none (.ref D_is_heap) dc_is_heap pm_is_heap an_is_heap cd_is_heap ct_is_heap), sl_is_heap⟩)
    (c_is_heap : PySem.W.codeIn K cd_is_heap "is_heap" = true)
    (k_is_heap : PySem.W.keepIn K (.ref f_is_heap) = true)
    {tk_is_heap : Tok}
    (w_is_heap : PySem.W.nsIn K D_is_heap "arms" = some (some (.int 2 tk_is_heap)))
    (a_faults : PySem.W.nsIn K mainGlobals "faults" = some (some (.ref f_faults)))
    (l_faults : K.lookup f_faults = some ⟨oc_faults, od_faults, .func (PySem.W.fnOf "faults" "faults" (defArgs s_faults) (defBody s_faults) (defScope s_faults) .none (.ref D_faults) dc_faults pm_faults an_faults cd_faults ct_faults), sl_faults⟩)
    (c_faults : PySem.W.codeIn K cd_faults "faults" = true)
    (k_faults : PySem.W.keepIn K (.ref f_faults) = true)
    {tk_faults : Tok}
    (w_faults : PySem.W.nsIn K D_faults "arms" = some (some (.int 2 tk_faults)))
    (a_heap_of : PySem.W.nsIn K mainGlobals "heap_of" = some (some (.ref f_heap_of)))
    (l_heap_of : K.lookup f_heap_of = some ⟨oc_heap_of, od_heap_of, .func (PySem.W.fnOf "heap_of" "heap_of" (defArgs s_heap_of) (defBody s_heap_of) (defScope s_heap_of) .none kV_heap_of dc_heap_of pm_heap_of an_heap_of cd_heap_of ct_heap_of), sl_heap_of⟩)
    (c_heap_of : PySem.W.codeIn K cd_heap_of "heap_of" = true)
    (k_heap_of : PySem.W.keepIn K (.ref f_heap_of) = true)
    (a_different_heap_of : PySem.W.nsIn K mainGlobals "different_heap_of" = some (some (.ref f_different_heap_of)))
    (l_different_heap_of : K.lookup f_different_heap_of = some ⟨oc_different_heap_of, od_different_heap_of, .func (PySem.W.fnOf "different_heap_of" "different_heap_of" (defArgs s_different_heap_of) (defBody s_different_heap_of) (defScope s_different_heap_of) .none kV_different_heap_of dc_different_heap_of pm_different_heap_of an_different_heap_of cd_different_heap_of ct_different_heap_of), sl_different_heap_of⟩)
    (c_different_heap_of : PySem.W.codeIn K cd_different_heap_of "different_heap_of" = true)
    (k_different_heap_of : PySem.W.keepIn K (.ref f_different_heap_of) = true)
    (a_z___init__ : PySem.W.findIn K (.ref CS) "__init__" = some (some (.ref f_z___init__)))
    (i_z___init__ : PySem.W.isFn K (.ref f_z___init__) = true)
    (l_z___init__ : K.lookup f_z___init__ = some ⟨oc_z___init__, od_z___init__, .func (PySem.W.fnOf "__init__" "Sift.__init__" (defArgs s_z___init__) (defBody s_z___init__) (defScope s_z___init__) .none kV_z___init__ dc_z___init__ pm_z___init__ an_z___init__ cd_z___init__ ct_z___init__), sl_z___init__⟩)
    (c_z___init__ : PySem.W.codeIn K cd_z___init__ "Sift.__init__" = true)
    (k_z___init__ : PySem.W.keepIn K (.ref f_z___init__) = true)
    (a_sift_up : PySem.W.nsIn K mainGlobals "sift_up" = some (some (.ref f_sift_up)))
    (l_sift_up : K.lookup f_sift_up = some ⟨oc_sift_up, od_sift_up, .func (PySem.W.fnOf "sift_up" "sift_up" (defArgs s_sift_up) (defBody s_sift_up) (defScope s_sift_up) .none (.ref D_sift_up) dc_sift_up pm_sift_up an_sift_up cd_sift_up ct_sift_up), sl_sift_up⟩)
    (c_sift_up : PySem.W.codeIn K cd_sift_up "sift_up" = true)
    (k_sift_up : PySem.W.keepIn K (.ref f_sift_up) = true)
    {tk_sift_up : Tok}
    (w_sift_up : PySem.W.nsIn K D_sift_up "arms" = some (some (.int 2 tk_sift_up)))
    (a_sift_down : PySem.W.nsIn K mainGlobals "sift_down" = some (some (.ref f_sift_down)))
    (l_sift_down : K.lookup f_sift_down = some ⟨oc_sift_down, od_sift_down, .func (PySem.W.fnOf "sift_down" "sift_down" (defArgs s_sift_down) (defBody s_sift_down) (defScope s_sift_down) .none (.ref D_sift_down) dc_sift_down pm_sift_down an_sift_down cd_sift_down ct_sift_down), sl_sift_down⟩)
    (c_sift_down : PySem.W.codeIn K cd_sift_down "sift_down" = true)
    (k_sift_down : PySem.W.keepIn K (.ref f_sift_down) = true)
    {tk_sift_down : Tok}
    (w_sift_down : PySem.W.nsIn K D_sift_down "arms" = some (some (.int 2 tk_sift_down)))
    (a_least_child : PySem.W.nsIn K mainGlobals "least_child" = some (some (.ref f_least_child)))
    (l_least_child : K.lookup f_least_child = some ⟨oc_least_child, od_least_child, .func (PySem.W.fnOf "least_child" "least_child" (defArgs s_least_child) (defBody s_least_child) (defScope s_least_child) .none kV_least_child dc_least_child pm_least_child an_least_child (.ref cc_least_child) ct_least_child), sl_least_child⟩)
    (c_least_child : PySem.W.codeIn K (.ref cc_least_child) "least_child" = true)
    (k_least_child : PySem.W.keepIn K (.ref f_least_child) = true)
    (a_row_before : PySem.W.nsIn K mainGlobals "row_before" = some (some (.ref f_row_before)))
    (l_row_before : K.lookup f_row_before = some ⟨oc_row_before, od_row_before, .func (PySem.W.fnOf "row_before" "row_before" (defArgs s_row_before) (defBody s_row_before) (defScope s_row_before) .none kV_row_before dc_row_before pm_row_before an_row_before cd_row_before ct_row_before), sl_row_before⟩)
    (c_row_before : PySem.W.codeIn K cd_row_before "row_before" = true)
    (k_row_before : PySem.W.keepIn K (.ref f_row_before) = true)
    (a_u___init__ : PySem.W.findIn K (.ref CB) "__init__" = some (some (.ref f_u___init__)))
    (i_u___init__ : PySem.W.isFn K (.ref f_u___init__) = true)
    (l_u___init__ : K.lookup f_u___init__ = some ⟨oc_u___init__, od_u___init__, .func (PySem.W.fnOf "__init__" "Built.__init__" (defArgs s_u___init__) (defBody s_u___init__) (defScope s_u___init__) .none kV_u___init__ dc_u___init__ pm_u___init__ an_u___init__ cd_u___init__ ct_u___init__), sl_u___init__⟩)
    (c_u___init__ : PySem.W.codeIn K cd_u___init__ "Built.__init__" = true)
    (k_u___init__ : PySem.W.keepIn K (.ref f_u___init__) = true)
    (a_push : PySem.W.nsIn K mainGlobals "push" = some (some (.ref f_push)))
    (l_push : K.lookup f_push = some ⟨oc_push, od_push, .func (PySem.W.fnOf "push" "push" (defArgs s_push) (defBody s_push) (defScope s_push) .none (.ref D_push) dc_push pm_push an_push cd_push ct_push), sl_push⟩)
    (c_push : PySem.W.codeIn K cd_push "push" = true)
    (k_push : PySem.W.keepIn K (.ref f_push) = true)
    {tk_push : Tok}
    (w_push : PySem.W.nsIn K D_push "arms" = some (some (.int 2 tk_push)))
    (a_take : PySem.W.nsIn K mainGlobals "take" = some (some (.ref f_take)))
    (l_take : K.lookup f_take = some ⟨oc_take, od_take, .func (PySem.W.fnOf "take" "take" (defArgs s_take) (defBody s_take) (defScope s_take) .none (.ref D_take) dc_take pm_take an_take cd_take ct_take), sl_take⟩)
    (c_take : PySem.W.codeIn K cd_take "take" = true)
    (k_take : PySem.W.keepIn K (.ref f_take) = true)
    {tk_take : Tok}
    (w_take : PySem.W.nsIn K D_take "arms" = some (some (.int 2 tk_take)))
    (a_take_by_hole : PySem.W.nsIn K mainGlobals "take_by_hole" = some (some (.ref f_take_by_hole)))
    (l_take_by_hole : K.lookup f_take_by_hole = some ⟨oc_take_by_hole, od_take_by_hole, .func (PySem.W.fnOf "take_by_hole" "take_by_hole" (defArgs s_take_by_hole) (defBody s_take_by_hole) (defScope s_take_by_hole) .none (.ref D_take_by_hole) dc_take_by_hole pm_take_by_hole an_take_by_hole cd_take_by_hole ct_take_by_hole), sl_take_by_hole⟩)
    (c_take_by_hole : PySem.W.codeIn K cd_take_by_hole "take_by_hole" = true)
    (k_take_by_hole : PySem.W.keepIn K (.ref f_take_by_hole) = true)
    {tk_take_by_hole : Tok}
    (w_take_by_hole : PySem.W.nsIn K D_take_by_hole "arms" = some (some (.int 2 tk_take_by_hole)))
    (a_put_for : PySem.W.nsIn K mainGlobals "put_for" = some (some (.ref f_put_for)))
    (l_put_for : K.lookup f_put_for = some ⟨oc_put_for, od_put_for, .func (PySem.W.fnOf "put_for" "put_for" (defArgs s_put_for) (defBody s_put_for) (defScope s_put_for) .none (.ref D_put_for) dc_put_for pm_put_for an_put_for cd_put_for ct_put_for), sl_put_for⟩)
    (c_put_for : PySem.W.codeIn K cd_put_for "put_for" = true)
    (k_put_for : PySem.W.keepIn K (.ref f_put_for) = true)
    {tk_put_for : Tok}
    (w_put_for : PySem.W.nsIn K D_put_for "arms" = some (some (.int 2 tk_put_for)))
    (a_build : PySem.W.nsIn K mainGlobals "build" = some (some (.ref f_build)))
    (l_build : K.lookup f_build = some ⟨oc_build, od_build, .func (PySem.W.fnOf "build" "build" (defArgs s_build) (defBody s_build) (defScope s_build) .none (.ref D_build) dc_build pm_build an_build cd_build ct_build), sl_build⟩)
    (c_build : PySem.W.codeIn K cd_build "build" = true)
    (k_build : PySem.W.keepIn K (.ref f_build) = true)
    {tk_build : Tok}
    (w_build : PySem.W.nsIn K D_build "arms" = some (some (.int 2 tk_build)))
    (a_filled_heap_of : PySem.W.nsIn K mainGlobals "filled_heap_of" = some (some (.ref f_filled_heap_of)))
    (l_filled_heap_of : K.lookup f_filled_heap_of = some ⟨oc_filled_heap_of, od_filled_heap_of, .func (PySem.W.fnOf "filled_heap_of" "filled_heap_of" (defArgs s_filled_heap_of) (defBody s_filled_heap_of) (defScope s_filled_heap_of) .none kV_filled_heap_of dc_filled_heap_of pm_filled_heap_of an_filled_heap_of cd_filled_heap_of ct_filled_heap_of), sl_filled_heap_of⟩)
    (c_filled_heap_of : PySem.W.codeIn K cd_filled_heap_of "filled_heap_of" = true)
    (k_filled_heap_of : PySem.W.keepIn K (.ref f_filled_heap_of) = true)
    (a_check_filled : PySem.W.nsIn K mainGlobals "check_filled" = some (some (.ref f_check_filled)))
    (l_check_filled : K.lookup f_check_filled = some ⟨oc_check_filled, od_check_filled, .func (PySem.W.fnOf "check_filled" "check_filled" (defArgs s_check_filled) (defBody s_check_filled) (defScope s_check_filled) .none kV_check_filled dc_check_filled pm_check_filled an_check_filled cd_check_filled ct_check_filled), sl_check_filled⟩)
    (c_check_filled : PySem.W.codeIn K cd_check_filled "check_filled" = true)
    (k_check_filled : PySem.W.keepIn K (.ref f_check_filled) = true)
    (a_code : PySem.W.nsIn K mainGlobals "code" = some (some (.ref f_code)))
    (l_code : K.lookup f_code = some ⟨oc_code, od_code, .func (PySem.W.fnOf "code" "code" (defArgs s_code) (defBody s_code) (defScope s_code) .none (.ref D_code) dc_code pm_code an_code cd_code ct_code), sl_code⟩)
    (c_code : PySem.W.codeIn K cd_code "code" = true)
    (k_code : PySem.W.keepIn K (.ref f_code) = true)
    {tk_code : Tok}
    (w_code : PySem.W.nsIn K D_code "arms" = some (some (.int 2 tk_code)))
    (a_decode : PySem.W.nsIn K mainGlobals "decode" = some (some (.ref f_decode)))
    (l_decode : K.lookup f_decode = some ⟨oc_decode, od_decode, .func (PySem.W.fnOf "decode" "decode" (defArgs s_decode) (defBody s_decode) (defScope s_decode) .none (.ref D_decode) dc_decode pm_decode an_decode cd_decode ct_decode), sl_decode⟩)
    (c_decode : PySem.W.codeIn K cd_decode "decode" = true)
    (k_decode : PySem.W.keepIn K (.ref f_decode) = true)
    {tk_decode : Tok}
    (w_decode : PySem.W.nsIn K D_decode "arms" = some (some (.int 2 tk_decode)))
    (a_places_that_stop : PySem.W.nsIn K mainGlobals "places_that_stop" = some (some (.ref f_places_that_stop)))
    (l_places_that_stop : K.lookup f_places_that_stop = some ⟨oc_places_that_stop, od_places_that_stop, .func (PySem.W.fnOf "places_that_stop" "places_that_stop" (defArgs s_places_that_stop) (defBody s_places_that_stop) (defScope s_places_that_stop) .none kV_places_that_stop dc_places_that_stop pm_places_that_stop an_places_that_stop cd_places_that_stop ct_places_that_stop), sl_places_that_stop⟩)
    (c_places_that_stop : PySem.W.codeIn K cd_places_that_stop "places_that_stop" = true)
    (k_places_that_stop : PySem.W.keepIn K (.ref f_places_that_stop) = true)
    (a_check_stops : PySem.W.nsIn K mainGlobals "check_stops" = some (some (.ref f_check_stops)))
    (l_check_stops : K.lookup f_check_stops = some ⟨oc_check_stops, od_check_stops, .func (PySem.W.fnOf "check_stops" "check_stops" (defArgs s_check_stops) (defBody s_check_stops) (defScope s_check_stops) .none kV_check_stops dc_check_stops pm_check_stops an_check_stops cd_check_stops ct_check_stops), sl_check_stops⟩)
    (c_check_stops : PySem.W.codeIn K cd_check_stops "check_stops" = true)
    (k_check_stops : PySem.W.keepIn K (.ref f_check_stops) = true)
    (a_is_stop : PySem.W.nsIn K mainGlobals "is_stop" = some (some (.ref f_is_stop)))
    (l_is_stop : K.lookup f_is_stop = some ⟨oc_is_stop, od_is_stop, .func (PySem.W.fnOf "is_stop" "is_stop" (defArgs s_is_stop) (defBody s_is_stop) (defScope s_is_stop) .none kV_is_stop dc_is_stop pm_is_stop an_is_stop cd_is_stop ct_is_stop), sl_is_stop⟩)
    (c_is_stop : PySem.W.codeIn K cd_is_stop "is_stop" = true)
    (k_is_stop : PySem.W.keepIn K (.ref f_is_stop) = true)
    (a_row_with : PySem.W.nsIn K mainGlobals "row_with" = some (some (.ref f_row_with)))
    (l_row_with : K.lookup f_row_with = some ⟨oc_row_with, od_row_with, .func (PySem.W.fnOf "row_with" "row_with" (defArgs s_row_with) (defBody s_row_with) (defScope s_row_with) .none kV_row_with dc_row_with pm_row_with an_row_with cd_row_with ct_row_with), sl_row_with⟩)
    (c_row_with : PySem.W.codeIn K cd_row_with "row_with" = true)
    (k_row_with : PySem.W.keepIn K (.ref f_row_with) = true)
    (a_way_down : PySem.W.nsIn K mainGlobals "way_down" = some (some (.ref f_way_down)))
    (l_way_down : K.lookup f_way_down = some ⟨oc_way_down, od_way_down, .func (PySem.W.fnOf "way_down" "way_down" (defArgs s_way_down) (defBody s_way_down) (defScope s_way_down) .none kV_way_down dc_way_down pm_way_down an_way_down cd_way_down ct_way_down), sl_way_down⟩)
    (c_way_down : PySem.W.codeIn K cd_way_down "way_down" = true)
    (k_way_down : PySem.W.keepIn K (.ref f_way_down) = true)
    (a_fewest_changed : PySem.W.nsIn K mainGlobals "fewest_changed" = some (some (.ref f_fewest_changed)))
    (l_fewest_changed : K.lookup f_fewest_changed = some ⟨oc_fewest_changed, od_fewest_changed, .func (PySem.W.fnOf "fewest_changed" "fewest_changed" (defArgs s_fewest_changed) (defBody s_fewest_changed) (defScope s_fewest_changed) .none (.ref D_fewest_changed) dc_fewest_changed pm_fewest_changed an_fewest_changed cd_fewest_changed ct_fewest_changed), sl_fewest_changed⟩)
    (c_fewest_changed : PySem.W.codeIn K cd_fewest_changed "fewest_changed" = true)
    (k_fewest_changed : PySem.W.keepIn K (.ref f_fewest_changed) = true)
    {tk_fewest_changed : Tok}
    (w_fewest_changed : PySem.W.nsIn K D_fewest_changed "arms" = some (some (.int 2 tk_fewest_changed)))
    (a_falling_chains : PySem.W.nsIn K mainGlobals "falling_chains" = some (some (.ref f_falling_chains)))
    (l_falling_chains : K.lookup f_falling_chains = some ⟨oc_falling_chains, od_falling_chains, .func (PySem.W.fnOf "falling_chains" "falling_chains" (defArgs s_falling_chains) (defBody s_falling_chains) (defScope s_falling_chains) .none kV_falling_chains dc_falling_chains pm_falling_chains an_falling_chains cd_falling_chains ct_falling_chains), sl_falling_chains⟩)
    (c_falling_chains : PySem.W.codeIn K cd_falling_chains "falling_chains" = true)
    (k_falling_chains : PySem.W.keepIn K (.ref f_falling_chains) = true)
    (a_n___init__ : PySem.W.findIn K (.ref CU) "__init__" = some (some (.ref f_n___init__)))
    (i_n___init__ : PySem.W.isFn K (.ref f_n___init__) = true)
    (l_n___init__ : K.lookup f_n___init__ = some ⟨oc_n___init__, od_n___init__, .func (PySem.W.fnOf "__init__" "Undone.__init__" (defArgs s_n___init__) (defBody s_n___init__) (defScope s_n___init__) .none kV_n___init__ dc_n___init__ pm_n___init__ an_n___init__ cd_n___init__ ct_n___init__), sl_n___init__⟩)
    (c_n___init__ : PySem.W.codeIn K cd_n___init__ "Undone.__init__" = true)
    (k_n___init__ : PySem.W.keepIn K (.ref f_n___init__) = true)
    (a_n___eq__ : PySem.W.findIn K (.ref CU) "__eq__" = some (some (.ref f_n___eq__)))
    (i_n___eq__ : PySem.W.isFn K (.ref f_n___eq__) = true)
    (l_n___eq__ : K.lookup f_n___eq__ = some ⟨oc_n___eq__, od_n___eq__, .func (PySem.W.fnOf "__eq__" "Undone.__eq__" (defArgs s_n___eq__) (defBody s_n___eq__) (defScope s_n___eq__) .none kV_n___eq__ dc_n___eq__ pm_n___eq__ an_n___eq__ cd_n___eq__ ct_n___eq__), sl_n___eq__⟩)
    (c_n___eq__ : PySem.W.codeIn K cd_n___eq__ "Undone.__eq__" = true)
    (k_n___eq__ : PySem.W.keepIn K (.ref f_n___eq__) = true)
    (a_y___init__ : PySem.W.findIn K (.ref CY) "__init__" = some (some (.ref f_y___init__)))
    (i_y___init__ : PySem.W.isFn K (.ref f_y___init__) = true)
    (l_y___init__ : K.lookup f_y___init__ = some ⟨oc_y___init__, od_y___init__, .func (PySem.W.fnOf "__init__" "Stuck.__init__" (defArgs s_y___init__) (defBody s_y___init__) (defScope s_y___init__) .none kV_y___init__ dc_y___init__ pm_y___init__ an_y___init__ cd_y___init__ ct_y___init__), sl_y___init__⟩)
    (c_y___init__ : PySem.W.codeIn K cd_y___init__ "Stuck.__init__" = true)
    (k_y___init__ : PySem.W.keepIn K (.ref f_y___init__) = true)
    (a_undo_push : PySem.W.nsIn K mainGlobals "undo_push" = some (some (.ref f_undo_push)))
    (l_undo_push : K.lookup f_undo_push = some ⟨oc_undo_push, od_undo_push, .func (PySem.W.fnOf "undo_push" "undo_push" (defArgs s_undo_push) (defBody s_undo_push) (defScope s_undo_push) .none (.ref D_undo_push) dc_undo_push pm_undo_push an_undo_push (.ref cc_undo_push) ct_undo_push), sl_undo_push⟩)
    (c_undo_push : PySem.W.codeIn K (.ref cc_undo_push) "undo_push" = true)
    (k_undo_push : PySem.W.keepIn K (.ref f_undo_push) = true)
    {tk_undo_push : Tok}
    (w_undo_push : PySem.W.nsIn K D_undo_push "arms" = some (some (.int 2 tk_undo_push)))
    (a_last_places : PySem.W.nsIn K mainGlobals "last_places" = some (some (.ref f_last_places)))
    (l_last_places : K.lookup f_last_places = some ⟨oc_last_places, od_last_places, .func (PySem.W.fnOf "last_places" "last_places" (defArgs s_last_places) (defBody s_last_places) (defScope s_last_places) .none (.ref D_last_places) dc_last_places pm_last_places an_last_places cd_last_places ct_last_places), sl_last_places⟩)
    (c_last_places : PySem.W.codeIn K cd_last_places "last_places" = true)
    (k_last_places : PySem.W.keepIn K (.ref f_last_places) = true)
    {tk_last_places : Tok}
    (w_last_places : PySem.W.nsIn K D_last_places "arms" = some (some (.int 2 tk_last_places)))
    (a_last_way : PySem.W.nsIn K mainGlobals "last_way" = some (some (.ref f_last_way)))
    (l_last_way : K.lookup f_last_way = some ⟨oc_last_way, od_last_way, .func (PySem.W.fnOf "last_way" "last_way" (defArgs s_last_way) (defBody s_last_way) (defScope s_last_way) .none kV_last_way dc_last_way pm_last_way an_last_way cd_last_way ct_last_way), sl_last_way⟩)
    (c_last_way : PySem.W.codeIn K cd_last_way "last_way" = true)
    (k_last_way : PySem.W.keepIn K (.ref f_last_way) = true)
    (a_heap_and_way_below : PySem.W.nsIn K mainGlobals "heap_and_way_below" = some (some (.ref f_heap_and_way_below)))
    (l_heap_and_way_below : K.lookup f_heap_and_way_below = some ⟨oc_heap_and_way_below, od_heap_and_way_below, .func (PySem.W.fnOf "heap_and_way_below" "heap_and_way_below" (defArgs s_heap_and_way_below) (defBody s_heap_and_way_below) (defScope s_heap_and_way_below) .none kV_heap_and_way_below dc_heap_and_way_below pm_heap_and_way_below an_heap_and_way_below cd_heap_and_way_below ct_heap_and_way_below), sl_heap_and_way_below⟩)
    (c_heap_and_way_below : PySem.W.codeIn K cd_heap_and_way_below "heap_and_way_below" = true)
    (k_heap_and_way_below : PySem.W.keepIn K (.ref f_heap_and_way_below) = true)
    (a_q___init__ : PySem.W.findIn K (.ref CQ) "__init__" = some (some (.ref f_q___init__)))
    (i_q___init__ : PySem.W.isFn K (.ref f_q___init__) = true)
    (l_q___init__ : K.lookup f_q___init__ = some ⟨oc_q___init__, od_q___init__, .func (PySem.W.fnOf "__init__" "Before.__init__" (defArgs s_q___init__) (defBody s_q___init__) (defScope s_q___init__) .none kV_q___init__ dc_q___init__ pm_q___init__ an_q___init__ cd_q___init__ ct_q___init__), sl_q___init__⟩)
    (c_q___init__ : PySem.W.codeIn K cd_q___init__ "Before.__init__" = true)
    (k_q___init__ : PySem.W.keepIn K (.ref f_q___init__) = true)
    (a_v___init__ : PySem.W.findIn K (.ref CV) "__init__" = some (some (.ref f_v___init__)))
    (i_v___init__ : PySem.W.isFn K (.ref f_v___init__) = true)
    (l_v___init__ : K.lookup f_v___init__ = some ⟨oc_v___init__, od_v___init__, .func (PySem.W.fnOf "__init__" "Over.__init__" (defArgs s_v___init__) (defBody s_v___init__) (defScope s_v___init__) .none kV_v___init__ dc_v___init__ pm_v___init__ an_v___init__ cd_v___init__ ct_v___init__), sl_v___init__⟩)
    (c_v___init__ : PySem.W.codeIn K cd_v___init__ "Over.__init__" = true)
    (k_v___init__ : PySem.W.keepIn K (.ref f_v___init__) = true)
    (a_undo_take : PySem.W.nsIn K mainGlobals "undo_take" = some (some (.ref f_undo_take)))
    (l_undo_take : K.lookup f_undo_take = some ⟨oc_undo_take, od_undo_take, .func (PySem.W.fnOf "undo_take" "undo_take" (defArgs s_undo_take) (defBody s_undo_take) (defScope s_undo_take) .none (.ref D_undo_take) dc_undo_take pm_undo_take an_undo_take cd_undo_take ct_undo_take), sl_undo_take⟩)
    (c_undo_take : PySem.W.codeIn K cd_undo_take "undo_take" = true)
    (k_undo_take : PySem.W.keepIn K (.ref f_undo_take) = true)
    {tk_undo_take : Tok}
    (w_undo_take : PySem.W.nsIn K D_undo_take "arms" = some (some (.int 2 tk_undo_take)))
    (a_places_behind : PySem.W.nsIn K mainGlobals "places_behind" = some (some (.ref f_places_behind)))
    (l_places_behind : K.lookup f_places_behind = some ⟨oc_places_behind, od_places_behind, .func (PySem.W.fnOf "places_behind" "places_behind" (defArgs s_places_behind) (defBody s_places_behind) (defScope s_places_behind) .none (.ref D_places_behind) dc_places_behind pm_places_behind an_places_behind cd_places_behind ct_places_behind), sl_places_behind⟩)
    (c_places_behind : PySem.W.codeIn K cd_places_behind "places_behind" = true)
    (k_places_behind : PySem.W.keepIn K (.ref f_places_behind) = true)
    {tk_places_behind : Tok}
    (w_places_behind : PySem.W.nsIn K D_places_behind "arms" = some (some (.int 2 tk_places_behind)))
    (a_heap_with_room : PySem.W.nsIn K mainGlobals "heap_with_room" = some (some (.ref f_heap_with_room)))
    (l_heap_with_room : K.lookup f_heap_with_room = some ⟨oc_heap_with_room, od_heap_with_room, .func (PySem.W.fnOf "heap_with_room" "heap_with_room" (defArgs s_heap_with_room) (defBody s_heap_with_room) (defScope s_heap_with_room) .none kV_heap_with_room dc_heap_with_room pm_heap_with_room an_heap_with_room cd_heap_with_room ct_heap_with_room), sl_heap_with_room⟩)
    (c_heap_with_room : PySem.W.codeIn K cd_heap_with_room "heap_with_room" = true)
    (k_heap_with_room : PySem.W.keepIn K (.ref f_heap_with_room) = true)
    (a_heap_after : PySem.W.nsIn K mainGlobals "heap_after" = some (some (.ref f_heap_after)))
    (l_heap_after : K.lookup f_heap_after = some ⟨oc_heap_after, od_heap_after, .func (PySem.W.fnOf "heap_after" "heap_after" (defArgs s_heap_after) (defBody s_heap_after) (defScope s_heap_after) .none kV_heap_after dc_heap_after pm_heap_after an_heap_after cd_heap_after ct_heap_after), sl_heap_after⟩)
    (c_heap_after : PySem.W.codeIn K cd_heap_after "heap_after" = true)
    (k_heap_after : PySem.W.keepIn K (.ref f_heap_after) = true)
    (a_place_over_next : PySem.W.nsIn K mainGlobals "place_over_next" = some (some (.ref f_place_over_next)))
    (l_place_over_next : K.lookup f_place_over_next = some ⟨oc_place_over_next, od_place_over_next, .func (PySem.W.fnOf "place_over_next" "place_over_next" (defArgs s_place_over_next) (defBody s_place_over_next) (defScope s_place_over_next) .none kV_place_over_next dc_place_over_next pm_place_over_next an_place_over_next cd_place_over_next ct_place_over_next), sl_place_over_next⟩)
    (c_place_over_next : PySem.W.codeIn K cd_place_over_next "place_over_next" = true)
    (k_place_over_next : PySem.W.keepIn K (.ref f_place_over_next) = true)
    (a__law_number : PySem.W.nsIn K mainGlobals "_law_number" = some (some (.ref f__law_number)))
    (l__law_number : K.lookup f__law_number = some ⟨oc__law_number, od__law_number, .func (PySem.W.fnOf "_law_number" "_law_number" (defArgs s__law_number) (defBody s__law_number) (defScope s__law_number) .none kV__law_number dc__law_number pm__law_number an__law_number cd__law_number ct__law_number), sl__law_number⟩)
    (c__law_number : PySem.W.codeIn K cd__law_number "_law_number" = true)
    (k__law_number : PySem.W.keepIn K (.ref f__law_number) = true)
    (a__law_take : PySem.W.nsIn K mainGlobals "_law_take" = some (some (.ref f__law_take)))
    (l__law_take : K.lookup f__law_take = some ⟨oc__law_take, od__law_take, .func (PySem.W.fnOf "_law_take" "_law_take" (defArgs s__law_take) (defBody s__law_take) (defScope s__law_take) .none kV__law_take dc__law_take pm__law_take an__law_take cd__law_take ct__law_take), sl__law_take⟩)
    (c__law_take : PySem.W.codeIn K cd__law_take "_law_take" = true)
    (k__law_take : PySem.W.keepIn K (.ref f__law_take) = true)
    (a__law_pick : PySem.W.nsIn K mainGlobals "_law_pick" = some (some (.ref f__law_pick)))
    (l__law_pick : K.lookup f__law_pick = some ⟨oc__law_pick, od__law_pick, .func (PySem.W.fnOf "_law_pick" "_law_pick" (defArgs s__law_pick) (defBody s__law_pick) (defScope s__law_pick) .none kV__law_pick dc__law_pick pm__law_pick an__law_pick cd__law_pick ct__law_pick), sl__law_pick⟩)
    (c__law_pick : PySem.W.codeIn K cd__law_pick "_law_pick" = true)
    (k__law_pick : PySem.W.keepIn K (.ref f__law_pick) = true)
    (a__law_arms : PySem.W.nsIn K mainGlobals "_law_arms" = some (some (.ref f__law_arms)))
    (l__law_arms : K.lookup f__law_arms = some ⟨oc__law_arms, od__law_arms, .func (PySem.W.fnOf "_law_arms" "_law_arms" (defArgs s__law_arms) (defBody s__law_arms) (defScope s__law_arms) .none kV__law_arms dc__law_arms pm__law_arms an__law_arms cd__law_arms ct__law_arms), sl__law_arms⟩)
    (c__law_arms : PySem.W.codeIn K cd__law_arms "_law_arms" = true)
    (k__law_arms : PySem.W.keepIn K (.ref f__law_arms) = true)
    (a__law_undone_right : PySem.W.nsIn K mainGlobals "_law_undone_right" = some (some (.ref f__law_undone_right)))
    (l__law_undone_right : K.lookup f__law_undone_right = some ⟨oc__law_undone_right, od__law_undone_right, .func (PySem.W.fnOf "_law_undone_right" "_law_undone_right" (defArgs s__law_undone_right) (defBody s__law_undone_right) (defScope s__law_undone_right) .none kV__law_undone_right dc__law_undone_right pm__law_undone_right an__law_undone_right cd__law_undone_right ct__law_undone_right), sl__law_undone_right⟩)
    (c__law_undone_right : PySem.W.codeIn K cd__law_undone_right "_law_undone_right" = true)
    (k__law_undone_right : PySem.W.keepIn K (.ref f__law_undone_right) = true)
    (a__law_done : PySem.W.nsIn K mainGlobals "_law_done" = some (some (.ref f__law_done)))
    (l__law_done : K.lookup f__law_done = some ⟨oc__law_done, od__law_done, .func (PySem.W.fnOf "_law_done" "_law_done" (defArgs s__law_done) (defBody s__law_done) (defScope s__law_done) .none kV__law_done dc__law_done pm__law_done an__law_done cd__law_done ct__law_done), sl__law_done⟩)
    (c__law_done : PySem.W.codeIn K cd__law_done "_law_done" = true)
    (k__law_done : PySem.W.keepIn K (.ref f__law_done) = true)
    (a_law : PySem.W.nsIn K mainGlobals "law" = some (some (.ref f_law)))
    (l_law : K.lookup f_law = some ⟨oc_law, od_law, .func (PySem.W.fnOf "law" "law" (defArgs s_law) (defBody s_law) (defScope s_law) .none kV_law dc_law pm_law an_law cd_law ct_law), sl_law⟩)
    (c_law : PySem.W.codeIn K cd_law "law" = true)
    (k_law : PySem.W.keepIn K (.ref f_law) = true)
    (pne : (PP_least_child == PP_undo_push) = false)
    {tc_GREATEST_KEY : Tok}
    (q_GREATEST_KEY : PySem.W.nsIn K mainGlobals "GREATEST_KEY" = some (some (.int 1000000000 tc_GREATEST_KEY)))
    {tc_MOST_ARMS : Tok}
    (q_MOST_ARMS : PySem.W.nsIn K mainGlobals "MOST_ARMS" = some (some (.int 4 tc_MOST_ARMS)))
    {tc_MOST_PLACES : Tok}
    (q_MOST_PLACES : PySem.W.nsIn K mainGlobals "MOST_PLACES" = some (some (.int 12 tc_MOST_PLACES)))
    (z_bool : PySem.W.nsIn K mainGlobals "bool" = some none)
    (z_enumerate : PySem.W.nsIn K mainGlobals "enumerate" = some none)
    (z_int : PySem.W.nsIn K mainGlobals "int" = some none)
    (z_isinstance : PySem.W.nsIn K mainGlobals "isinstance" = some none)
    (z_iter : PySem.W.nsIn K mainGlobals "iter" = some none)
    (z_len : PySem.W.nsIn K mainGlobals "len" = some none)
    (z_list : PySem.W.nsIn K mainGlobals "list" = some none)
    (z_min : PySem.W.nsIn K mainGlobals "min" = some none)
    (z_range : PySem.W.nsIn K mainGlobals "range" = some none)
    (z_reversed : PySem.W.nsIn K mainGlobals "reversed" = some none)
    (z_set : PySem.W.nsIn K mainGlobals "set" = some none)
    (z_sorted : PySem.W.nsIn K mainGlobals "sorted" = some none)
    (z_sum : PySem.W.nsIn K mainGlobals "sum" = some none)
    (z_tuple : PySem.W.nsIn K mainGlobals "tuple" = some none)
    (z_zip : PySem.W.nsIn K mainGlobals "zip" = some none)
    (pg : PySem.W.plainGet K C Str.empty = true)
    (hd : PySem.W.hasDictIn K C = true)
    (po_ : PySem.W.plainOver K C = true)
    (sa : PySem.W.findIn K (.ref C) "__setattr__" = some (some (.builtin "object.__setattr__")))
    (na_nMany : PySem.W.findIn K (.ref C) "many" = some none)
    (na_nArms : PySem.W.findIn K (.ref C) "arms" = some none)
    (na_nPl : PySem.W.findIn K (.ref C) "_places" = some none)
    (mk : PySem.W.makesIn K C = true)
    (kc : PySem.W.keepIn K (.ref C) = true)
    (rd : PySem.W.readsIn K C (.type "type") = true)
    (ga : PySem.W.specialIn K (.ref C) "__getattribute__" = some (some (.builtin "type.__getattribute__")))
    (pgS : PySem.W.plainGet K CS Str.empty = true)
    (hdS : PySem.W.hasDictIn K CS = true)
    (po_S : PySem.W.plainOver K CS = true)
    (saS : PySem.W.findIn K (.ref CS) "__setattr__" = some (some (.builtin "object.__setattr__")))
    (na_nRow : PySem.W.findIn K (.ref CS) "row" = some none)
    (na_nWay : PySem.W.findIn K (.ref CS) "way" = some none)
    (na_nLooks : PySem.W.findIn K (.ref CS) "looks" = some none)
    (mkS : PySem.W.makesIn K CS = true)
    (kcS : PySem.W.keepIn K (.ref CS) = true)
    (pgB : PySem.W.plainGet K CB Str.empty = true)
    (hdB : PySem.W.hasDictIn K CB = true)
    (po_B : PySem.W.plainOver K CB = true)
    (saB : PySem.W.findIn K (.ref CB) "__setattr__" = some (some (.builtin "object.__setattr__")))
    (na_bRow : PySem.W.findIn K (.ref CB) "row" = some none)
    (na_bStops : PySem.W.findIn K (.ref CB) "stops" = some none)
    (na_bChanges : PySem.W.findIn K (.ref CB) "changes" = some none)
    (na_bLooks : PySem.W.findIn K (.ref CB) "looks" = some none)
    (mkB : PySem.W.makesIn K CB = true)
    (kcB : PySem.W.keepIn K (.ref CB) = true)
    (pgU : PySem.W.plainGet K CU Str.empty = true)
    (hdU : PySem.W.hasDictIn K CU = true)
    (po_U : PySem.W.plainOver K CU = true)
    (saU : PySem.W.findIn K (.ref CU) "__setattr__" = some (some (.builtin "object.__setattr__")))
    (na_uRow : PySem.W.findIn K (.ref CU) "row" = some none)
    (na_uKey : PySem.W.findIn K (.ref CU) "key" = some none)
    (mkU : PySem.W.makesIn K CU = true)
    (kcU : PySem.W.keepIn K (.ref CU) = true)
    (eneU : PySem.W.findIn K (.ref CU) "__ne__" = some (some (.builtin "object.__ne__")))
    (eobU : PySem.W.subIn K (.ref CU) (.type "object") = some true)
    (eniU : PySem.W.subIn K (.type "int") (.ref CU) = some false)
    (entU : PySem.W.subIn K (.type "tuple") (.ref CU) = some false)
    (kaU : PySem.W.findIn K (.ref CU) "__class__" = some (some (.builtin "object.__class__")))
    (knU : PySem.W.specialIn K (.builtin "object.__class__") "__get__" = some (some (.builtin "getset_descriptor.__get__")))
    (ktkU : PySem.W.takesIn K (.builtin "object.__class__") = some true)
    (kmU : PySem.W.mroIn K CU (.type "object") = some true)
    (kclU : PySem.W.isClsIn K CU = true)
    (ktyU : PySem.W.typeIn K (.ref CU) = some (.type "type"))
    (ensU_Stuck : PySem.W.subIn K (.ref CY) (.ref CU) = some false)
    (nesU_Stuck : (CY == CU) = false)
    (pgY : PySem.W.plainGet K CY Str.empty = true)
    (hdY : PySem.W.hasDictIn K CY = true)
    (po_Y : PySem.W.plainOver K CY = true)
    (saY : PySem.W.findIn K (.ref CY) "__setattr__" = some (some (.builtin "object.__setattr__")))
    (na_yPlace : PySem.W.findIn K (.ref CY) "place" = some none)
    (na_yOther : PySem.W.findIn K (.ref CY) "other" = some none)
    (mkY : PySem.W.makesIn K CY = true)
    (kcY : PySem.W.keepIn K (.ref CY) = true)
    (kaY : PySem.W.findIn K (.ref CY) "__class__" = some (some (.builtin "object.__class__")))
    (knY : PySem.W.specialIn K (.builtin "object.__class__") "__get__" = some (some (.builtin "getset_descriptor.__get__")))
    (ktkY : PySem.W.takesIn K (.builtin "object.__class__") = some true)
    (kmY : PySem.W.mroIn K CY (.type "object") = some true)
    (kclY : PySem.W.isClsIn K CY = true)
    (ktyY : PySem.W.typeIn K (.ref CY) = some (.type "type"))
    (ensY_Undone : PySem.W.subIn K (.ref CU) (.ref CY) = some false)
    (nesY_Undone : (CU == CY) = false)
    (pgQ : PySem.W.plainGet K CQ Str.empty = true)
    (hdQ : PySem.W.hasDictIn K CQ = true)
    (po_Q : PySem.W.plainOver K CQ = true)
    (saQ : PySem.W.findIn K (.ref CQ) "__setattr__" = some (some (.builtin "object.__setattr__")))
    (na_qRow : PySem.W.findIn K (.ref CQ) "row" = some none)
    (mkQ : PySem.W.makesIn K CQ = true)
    (kcQ : PySem.W.keepIn K (.ref CQ) = true)
    (pgV : PySem.W.plainGet K CV Str.empty = true)
    (hdV : PySem.W.hasDictIn K CV = true)
    (po_V : PySem.W.plainOver K CV = true)
    (saV : PySem.W.findIn K (.ref CV) "__setattr__" = some (some (.builtin "object.__setattr__")))
    (na_vPlace : PySem.W.findIn K (.ref CV) "place" = some none)
    (na_vKey : PySem.W.findIn K (.ref CV) "key" = some none)
    (mkV : PySem.W.makesIn K CV = true)
    (kcV : PySem.W.keepIn K (.ref CV) = true)
    (hT_least_child : h.get? PP_least_child = some (PySem.W.tabObj #[])) (hC_least_child : PySem.W.codeHdIn K cc_least_child PP_least_child = true) (hN_least_child : K.lookup PP_least_child = none)
    (hT_undo_push : h.get? PP_undo_push = some (PySem.W.tabObj #[])) (hC_undo_push : PySem.W.codeHdIn K cc_undo_push PP_undo_push = true) (hN_undo_push : K.lookup PP_undo_push = none)
    : LamX.LawAtS l w K CX0 16 63 "script" mg fa h := by
  have e := hfa.symm.trans (PySem.W.mg_of X G a_law)
  cases e
  let A : Ad := { f_is_integer := f_is_integer, d_is_integer := (PySem.W.fnOf "is_integer" "is_integer" (defArgs s_is_integer) (defBody s_is_integer) (defScope s_is_integer) .none kV_is_integer dc_is_integer pm_is_integer an_is_integer cd_is_integer ct_is_integer), f_is_integer_from := f_is_integer_from, d_is_integer_from := (PySem.W.fnOf "is_integer_from" "is_integer_from" (defArgs s_is_integer_from) (defBody s_is_integer_from) (defScope s_is_integer_from) .none kV_is_integer_from dc_is_integer_from pm_is_integer_from an_is_integer_from cd_is_integer_from ct_is_integer_from), f_is_key := f_is_key, d_is_key := (PySem.W.fnOf "is_key" "is_key" (defArgs s_is_key) (defBody s_is_key) (defScope s_is_key) .none kV_is_key dc_is_key pm_is_key an_is_key cd_is_key ct_is_key), f_check_arms := f_check_arms, d_check_arms := (PySem.W.fnOf "check_arms" "check_arms" (defArgs s_check_arms) (defBody s_check_arms) (defScope s_check_arms) .none kV_check_arms dc_check_arms pm_check_arms an_check_arms cd_check_arms ct_check_arms), f_check_many := f_check_many, d_check_many := (PySem.W.fnOf "check_many" "check_many" (defArgs s_check_many) (defBody s_check_many) (defScope s_check_many) .none kV_check_many dc_check_many pm_check_many an_check_many cd_check_many ct_check_many), f_check_place := f_check_place, d_check_place := (PySem.W.fnOf "check_place" "check_place" (defArgs s_check_place) (defBody s_check_place) (defScope s_check_place) .none kV_check_place dc_check_place pm_check_place an_check_place cd_check_place ct_check_place), f_check_key := f_check_key, d_check_key := (PySem.W.fnOf "check_key" "check_key" (defArgs s_check_key) (defBody s_check_key) (defScope s_check_key) .none kV_check_key dc_check_key pm_check_key an_check_key cd_check_key ct_check_key), f_row_of := f_row_of, d_row_of := (PySem.W.fnOf "row_of" "row_of" (defArgs s_row_of) (defBody s_row_of) (defScope s_row_of) .none kV_row_of dc_row_of pm_row_of an_row_of cd_row_of ct_row_of), f_check_different := f_check_different, d_check_different := (PySem.W.fnOf "check_different" "check_different" (defArgs s_check_different) (defBody s_check_different) (defScope s_check_different) .none kV_check_different dc_check_different pm_check_different an_check_different cd_check_different ct_check_different), f_t___init__ := f_t___init__, d_t___init__ := (PySem.W.fnOf "__init__" "Tree.__init__" (defArgs s_t___init__) (defBody s_t___init__) (defScope s_t___init__) .none (.ref D_t___init__) dc_t___init__ pm_t___init__ an_t___init__ cd_t___init__ ct_t___init__), f_t_of := f_t_of, d_t_of := (PySem.W.fnOf "of" "Tree.of" (defArgs s_t_of) (defBody s_t_of) (defScope s_t_of) .none (.ref D_t_of) dc_t_of pm_t_of an_t_of cd_t_of ct_t_of), f_t___len__ := f_t___len__, d_t___len__ := (PySem.W.fnOf "__len__" "Tree.__len__" (defArgs s_t___len__) (defBody s_t___len__) (defScope s_t___len__) .none kV_t___len__ dc_t___len__ pm_t___len__ an_t___len__ cd_t___len__ ct_t___len__), f_t___contains__ := f_t___contains__, d_t___contains__ := (PySem.W.fnOf "__contains__" "Tree.__contains__" (defArgs s_t___contains__) (defBody s_t___contains__) (defScope s_t___contains__) .none kV_t___contains__ dc_t___contains__ pm_t___contains__ an_t___contains__ cd_t___contains__ ct_t___contains__), f_t___iter__ := f_t___iter__, d_t___iter__ := (PySem.W.fnOf "__iter__" "Tree.__iter__" (defArgs s_t___iter__) (defBody s_t___iter__) (defScope s_t___iter__) .none kV_t___iter__ dc_t___iter__ pm_t___iter__ an_t___iter__ cd_t___iter__ ct_t___iter__), f_t___getitem__ := f_t___getitem__, d_t___getitem__ := (PySem.W.fnOf "__getitem__" "Tree.__getitem__" (defArgs s_t___getitem__) (defBody s_t___getitem__) (defScope s_t___getitem__) .none kV_t___getitem__ dc_t___getitem__ pm_t___getitem__ an_t___getitem__ cd_t___getitem__ ct_t___getitem__), f_t_parent := f_t_parent, d_t_parent := (PySem.W.fnOf "parent" "Tree.parent" (defArgs s_t_parent) (defBody s_t_parent) (defScope s_t_parent) .none kV_t_parent dc_t_parent pm_t_parent an_t_parent cd_t_parent ct_t_parent), f_t_way_to := f_t_way_to, d_t_way_to := (PySem.W.fnOf "way_to" "Tree.way_to" (defArgs s_t_way_to) (defBody s_t_way_to) (defScope s_t_way_to) .none kV_t_way_to dc_t_way_to pm_t_way_to an_t_way_to cd_t_way_to ct_t_way_to), f_t_depth := f_t_depth, d_t_depth := (PySem.W.fnOf "depth" "Tree.depth" (defArgs s_t_depth) (defBody s_t_depth) (defScope s_t_depth) .none kV_t_depth dc_t_depth pm_t_depth an_t_depth cd_t_depth ct_t_depth), f_t_subtree := f_t_subtree, d_t_subtree := (PySem.W.fnOf "subtree" "Tree.subtree" (defArgs s_t_subtree) (defBody s_t_subtree) (defScope s_t_subtree) .none kV_t_subtree dc_t_subtree pm_t_subtree an_t_subtree cd_t_subtree ct_t_subtree), f_is_heap := f_is_heap, d_is_heap := (PySem.W.fnOf "is_heap" "is_heap" (defArgs s_is_heap) (defBody s_is_heap) (defScope s_is_heap) .none (.ref D_is_heap) dc_is_heap pm_is_heap an_is_heap cd_is_heap ct_is_heap), f_faults := f_faults, d_faults := (PySem.W.fnOf "faults" "faults" (defArgs s_faults) (defBody s_faults) (defScope s_faults) .none (.ref D_faults) dc_faults pm_faults an_faults cd_faults ct_faults), f_heap_of := f_heap_of, d_heap_of := (PySem.W.fnOf "heap_of" "heap_of" (defArgs s_heap_of) (defBody s_heap_of) (defScope s_heap_of) .none kV_heap_of dc_heap_of pm_heap_of an_heap_of cd_heap_of ct_heap_of), f_different_heap_of := f_different_heap_of, d_different_heap_of := (PySem.W.fnOf "different_heap_of" "different_heap_of" (defArgs s_different_heap_of) (defBody s_different_heap_of) (defScope s_different_heap_of) .none kV_different_heap_of dc_different_heap_of pm_different_heap_of an_different_heap_of cd_different_heap_of ct_different_heap_of), f_z___init__ := f_z___init__, d_z___init__ := (PySem.W.fnOf "__init__" "Sift.__init__" (defArgs s_z___init__) (defBody s_z___init__) (defScope s_z___init__) .none kV_z___init__ dc_z___init__ pm_z___init__ an_z___init__ cd_z___init__ ct_z___init__), f_sift_up := f_sift_up, d_sift_up := (PySem.W.fnOf "sift_up" "sift_up" (defArgs s_sift_up) (defBody s_sift_up) (defScope s_sift_up) .none (.ref D_sift_up) dc_sift_up pm_sift_up an_sift_up cd_sift_up ct_sift_up), f_sift_down := f_sift_down, d_sift_down := (PySem.W.fnOf "sift_down" "sift_down" (defArgs s_sift_down) (defBody s_sift_down) (defScope s_sift_down) .none (.ref D_sift_down) dc_sift_down pm_sift_down an_sift_down cd_sift_down ct_sift_down), f_least_child := f_least_child, d_least_child := (PySem.W.fnOf "least_child" "least_child" (defArgs s_least_child) (defBody s_least_child) (defScope s_least_child) .none kV_least_child dc_least_child pm_least_child an_least_child (.ref cc_least_child) ct_least_child), f_row_before := f_row_before, d_row_before := (PySem.W.fnOf "row_before" "row_before" (defArgs s_row_before) (defBody s_row_before) (defScope s_row_before) .none kV_row_before dc_row_before pm_row_before an_row_before cd_row_before ct_row_before), f_u___init__ := f_u___init__, d_u___init__ := (PySem.W.fnOf "__init__" "Built.__init__" (defArgs s_u___init__) (defBody s_u___init__) (defScope s_u___init__) .none kV_u___init__ dc_u___init__ pm_u___init__ an_u___init__ cd_u___init__ ct_u___init__), f_push := f_push, d_push := (PySem.W.fnOf "push" "push" (defArgs s_push) (defBody s_push) (defScope s_push) .none (.ref D_push) dc_push pm_push an_push cd_push ct_push), f_take := f_take, d_take := (PySem.W.fnOf "take" "take" (defArgs s_take) (defBody s_take) (defScope s_take) .none (.ref D_take) dc_take pm_take an_take cd_take ct_take), f_take_by_hole := f_take_by_hole, d_take_by_hole := (PySem.W.fnOf "take_by_hole" "take_by_hole" (defArgs s_take_by_hole) (defBody s_take_by_hole) (defScope s_take_by_hole) .none (.ref D_take_by_hole) dc_take_by_hole pm_take_by_hole an_take_by_hole cd_take_by_hole ct_take_by_hole), f_put_for := f_put_for, d_put_for := (PySem.W.fnOf "put_for" "put_for" (defArgs s_put_for) (defBody s_put_for) (defScope s_put_for) .none (.ref D_put_for) dc_put_for pm_put_for an_put_for cd_put_for ct_put_for), f_build := f_build, d_build := (PySem.W.fnOf "build" "build" (defArgs s_build) (defBody s_build) (defScope s_build) .none (.ref D_build) dc_build pm_build an_build cd_build ct_build), f_filled_heap_of := f_filled_heap_of, d_filled_heap_of := (PySem.W.fnOf "filled_heap_of" "filled_heap_of" (defArgs s_filled_heap_of) (defBody s_filled_heap_of) (defScope s_filled_heap_of) .none kV_filled_heap_of dc_filled_heap_of pm_filled_heap_of an_filled_heap_of cd_filled_heap_of ct_filled_heap_of), f_check_filled := f_check_filled, d_check_filled := (PySem.W.fnOf "check_filled" "check_filled" (defArgs s_check_filled) (defBody s_check_filled) (defScope s_check_filled) .none kV_check_filled dc_check_filled pm_check_filled an_check_filled cd_check_filled ct_check_filled), f_code := f_code, d_code := (PySem.W.fnOf "code" "code" (defArgs s_code) (defBody s_code) (defScope s_code) .none (.ref D_code) dc_code pm_code an_code cd_code ct_code), f_decode := f_decode, d_decode := (PySem.W.fnOf "decode" "decode" (defArgs s_decode) (defBody s_decode) (defScope s_decode) .none (.ref D_decode) dc_decode pm_decode an_decode cd_decode ct_decode), f_places_that_stop := f_places_that_stop, d_places_that_stop := (PySem.W.fnOf "places_that_stop" "places_that_stop" (defArgs s_places_that_stop) (defBody s_places_that_stop) (defScope s_places_that_stop) .none kV_places_that_stop dc_places_that_stop pm_places_that_stop an_places_that_stop cd_places_that_stop ct_places_that_stop), f_check_stops := f_check_stops, d_check_stops := (PySem.W.fnOf "check_stops" "check_stops" (defArgs s_check_stops) (defBody s_check_stops) (defScope s_check_stops) .none kV_check_stops dc_check_stops pm_check_stops an_check_stops cd_check_stops ct_check_stops), f_is_stop := f_is_stop, d_is_stop := (PySem.W.fnOf "is_stop" "is_stop" (defArgs s_is_stop) (defBody s_is_stop) (defScope s_is_stop) .none kV_is_stop dc_is_stop pm_is_stop an_is_stop cd_is_stop ct_is_stop), f_row_with := f_row_with, d_row_with := (PySem.W.fnOf "row_with" "row_with" (defArgs s_row_with) (defBody s_row_with) (defScope s_row_with) .none kV_row_with dc_row_with pm_row_with an_row_with cd_row_with ct_row_with), f_way_down := f_way_down, d_way_down := (PySem.W.fnOf "way_down" "way_down" (defArgs s_way_down) (defBody s_way_down) (defScope s_way_down) .none kV_way_down dc_way_down pm_way_down an_way_down cd_way_down ct_way_down), f_fewest_changed := f_fewest_changed, d_fewest_changed := (PySem.W.fnOf "fewest_changed" "fewest_changed" (defArgs s_fewest_changed) (defBody s_fewest_changed) (defScope s_fewest_changed) .none (.ref D_fewest_changed) dc_fewest_changed pm_fewest_changed an_fewest_changed cd_fewest_changed ct_fewest_changed), f_falling_chains := f_falling_chains, d_falling_chains := (PySem.W.fnOf "falling_chains" "falling_chains" (defArgs s_falling_chains) (defBody s_falling_chains) (defScope s_falling_chains) .none kV_falling_chains dc_falling_chains pm_falling_chains an_falling_chains cd_falling_chains ct_falling_chains), f_n___init__ := f_n___init__, d_n___init__ := (PySem.W.fnOf "__init__" "Undone.__init__" (defArgs s_n___init__) (defBody s_n___init__) (defScope s_n___init__) .none kV_n___init__ dc_n___init__ pm_n___init__ an_n___init__ cd_n___init__ ct_n___init__), f_n___eq__ := f_n___eq__, d_n___eq__ := (PySem.W.fnOf "__eq__" "Undone.__eq__" (defArgs s_n___eq__) (defBody s_n___eq__) (defScope s_n___eq__) .none kV_n___eq__ dc_n___eq__ pm_n___eq__ an_n___eq__ cd_n___eq__ ct_n___eq__), f_y___init__ := f_y___init__, d_y___init__ := (PySem.W.fnOf "__init__" "Stuck.__init__" (defArgs s_y___init__) (defBody s_y___init__) (defScope s_y___init__) .none kV_y___init__ dc_y___init__ pm_y___init__ an_y___init__ cd_y___init__ ct_y___init__), f_undo_push := f_undo_push, d_undo_push := (PySem.W.fnOf "undo_push" "undo_push" (defArgs s_undo_push) (defBody s_undo_push) (defScope s_undo_push) .none (.ref D_undo_push) dc_undo_push pm_undo_push an_undo_push (.ref cc_undo_push) ct_undo_push), f_last_places := f_last_places, d_last_places := (PySem.W.fnOf "last_places" "last_places" (defArgs s_last_places) (defBody s_last_places) (defScope s_last_places) .none (.ref D_last_places) dc_last_places pm_last_places an_last_places cd_last_places ct_last_places), f_last_way := f_last_way, d_last_way := (PySem.W.fnOf "last_way" "last_way" (defArgs s_last_way) (defBody s_last_way) (defScope s_last_way) .none kV_last_way dc_last_way pm_last_way an_last_way cd_last_way ct_last_way), f_heap_and_way_below := f_heap_and_way_below, d_heap_and_way_below := (PySem.W.fnOf "heap_and_way_below" "heap_and_way_below" (defArgs s_heap_and_way_below) (defBody s_heap_and_way_below) (defScope s_heap_and_way_below) .none kV_heap_and_way_below dc_heap_and_way_below pm_heap_and_way_below an_heap_and_way_below cd_heap_and_way_below ct_heap_and_way_below), f_q___init__ := f_q___init__, d_q___init__ := (PySem.W.fnOf "__init__" "Before.__init__" (defArgs s_q___init__) (defBody s_q___init__) (defScope s_q___init__) .none kV_q___init__ dc_q___init__ pm_q___init__ an_q___init__ cd_q___init__ ct_q___init__), f_v___init__ := f_v___init__, d_v___init__ := (PySem.W.fnOf "__init__" "Over.__init__" (defArgs s_v___init__) (defBody s_v___init__) (defScope s_v___init__) .none kV_v___init__ dc_v___init__ pm_v___init__ an_v___init__ cd_v___init__ ct_v___init__), f_undo_take := f_undo_take, d_undo_take := (PySem.W.fnOf "undo_take" "undo_take" (defArgs s_undo_take) (defBody s_undo_take) (defScope s_undo_take) .none (.ref D_undo_take) dc_undo_take pm_undo_take an_undo_take cd_undo_take ct_undo_take), f_places_behind := f_places_behind, d_places_behind := (PySem.W.fnOf "places_behind" "places_behind" (defArgs s_places_behind) (defBody s_places_behind) (defScope s_places_behind) .none (.ref D_places_behind) dc_places_behind pm_places_behind an_places_behind cd_places_behind ct_places_behind), f_heap_with_room := f_heap_with_room, d_heap_with_room := (PySem.W.fnOf "heap_with_room" "heap_with_room" (defArgs s_heap_with_room) (defBody s_heap_with_room) (defScope s_heap_with_room) .none kV_heap_with_room dc_heap_with_room pm_heap_with_room an_heap_with_room cd_heap_with_room ct_heap_with_room), f_heap_after := f_heap_after, d_heap_after := (PySem.W.fnOf "heap_after" "heap_after" (defArgs s_heap_after) (defBody s_heap_after) (defScope s_heap_after) .none kV_heap_after dc_heap_after pm_heap_after an_heap_after cd_heap_after ct_heap_after), f_place_over_next := f_place_over_next, d_place_over_next := (PySem.W.fnOf "place_over_next" "place_over_next" (defArgs s_place_over_next) (defBody s_place_over_next) (defScope s_place_over_next) .none kV_place_over_next dc_place_over_next pm_place_over_next an_place_over_next cd_place_over_next ct_place_over_next), f__law_number := f__law_number, d__law_number := (PySem.W.fnOf "_law_number" "_law_number" (defArgs s__law_number) (defBody s__law_number) (defScope s__law_number) .none kV__law_number dc__law_number pm__law_number an__law_number cd__law_number ct__law_number), f__law_take := f__law_take, d__law_take := (PySem.W.fnOf "_law_take" "_law_take" (defArgs s__law_take) (defBody s__law_take) (defScope s__law_take) .none kV__law_take dc__law_take pm__law_take an__law_take cd__law_take ct__law_take), f__law_pick := f__law_pick, d__law_pick := (PySem.W.fnOf "_law_pick" "_law_pick" (defArgs s__law_pick) (defBody s__law_pick) (defScope s__law_pick) .none kV__law_pick dc__law_pick pm__law_pick an__law_pick cd__law_pick ct__law_pick), f__law_arms := f__law_arms, d__law_arms := (PySem.W.fnOf "_law_arms" "_law_arms" (defArgs s__law_arms) (defBody s__law_arms) (defScope s__law_arms) .none kV__law_arms dc__law_arms pm__law_arms an__law_arms cd__law_arms ct__law_arms), f__law_undone_right := f__law_undone_right, d__law_undone_right := (PySem.W.fnOf "_law_undone_right" "_law_undone_right" (defArgs s__law_undone_right) (defBody s__law_undone_right) (defScope s__law_undone_right) .none kV__law_undone_right dc__law_undone_right pm__law_undone_right an__law_undone_right cd__law_undone_right ct__law_undone_right), f__law_done := f__law_done, d__law_done := (PySem.W.fnOf "_law_done" "_law_done" (defArgs s__law_done) (defBody s__law_done) (defScope s__law_done) .none kV__law_done dc__law_done pm__law_done an__law_done cd__law_done ct__law_done), f_law := fa, d_law := (PySem.W.fnOf "law" "law" (defArgs s_law) (defBody s_law) (defScope s_law) .none kV_law dc_law pm_law an_law cd_law ct_law), C := C, CS := CS, CB := CB, CU := CU, CY := CY, CQ := CQ, CV := CV, po := po, c_least_child := cc_least_child, P_least_child := PP_least_child, c_undo_push := cc_undo_push, P_undo_push := PP_undo_push }
  have T : Tx K mg A := {
    F_is_integer := (fun_mk (st := s_is_integer) l_is_integer c_is_integer k_is_integer)
    m_is_integer := PySem.W.mg_of X G a_is_integer
    F_is_integer_from := (fun_mk (st := s_is_integer_from) l_is_integer_from c_is_integer_from k_is_integer_from)
    m_is_integer_from := PySem.W.mg_of X G a_is_integer_from
    F_is_key := (fun_mk (st := s_is_key) l_is_key c_is_key k_is_key)
    m_is_key := PySem.W.mg_of X G a_is_key
    F_check_arms := (fun_mk (st := s_check_arms) l_check_arms c_check_arms k_check_arms)
    m_check_arms := PySem.W.mg_of X G a_check_arms
    F_check_many := (fun_mk (st := s_check_many) l_check_many c_check_many k_check_many)
    m_check_many := PySem.W.mg_of X G a_check_many
    F_check_place := (fun_mk (st := s_check_place) l_check_place c_check_place k_check_place)
    m_check_place := PySem.W.mg_of X G a_check_place
    F_check_key := (fun_mk (st := s_check_key) l_check_key c_check_key k_check_key)
    m_check_key := PySem.W.mg_of X G a_check_key
    F_row_of := (fun_mk (st := s_row_of) l_row_of c_row_of k_row_of)
    m_row_of := PySem.W.mg_of X G a_row_of
    F_check_different := (fun_mk (st := s_check_different) l_check_different c_check_different k_check_different)
    m_check_different := PySem.W.mg_of X G a_check_different
    F_t___init__ := ⟨⟨_, _, _, _, _, _, _, _, _, _, rfl, l_t___init__, c_t___init__, .inl ⟨rfl, rfl⟩, .inr ⟨_, rfl, fun q hq => by rw [List.mem_singleton.mp hq]; exact ⟨_, w_t___init__, relI _ _⟩⟩⟩, k_t___init__⟩
    F_t_of := ⟨⟨_, _, _, _, _, _, _, _, _, _, rfl, l_t_of, c_t_of, .inl ⟨rfl, rfl⟩, .inr ⟨_, rfl, fun q hq => by rw [List.mem_singleton.mp hq]; exact ⟨_, w_t_of, relI _ _⟩⟩⟩, k_t_of⟩
    F_t___len__ := (fun_mk (st := s_t___len__) l_t___len__ c_t___len__ k_t___len__)
    D_t___len__ := ⟨a_t___len__, i_t___len__, n_t___len__⟩
    F_t___contains__ := (fun_mk (st := s_t___contains__) l_t___contains__ c_t___contains__ k_t___contains__)
    D_t___contains__ := ⟨a_t___contains__, i_t___contains__, n_t___contains__⟩
    F_t___iter__ := (fun_mk (st := s_t___iter__) l_t___iter__ c_t___iter__ k_t___iter__)
    D_t___iter__ := ⟨a_t___iter__, i_t___iter__, n_t___iter__⟩
    F_t___getitem__ := (fun_mk (st := s_t___getitem__) l_t___getitem__ c_t___getitem__ k_t___getitem__)
    D_t___getitem__ := ⟨a_t___getitem__, i_t___getitem__, n_t___getitem__⟩
    F_t_parent := (fun_mk (st := s_t_parent) l_t_parent c_t_parent k_t_parent)
    M_t_parent := ⟨a_t_parent, i_t_parent, k_t_parent⟩
    F_t_way_to := (fun_mk (st := s_t_way_to) l_t_way_to c_t_way_to k_t_way_to)
    M_t_way_to := ⟨a_t_way_to, i_t_way_to, k_t_way_to⟩
    F_t_depth := (fun_mk (st := s_t_depth) l_t_depth c_t_depth k_t_depth)
    M_t_depth := ⟨a_t_depth, i_t_depth, k_t_depth⟩
    F_t_subtree := (fun_mk (st := s_t_subtree) l_t_subtree c_t_subtree k_t_subtree)
    M_t_subtree := ⟨a_t_subtree, i_t_subtree, k_t_subtree⟩
    F_is_heap := ⟨⟨_, _, _, _, _, _, _, _, _, _, rfl, l_is_heap, c_is_heap, .inl ⟨rfl, rfl⟩, .inr ⟨_, rfl, fun q hq => by rw [List.mem_singleton.mp hq]; exact ⟨_, w_is_heap, relI _ _⟩⟩⟩, k_is_heap⟩
    m_is_heap := PySem.W.mg_of X G a_is_heap
    F_faults := ⟨⟨_, _, _, _, _, _, _, _, _, _, rfl, l_faults, c_faults, .inl ⟨rfl, rfl⟩, .inr ⟨_, rfl, fun q hq => by rw [List.mem_singleton.mp hq]; exact ⟨_, w_faults, relI _ _⟩⟩⟩, k_faults⟩
    m_faults := PySem.W.mg_of X G a_faults
    F_heap_of := (fun_mk (st := s_heap_of) l_heap_of c_heap_of k_heap_of)
    m_heap_of := PySem.W.mg_of X G a_heap_of
    F_different_heap_of := (fun_mk (st := s_different_heap_of) l_different_heap_of c_different_heap_of k_different_heap_of)
    m_different_heap_of := PySem.W.mg_of X G a_different_heap_of
    F_z___init__ := (fun_mk (st := s_z___init__) l_z___init__ c_z___init__ k_z___init__)
    F_sift_up := ⟨⟨_, _, _, _, _, _, _, _, _, _, rfl, l_sift_up, c_sift_up, .inl ⟨rfl, rfl⟩, .inr ⟨_, rfl, fun q hq => by rw [List.mem_singleton.mp hq]; exact ⟨_, w_sift_up, relI _ _⟩⟩⟩, k_sift_up⟩
    m_sift_up := PySem.W.mg_of X G a_sift_up
    F_sift_down := ⟨⟨_, _, _, _, _, _, _, _, _, _, rfl, l_sift_down, c_sift_down, .inl ⟨rfl, rfl⟩, .inr ⟨_, rfl, fun q hq => by rw [List.mem_singleton.mp hq]; exact ⟨_, w_sift_down, relI _ _⟩⟩⟩, k_sift_down⟩
    m_sift_down := PySem.W.mg_of X G a_sift_down
    L_least_child := ⟨_, _, _, _, _, _, _, _, rfl, l_least_child, c_least_child⟩
    F_least_child := (fun_mk (st := s_least_child) l_least_child c_least_child k_least_child)
    m_least_child := PySem.W.mg_of X G a_least_child
    F_row_before := (fun_mk (st := s_row_before) l_row_before c_row_before k_row_before)
    m_row_before := PySem.W.mg_of X G a_row_before
    F_u___init__ := (fun_mk (st := s_u___init__) l_u___init__ c_u___init__ k_u___init__)
    F_push := ⟨⟨_, _, _, _, _, _, _, _, _, _, rfl, l_push, c_push, .inl ⟨rfl, rfl⟩, .inr ⟨_, rfl, fun q hq => by rw [List.mem_singleton.mp hq]; exact ⟨_, w_push, relI _ _⟩⟩⟩, k_push⟩
    m_push := PySem.W.mg_of X G a_push
    F_take := ⟨⟨_, _, _, _, _, _, _, _, _, _, rfl, l_take, c_take, .inl ⟨rfl, rfl⟩, .inr ⟨_, rfl, fun q hq => by rw [List.mem_singleton.mp hq]; exact ⟨_, w_take, relI _ _⟩⟩⟩, k_take⟩
    m_take := PySem.W.mg_of X G a_take
    F_take_by_hole := ⟨⟨_, _, _, _, _, _, _, _, _, _, rfl, l_take_by_hole, c_take_by_hole, .inl ⟨rfl, rfl⟩, .inr ⟨_, rfl, fun q hq => by rw [List.mem_singleton.mp hq]; exact ⟨_, w_take_by_hole, relI _ _⟩⟩⟩, k_take_by_hole⟩
    m_take_by_hole := PySem.W.mg_of X G a_take_by_hole
    F_put_for := ⟨⟨_, _, _, _, _, _, _, _, _, _, rfl, l_put_for, c_put_for, .inl ⟨rfl, rfl⟩, .inr ⟨_, rfl, fun q hq => by rw [List.mem_singleton.mp hq]; exact ⟨_, w_put_for, relI _ _⟩⟩⟩, k_put_for⟩
    m_put_for := PySem.W.mg_of X G a_put_for
    F_build := ⟨⟨_, _, _, _, _, _, _, _, _, _, rfl, l_build, c_build, .inl ⟨rfl, rfl⟩, .inr ⟨_, rfl, fun q hq => by rw [List.mem_singleton.mp hq]; exact ⟨_, w_build, relI _ _⟩⟩⟩, k_build⟩
    m_build := PySem.W.mg_of X G a_build
    F_filled_heap_of := (fun_mk (st := s_filled_heap_of) l_filled_heap_of c_filled_heap_of k_filled_heap_of)
    m_filled_heap_of := PySem.W.mg_of X G a_filled_heap_of
    F_check_filled := (fun_mk (st := s_check_filled) l_check_filled c_check_filled k_check_filled)
    m_check_filled := PySem.W.mg_of X G a_check_filled
    F_code := ⟨⟨_, _, _, _, _, _, _, _, _, _, rfl, l_code, c_code, .inl ⟨rfl, rfl⟩, .inr ⟨_, rfl, fun q hq => by rw [List.mem_singleton.mp hq]; exact ⟨_, w_code, relI _ _⟩⟩⟩, k_code⟩
    m_code := PySem.W.mg_of X G a_code
    F_decode := ⟨⟨_, _, _, _, _, _, _, _, _, _, rfl, l_decode, c_decode, .inl ⟨rfl, rfl⟩, .inr ⟨_, rfl, fun q hq => by rw [List.mem_singleton.mp hq]; exact ⟨_, w_decode, relI _ _⟩⟩⟩, k_decode⟩
    m_decode := PySem.W.mg_of X G a_decode
    F_places_that_stop := (fun_mk (st := s_places_that_stop) l_places_that_stop c_places_that_stop k_places_that_stop)
    m_places_that_stop := PySem.W.mg_of X G a_places_that_stop
    F_check_stops := (fun_mk (st := s_check_stops) l_check_stops c_check_stops k_check_stops)
    m_check_stops := PySem.W.mg_of X G a_check_stops
    F_is_stop := (fun_mk (st := s_is_stop) l_is_stop c_is_stop k_is_stop)
    m_is_stop := PySem.W.mg_of X G a_is_stop
    F_row_with := (fun_mk (st := s_row_with) l_row_with c_row_with k_row_with)
    m_row_with := PySem.W.mg_of X G a_row_with
    F_way_down := (fun_mk (st := s_way_down) l_way_down c_way_down k_way_down)
    m_way_down := PySem.W.mg_of X G a_way_down
    F_fewest_changed := ⟨⟨_, _, _, _, _, _, _, _, _, _, rfl, l_fewest_changed, c_fewest_changed, .inl ⟨rfl, rfl⟩, .inr ⟨_, rfl, fun q hq => by rw [List.mem_singleton.mp hq]; exact ⟨_, w_fewest_changed, relI _ _⟩⟩⟩, k_fewest_changed⟩
    m_fewest_changed := PySem.W.mg_of X G a_fewest_changed
    F_falling_chains := (fun_mk (st := s_falling_chains) l_falling_chains c_falling_chains k_falling_chains)
    m_falling_chains := PySem.W.mg_of X G a_falling_chains
    F_n___init__ := (fun_mk (st := s_n___init__) l_n___init__ c_n___init__ k_n___init__)
    F_n___eq__ := (fun_mk (st := s_n___eq__) l_n___eq__ c_n___eq__ k_n___eq__)
    F_y___init__ := (fun_mk (st := s_y___init__) l_y___init__ c_y___init__ k_y___init__)
    L_undo_push := ⟨_, _, _, _, _, _, _, _, rfl, l_undo_push, c_undo_push⟩
    F_undo_push := ⟨⟨_, _, _, _, _, _, _, _, _, _, rfl, l_undo_push, c_undo_push, .inl ⟨rfl, rfl⟩, .inr ⟨_, rfl, fun q hq => by rw [List.mem_singleton.mp hq]; exact ⟨_, w_undo_push, relI _ _⟩⟩⟩, k_undo_push⟩
    m_undo_push := PySem.W.mg_of X G a_undo_push
    F_last_places := ⟨⟨_, _, _, _, _, _, _, _, _, _, rfl, l_last_places, c_last_places, .inl ⟨rfl, rfl⟩, .inr ⟨_, rfl, fun q hq => by rw [List.mem_singleton.mp hq]; exact ⟨_, w_last_places, relI _ _⟩⟩⟩, k_last_places⟩
    m_last_places := PySem.W.mg_of X G a_last_places
    F_last_way := (fun_mk (st := s_last_way) l_last_way c_last_way k_last_way)
    m_last_way := PySem.W.mg_of X G a_last_way
    F_heap_and_way_below := (fun_mk (st := s_heap_and_way_below) l_heap_and_way_below c_heap_and_way_below k_heap_and_way_below)
    m_heap_and_way_below := PySem.W.mg_of X G a_heap_and_way_below
    F_q___init__ := (fun_mk (st := s_q___init__) l_q___init__ c_q___init__ k_q___init__)
    F_v___init__ := (fun_mk (st := s_v___init__) l_v___init__ c_v___init__ k_v___init__)
    F_undo_take := ⟨⟨_, _, _, _, _, _, _, _, _, _, rfl, l_undo_take, c_undo_take, .inl ⟨rfl, rfl⟩, .inr ⟨_, rfl, fun q hq => by rw [List.mem_singleton.mp hq]; exact ⟨_, w_undo_take, relI _ _⟩⟩⟩, k_undo_take⟩
    m_undo_take := PySem.W.mg_of X G a_undo_take
    F_places_behind := ⟨⟨_, _, _, _, _, _, _, _, _, _, rfl, l_places_behind, c_places_behind, .inl ⟨rfl, rfl⟩, .inr ⟨_, rfl, fun q hq => by rw [List.mem_singleton.mp hq]; exact ⟨_, w_places_behind, relI _ _⟩⟩⟩, k_places_behind⟩
    m_places_behind := PySem.W.mg_of X G a_places_behind
    F_heap_with_room := (fun_mk (st := s_heap_with_room) l_heap_with_room c_heap_with_room k_heap_with_room)
    m_heap_with_room := PySem.W.mg_of X G a_heap_with_room
    F_heap_after := (fun_mk (st := s_heap_after) l_heap_after c_heap_after k_heap_after)
    m_heap_after := PySem.W.mg_of X G a_heap_after
    F_place_over_next := (fun_mk (st := s_place_over_next) l_place_over_next c_place_over_next k_place_over_next)
    m_place_over_next := PySem.W.mg_of X G a_place_over_next
    F__law_number := (fun_mk (st := s__law_number) l__law_number c__law_number k__law_number)
    m__law_number := PySem.W.mg_of X G a__law_number
    F__law_take := (fun_mk (st := s__law_take) l__law_take c__law_take k__law_take)
    m__law_take := PySem.W.mg_of X G a__law_take
    F__law_pick := (fun_mk (st := s__law_pick) l__law_pick c__law_pick k__law_pick)
    m__law_pick := PySem.W.mg_of X G a__law_pick
    F__law_arms := (fun_mk (st := s__law_arms) l__law_arms c__law_arms k__law_arms)
    m__law_arms := PySem.W.mg_of X G a__law_arms
    F__law_undone_right := (fun_mk (st := s__law_undone_right) l__law_undone_right c__law_undone_right k__law_undone_right)
    m__law_undone_right := PySem.W.mg_of X G a__law_undone_right
    F__law_done := (fun_mk (st := s__law_done) l__law_done c__law_done k__law_done)
    m__law_done := PySem.W.mg_of X G a__law_done
    F_law := (fun_mk (st := s_law) l_law c_law k_law)
    m_law := PySem.W.mg_of X G a_law
    pne := beq_eq_false_iff_ne.mp pne
    c_GREATEST_KEY := .inr ⟨_, PySem.W.mg_of X G q_GREATEST_KEY⟩
    c_MOST_ARMS := .inr ⟨_, PySem.W.mg_of X G q_MOST_ARMS⟩
    c_MOST_PLACES := .inr ⟨_, PySem.W.mg_of X G q_MOST_PLACES⟩
    g_bool := PySem.W.mg_none_of X G z_bool
    g_enumerate := PySem.W.mg_none_of X G z_enumerate
    g_int := PySem.W.mg_none_of X G z_int
    g_isinstance := PySem.W.mg_none_of X G z_isinstance
    g_iter := PySem.W.mg_none_of X G z_iter
    g_len := PySem.W.mg_none_of X G z_len
    g_list := PySem.W.mg_none_of X G z_list
    g_min := PySem.W.mg_none_of X G z_min
    g_range := PySem.W.mg_none_of X G z_range
    g_reversed := PySem.W.mg_none_of X G z_reversed
    g_set := PySem.W.mg_none_of X G z_set
    g_sorted := PySem.W.mg_none_of X G z_sorted
    g_sum := PySem.W.mg_none_of X G z_sum
    g_tuple := PySem.W.mg_none_of X G z_tuple
    g_zip := PySem.W.mg_none_of X G z_zip
    cT := ⟨pg, hd, po_, sa⟩
    nMany := na_nMany
    nArms := na_nArms
    nPl := na_nPl
    mC := PySem.W.mg_of X G aC
    mkC := ⟨mk, a_t___init__, i_t___init__, kc⟩
    cr := ⟨rd, ga⟩
    cof := ⟨a_t_of, ⟨_, r_t_of⟩, n_t_of⟩
    cTS := ⟨pgS, hdS, po_S, saS⟩
    nRow := na_nRow
    nWay := na_nWay
    nLooks := na_nLooks
    mCS := PySem.W.mg_of X G aCS
    mkCS := ⟨mkS, a_z___init__, i_z___init__, kcS⟩
    cTB := ⟨pgB, hdB, po_B, saB⟩
    bRow := na_bRow
    bStops := na_bStops
    bChanges := na_bChanges
    bLooks := na_bLooks
    mCB := PySem.W.mg_of X G aCB
    mkCB := ⟨mkB, a_u___init__, i_u___init__, kcB⟩
    cTU := ⟨pgU, hdU, po_U, saU⟩
    uRow := na_uRow
    uKey := na_uKey
    mCU := PySem.W.mg_of X G aCU
    mkCU := ⟨mkU, a_n___init__, i_n___init__, kcU⟩
    eqcU := ⟨a_n___eq__, i_n___eq__, eneU, eobU, eniU, entU⟩
    kaU := kaU
    knU := knU
    ktkU := ktkU
    kmU := kmU
    kiU_int := kit_no kclU ktyU eniU
    kiU_tuple := kit_no kclU ktyU entU
    nfU_CY := by unfold PySem.W.notFirst; rw [ensU_Stuck]; simp
    kiU_CY := kit_no2 kclU ktyU ensU_Stuck nesU_Stuck
    cTY := ⟨pgY, hdY, po_Y, saY⟩
    yPlace := na_yPlace
    yOther := na_yOther
    mCY := PySem.W.mg_of X G aCY
    mkCY := ⟨mkY, a_y___init__, i_y___init__, kcY⟩
    kaY := kaY
    knY := knY
    ktkY := ktkY
    kmY := kmY
    kiY_CU := kit_no2 kclY ktyY ensY_Undone nesY_Undone
    cTQ := ⟨pgQ, hdQ, po_Q, saQ⟩
    qRow := na_qRow
    mCQ := PySem.W.mg_of X G aCQ
    mkCQ := ⟨mkQ, a_q___init__, i_q___init__, kcQ⟩
    cTV := ⟨pgV, hdV, po_V, saV⟩
    vPlace := na_vPlace
    vKey := na_vKey
    mCV := PySem.W.mg_of X G aCV
    mkCV := ⟨mkV, a_v___init__, i_v___init__, kcV⟩
  }
  refine ⟨A.d_law, [(cc_least_child, PP_least_child), (cc_undo_push, PP_undo_push)], spLaw K A, fun p hp => by
    simp only [List.mem_cons, List.not_mem_nil, or_false] at hp
    rcases hp with rfl | rfl
    · exact hT_least_child
    · exact hT_undo_push, ?_, ?_, fun s v => .of_eq rfl, fun H a ns hl hb hH hS => ⟨a, ns, rfl, hS, hl, fun p hp => ?_, fun _ => rfl⟩, fun base _ _ hTB => ok_law T (hTB (cc_least_child, PP_least_child) (by simp)) (hTB (cc_undo_push, PP_undo_push) (by simp))⟩
  · exact fun p hp => by
      simp only [List.mem_cons, List.not_mem_nil, or_false] at hp
      rcases hp with rfl | rfl
      · exact hN_least_child
      · exact hN_undo_push
  · exact fun p hp => by
      simp only [List.mem_cons, List.not_mem_nil, or_false] at hp
      rcases hp with rfl | rfl
      · exact PySem.W.codeHd_of_K X hC_least_child
      · exact PySem.W.codeHd_of_K X hC_undo_push
  · unfold TT at hp
    simp only [List.mem_cons, List.not_mem_nil, or_false] at hp
    rcases hp with rfl | rfl
    · exact LamX.TabS.nil (hH (cc_least_child, PP_least_child) (by simp))
    · exact LamX.TabS.nil (hH (cc_undo_push, PP_undo_push) (by simp))
theorem walk {l : PySem.W.OpenLaw} {q : Program} {loose : List Str} {XP : (Str → Option Value) → Heap → Prop} {YP : World → Heap → Prop} {d : DefRec} {K : Params → PySem.W.Frag} (hn : l.most = some 63) (hdf : d.params.defaults = [])
    (hY : ∀ (w : World) (h : Heap), YP w h → (K w.params).In h)
    (F : ∀ (w : World) (mg : Str → Option Value) (fa : Addr) (h : Heap), YP w h → (K w.params).In h → h.Ns mainGlobals mg → mg d.name = some (.ref fa) → LamX.LawAtS l w (K w.params) CX0 16 63 "script" mg fa h) :
    PySem.W.WalkO q loose XP YP l.row.toRowW d [] (fun f vs => PySem.call f vs) :=
  LamX.walk_ofTs (n := 63) (k := 16) (x := "script") (CX := fun _ => CX0) hn (by decide) hdf ⟨rfl, by decide, by decide⟩ hY F fun _ _ _ _ _ z => z
end Tw

set_option Elab.async false
set_option linter.all false
set_option maxRecDepth 100000
set_option maxHeartbeats 2000000
namespace Tw
open PySem PySem.Spec PyProof.Rows L2
set_option maxHeartbeats 0
abbrev R0 : PySem.W.OpenRow := PySem.W.OpenLaw.row PySem.Challenge.rw_heaprows_k41_whole_long
def q_is_integer : Sh.FnA := ⟨fun K => (Sh.gA K "is_integer"), "is_integer", "is_integer", defArgs s_is_integer, defBody s_is_integer, defScope s_is_integer⟩
def q_is_integer_from : Sh.FnA := ⟨fun K => (Sh.gA K "is_integer_from"), "is_integer_from", "is_integer_from", defArgs s_is_integer_from, defBody s_is_integer_from, defScope s_is_integer_from⟩
def q_is_key : Sh.FnA := ⟨fun K => (Sh.gA K "is_key"), "is_key", "is_key", defArgs s_is_key, defBody s_is_key, defScope s_is_key⟩
def q_check_arms : Sh.FnA := ⟨fun K => (Sh.gA K "check_arms"), "check_arms", "check_arms", defArgs s_check_arms, defBody s_check_arms, defScope s_check_arms⟩
def q_check_many : Sh.FnA := ⟨fun K => (Sh.gA K "check_many"), "check_many", "check_many", defArgs s_check_many, defBody s_check_many, defScope s_check_many⟩
def q_check_place : Sh.FnA := ⟨fun K => (Sh.gA K "check_place"), "check_place", "check_place", defArgs s_check_place, defBody s_check_place, defScope s_check_place⟩
def q_check_key : Sh.FnA := ⟨fun K => (Sh.gA K "check_key"), "check_key", "check_key", defArgs s_check_key, defBody s_check_key, defScope s_check_key⟩
def q_row_of : Sh.FnA := ⟨fun K => (Sh.gA K "row_of"), "row_of", "row_of", defArgs s_row_of, defBody s_row_of, defScope s_row_of⟩
def q_check_different : Sh.FnA := ⟨fun K => (Sh.gA K "check_different"), "check_different", "check_different", defArgs s_check_different, defBody s_check_different, defScope s_check_different⟩
def q_t___init__ : Sh.FnA := ⟨fun K => (Sh.mA K (Sh.gA K "Tree") "__init__"), "__init__", "Tree.__init__", defArgs s_t___init__, defBody s_t___init__, defScope s_t___init__⟩
def q_t_of : Sh.FnA := ⟨fun K => (Sh.recA K (Sh.clsA K (Sh.gA K "Tree") "of") "classmethod"), "of", "Tree.of", defArgs s_t_of, defBody s_t_of, defScope s_t_of⟩
def q_t___len__ : Sh.FnA := ⟨fun K => (Sh.mA K (Sh.gA K "Tree") "__len__"), "__len__", "Tree.__len__", defArgs s_t___len__, defBody s_t___len__, defScope s_t___len__⟩
def q_t___contains__ : Sh.FnA := ⟨fun K => (Sh.mA K (Sh.gA K "Tree") "__contains__"), "__contains__", "Tree.__contains__", defArgs s_t___contains__, defBody s_t___contains__, defScope s_t___contains__⟩
def q_t___iter__ : Sh.FnA := ⟨fun K => (Sh.mA K (Sh.gA K "Tree") "__iter__"), "__iter__", "Tree.__iter__", defArgs s_t___iter__, defBody s_t___iter__, defScope s_t___iter__⟩
def q_t___getitem__ : Sh.FnA := ⟨fun K => (Sh.mA K (Sh.gA K "Tree") "__getitem__"), "__getitem__", "Tree.__getitem__", defArgs s_t___getitem__, defBody s_t___getitem__, defScope s_t___getitem__⟩
def q_t_parent : Sh.FnA := ⟨fun K => (Sh.mA K (Sh.gA K "Tree") "parent"), "parent", "Tree.parent", defArgs s_t_parent, defBody s_t_parent, defScope s_t_parent⟩
def q_t_way_to : Sh.FnA := ⟨fun K => (Sh.mA K (Sh.gA K "Tree") "way_to"), "way_to", "Tree.way_to", defArgs s_t_way_to, defBody s_t_way_to, defScope s_t_way_to⟩
def q_t_depth : Sh.FnA := ⟨fun K => (Sh.mA K (Sh.gA K "Tree") "depth"), "depth", "Tree.depth", defArgs s_t_depth, defBody s_t_depth, defScope s_t_depth⟩
def q_t_subtree : Sh.FnA := ⟨fun K => (Sh.mA K (Sh.gA K "Tree") "subtree"), "subtree", "Tree.subtree", defArgs s_t_subtree, defBody s_t_subtree, defScope s_t_subtree⟩
def q_is_heap : Sh.FnA := ⟨fun K => (Sh.gA K "is_heap"), "is_heap", "is_heap", defArgs s_is_heap, defBody s_is_heap, defScope s_is_heap⟩
def q_faults : Sh.FnA := ⟨fun K => (Sh.gA K "faults"), "faults", "faults", defArgs s_faults, defBody s_faults, defScope s_faults⟩
def q_heap_of : Sh.FnA := ⟨fun K => (Sh.gA K "heap_of"), "heap_of", "heap_of", defArgs s_heap_of, defBody s_heap_of, defScope s_heap_of⟩
def q_different_heap_of : Sh.FnA := ⟨fun K => (Sh.gA K "different_heap_of"), "different_heap_of", "different_heap_of", defArgs s_different_heap_of, defBody s_different_heap_of, defScope s_different_heap_of⟩
def q_z___init__ : Sh.FnA := ⟨fun K => (Sh.mA K (Sh.gA K "Sift") "__init__"), "__init__", "Sift.__init__", defArgs s_z___init__, defBody s_z___init__, defScope s_z___init__⟩
def q_sift_up : Sh.FnA := ⟨fun K => (Sh.gA K "sift_up"), "sift_up", "sift_up", defArgs s_sift_up, defBody s_sift_up, defScope s_sift_up⟩
def q_sift_down : Sh.FnA := ⟨fun K => (Sh.gA K "sift_down"), "sift_down", "sift_down", defArgs s_sift_down, defBody s_sift_down, defScope s_sift_down⟩
def q_least_child : Sh.FnA := ⟨fun K => (Sh.gA K "least_child"), "least_child", "least_child", defArgs s_least_child, defBody s_least_child, defScope s_least_child⟩
def q_row_before : Sh.FnA := ⟨fun K => (Sh.gA K "row_before"), "row_before", "row_before", defArgs s_row_before, defBody s_row_before, defScope s_row_before⟩
def q_u___init__ : Sh.FnA := ⟨fun K => (Sh.mA K (Sh.gA K "Built") "__init__"), "__init__", "Built.__init__", defArgs s_u___init__, defBody s_u___init__, defScope s_u___init__⟩
def q_push : Sh.FnA := ⟨fun K => (Sh.gA K "push"), "push", "push", defArgs s_push, defBody s_push, defScope s_push⟩
def q_take : Sh.FnA := ⟨fun K => (Sh.gA K "take"), "take", "take", defArgs s_take, defBody s_take, defScope s_take⟩
def q_take_by_hole : Sh.FnA := ⟨fun K => (Sh.gA K "take_by_hole"), "take_by_hole", "take_by_hole", defArgs s_take_by_hole, defBody s_take_by_hole, defScope s_take_by_hole⟩
def q_put_for : Sh.FnA := ⟨fun K => (Sh.gA K "put_for"), "put_for", "put_for", defArgs s_put_for, defBody s_put_for, defScope s_put_for⟩
def q_build : Sh.FnA := ⟨fun K => (Sh.gA K "build"), "build", "build", defArgs s_build, defBody s_build, defScope s_build⟩
def q_filled_heap_of : Sh.FnA := ⟨fun K => (Sh.gA K "filled_heap_of"), "filled_heap_of", "filled_heap_of", defArgs s_filled_heap_of, defBody s_filled_heap_of, defScope s_filled_heap_of⟩
def q_check_filled : Sh.FnA := ⟨fun K => (Sh.gA K "check_filled"), "check_filled", "check_filled", defArgs s_check_filled, defBody s_check_filled, defScope s_check_filled⟩
def q_code : Sh.FnA := ⟨fun K => (Sh.gA K "code"), "code", "code", defArgs s_code, defBody s_code, defScope s_code⟩
def q_decode : Sh.FnA := ⟨fun K => (Sh.gA K "decode"), "decode", "decode", defArgs s_decode, defBody s_decode, defScope s_decode⟩
def q_places_that_stop : Sh.FnA := ⟨fun K => (Sh.gA K "places_that_stop"), "places_that_stop", "places_that_stop", defArgs s_places_that_stop, defBody s_places_that_stop, defScope s_places_that_stop⟩
def q_check_stops : Sh.FnA := ⟨fun K => (Sh.gA K "check_stops"), "check_stops", "check_stops", defArgs s_check_stops, defBody s_check_stops, defScope s_check_stops⟩
def q_is_stop : Sh.FnA := ⟨fun K => (Sh.gA K "is_stop"), "is_stop", "is_stop", defArgs s_is_stop, defBody s_is_stop, defScope s_is_stop⟩
def q_row_with : Sh.FnA := ⟨fun K => (Sh.gA K "row_with"), "row_with", "row_with", defArgs s_row_with, defBody s_row_with, defScope s_row_with⟩
def q_way_down : Sh.FnA := ⟨fun K => (Sh.gA K "way_down"), "way_down", "way_down", defArgs s_way_down, defBody s_way_down, defScope s_way_down⟩
def q_fewest_changed : Sh.FnA := ⟨fun K => (Sh.gA K "fewest_changed"), "fewest_changed", "fewest_changed", defArgs s_fewest_changed, defBody s_fewest_changed, defScope s_fewest_changed⟩
def q_falling_chains : Sh.FnA := ⟨fun K => (Sh.gA K "falling_chains"), "falling_chains", "falling_chains", defArgs s_falling_chains, defBody s_falling_chains, defScope s_falling_chains⟩
def q_n___init__ : Sh.FnA := ⟨fun K => (Sh.mA K (Sh.gA K "Undone") "__init__"), "__init__", "Undone.__init__", defArgs s_n___init__, defBody s_n___init__, defScope s_n___init__⟩
def q_n___eq__ : Sh.FnA := ⟨fun K => (Sh.mA K (Sh.gA K "Undone") "__eq__"), "__eq__", "Undone.__eq__", defArgs s_n___eq__, defBody s_n___eq__, defScope s_n___eq__⟩
def q_y___init__ : Sh.FnA := ⟨fun K => (Sh.mA K (Sh.gA K "Stuck") "__init__"), "__init__", "Stuck.__init__", defArgs s_y___init__, defBody s_y___init__, defScope s_y___init__⟩
def q_undo_push : Sh.FnA := ⟨fun K => (Sh.gA K "undo_push"), "undo_push", "undo_push", defArgs s_undo_push, defBody s_undo_push, defScope s_undo_push⟩
def q_last_places : Sh.FnA := ⟨fun K => (Sh.gA K "last_places"), "last_places", "last_places", defArgs s_last_places, defBody s_last_places, defScope s_last_places⟩
def q_last_way : Sh.FnA := ⟨fun K => (Sh.gA K "last_way"), "last_way", "last_way", defArgs s_last_way, defBody s_last_way, defScope s_last_way⟩
def q_heap_and_way_below : Sh.FnA := ⟨fun K => (Sh.gA K "heap_and_way_below"), "heap_and_way_below", "heap_and_way_below", defArgs s_heap_and_way_below, defBody s_heap_and_way_below, defScope s_heap_and_way_below⟩
def q_q___init__ : Sh.FnA := ⟨fun K => (Sh.mA K (Sh.gA K "Before") "__init__"), "__init__", "Before.__init__", defArgs s_q___init__, defBody s_q___init__, defScope s_q___init__⟩
def q_v___init__ : Sh.FnA := ⟨fun K => (Sh.mA K (Sh.gA K "Over") "__init__"), "__init__", "Over.__init__", defArgs s_v___init__, defBody s_v___init__, defScope s_v___init__⟩
def q_undo_take : Sh.FnA := ⟨fun K => (Sh.gA K "undo_take"), "undo_take", "undo_take", defArgs s_undo_take, defBody s_undo_take, defScope s_undo_take⟩
def q_places_behind : Sh.FnA := ⟨fun K => (Sh.gA K "places_behind"), "places_behind", "places_behind", defArgs s_places_behind, defBody s_places_behind, defScope s_places_behind⟩
def q_heap_with_room : Sh.FnA := ⟨fun K => (Sh.gA K "heap_with_room"), "heap_with_room", "heap_with_room", defArgs s_heap_with_room, defBody s_heap_with_room, defScope s_heap_with_room⟩
def q_heap_after : Sh.FnA := ⟨fun K => (Sh.gA K "heap_after"), "heap_after", "heap_after", defArgs s_heap_after, defBody s_heap_after, defScope s_heap_after⟩
def q_place_over_next : Sh.FnA := ⟨fun K => (Sh.gA K "place_over_next"), "place_over_next", "place_over_next", defArgs s_place_over_next, defBody s_place_over_next, defScope s_place_over_next⟩
def q__law_number : Sh.FnA := ⟨fun K => (Sh.gA K "_law_number"), "_law_number", "_law_number", defArgs s__law_number, defBody s__law_number, defScope s__law_number⟩
def q__law_take : Sh.FnA := ⟨fun K => (Sh.gA K "_law_take"), "_law_take", "_law_take", defArgs s__law_take, defBody s__law_take, defScope s__law_take⟩
def q__law_pick : Sh.FnA := ⟨fun K => (Sh.gA K "_law_pick"), "_law_pick", "_law_pick", defArgs s__law_pick, defBody s__law_pick, defScope s__law_pick⟩
def q__law_arms : Sh.FnA := ⟨fun K => (Sh.gA K "_law_arms"), "_law_arms", "_law_arms", defArgs s__law_arms, defBody s__law_arms, defScope s__law_arms⟩
def q__law_undone_right : Sh.FnA := ⟨fun K => (Sh.gA K "_law_undone_right"), "_law_undone_right", "_law_undone_right", defArgs s__law_undone_right, defBody s__law_undone_right, defScope s__law_undone_right⟩
def q__law_done : Sh.FnA := ⟨fun K => (Sh.gA K "_law_done"), "_law_done", "_law_done", defArgs s__law_done, defBody s__law_done, defScope s__law_done⟩
def q_law : Sh.FnA := ⟨fun K => (Sh.gA K "law"), "law", "law", defArgs s_law, defBody s_law, defScope s_law⟩
def fns0 : List Sh.FnA := [q_is_integer, q_is_integer_from, q_is_key, q_check_arms, q_check_many, q_check_place, q_check_key, q_row_of, q_check_different, q_t___init__, q_t_of, q_t___len__, q_t___contains__, q_t___iter__, q_t___getitem__, q_t_parent, q_t_way_to, q_t_depth, q_t_subtree, q_is_heap, q_faults, q_heap_of, q_different_heap_of, q_z___init__, q_sift_up]
def fns1 : List Sh.FnA := [q_sift_down, q_least_child, q_row_before, q_u___init__, q_push, q_take, q_take_by_hole, q_put_for, q_build, q_filled_heap_of, q_check_filled, q_code, q_decode, q_places_that_stop, q_check_stops, q_is_stop, q_row_with, q_way_down, q_fewest_changed, q_falling_chains, q_n___init__, q_n___eq__, q_y___init__, q_undo_push, q_last_places]
def fns2 : List Sh.FnA := [q_last_way, q_heap_and_way_below, q_q___init__, q_v___init__, q_undo_take, q_places_behind, q_heap_with_room, q_heap_after, q_place_over_next, q__law_number, q__law_take, q__law_pick, q__law_arms, q__law_undone_right, q__law_done, q_law]
def fns : List Sh.FnA := fns0 ++ fns1 ++ fns2
def gr0 (K : PySem.W.Frag) : Bool := decide (PySem.W.nsIn K mainGlobals "Tree" = some (some (.ref (Sh.gA K "Tree")))) && (decide (PySem.W.nsIn K mainGlobals "Sift" = some (some (.ref (Sh.gA K "Sift")))) && (decide (PySem.W.nsIn K mainGlobals "Built" = some (some (.ref (Sh.gA K "Built")))) && (decide (PySem.W.nsIn K mainGlobals "Undone" = some (some (.ref (Sh.gA K "Undone")))) && (decide (PySem.W.nsIn K mainGlobals "Stuck" = some (some (.ref (Sh.gA K "Stuck")))) && (decide (PySem.W.nsIn K mainGlobals "Before" = some (some (.ref (Sh.gA K "Before")))) && (decide (PySem.W.nsIn K mainGlobals "Over" = some (some (.ref (Sh.gA K "Over")))) && (decide (PySem.W.nsIn K mainGlobals "is_integer" = some (some (.ref (Sh.gA K "is_integer")))) && (decide (PySem.W.nsIn K mainGlobals "is_integer_from" = some (some (.ref (Sh.gA K "is_integer_from")))) && (decide (PySem.W.nsIn K mainGlobals "is_key" = some (some (.ref (Sh.gA K "is_key")))) && (decide (PySem.W.nsIn K mainGlobals "check_arms" = some (some (.ref (Sh.gA K "check_arms")))) && (decide (PySem.W.nsIn K mainGlobals "check_many" = some (some (.ref (Sh.gA K "check_many")))))))))))))))
theorem gr0_ok {K : PySem.W.Frag} (h : gr0 K = true) : (PySem.W.nsIn K mainGlobals "Tree" = some (some (.ref (Sh.gA K "Tree")))) ∧ (PySem.W.nsIn K mainGlobals "Sift" = some (some (.ref (Sh.gA K "Sift")))) ∧ (PySem.W.nsIn K mainGlobals "Built" = some (some (.ref (Sh.gA K "Built")))) ∧ (PySem.W.nsIn K mainGlobals "Undone" = some (some (.ref (Sh.gA K "Undone")))) ∧ (PySem.W.nsIn K mainGlobals "Stuck" = some (some (.ref (Sh.gA K "Stuck")))) ∧ (PySem.W.nsIn K mainGlobals "Before" = some (some (.ref (Sh.gA K "Before")))) ∧ (PySem.W.nsIn K mainGlobals "Over" = some (some (.ref (Sh.gA K "Over")))) ∧ (PySem.W.nsIn K mainGlobals "is_integer" = some (some (.ref (Sh.gA K "is_integer")))) ∧ (PySem.W.nsIn K mainGlobals "is_integer_from" = some (some (.ref (Sh.gA K "is_integer_from")))) ∧ (PySem.W.nsIn K mainGlobals "is_key" = some (some (.ref (Sh.gA K "is_key")))) ∧ (PySem.W.nsIn K mainGlobals "check_arms" = some (some (.ref (Sh.gA K "check_arms")))) ∧ (PySem.W.nsIn K mainGlobals "check_many" = some (some (.ref (Sh.gA K "check_many")))) := by
  unfold gr0 at h
  obtain ⟨h0, h⟩ := Sh.band h
  obtain ⟨h1, h⟩ := Sh.band h
  obtain ⟨h2, h⟩ := Sh.band h
  obtain ⟨h3, h⟩ := Sh.band h
  obtain ⟨h4, h⟩ := Sh.band h
  obtain ⟨h5, h⟩ := Sh.band h
  obtain ⟨h6, h⟩ := Sh.band h
  obtain ⟨h7, h⟩ := Sh.band h
  obtain ⟨h8, h⟩ := Sh.band h
  obtain ⟨h9, h⟩ := Sh.band h
  obtain ⟨h10, h⟩ := Sh.band h
  exact ⟨of_decide_eq_true h0, of_decide_eq_true h1, of_decide_eq_true h2, of_decide_eq_true h3, of_decide_eq_true h4, of_decide_eq_true h5, of_decide_eq_true h6, of_decide_eq_true h7, of_decide_eq_true h8, of_decide_eq_true h9, of_decide_eq_true h10, of_decide_eq_true h⟩
def gr1 (K : PySem.W.Frag) : Bool := decide (PySem.W.nsIn K mainGlobals "check_place" = some (some (.ref (Sh.gA K "check_place")))) && (decide (PySem.W.nsIn K mainGlobals "check_key" = some (some (.ref (Sh.gA K "check_key")))) && (decide (PySem.W.nsIn K mainGlobals "row_of" = some (some (.ref (Sh.gA K "row_of")))) && (decide (PySem.W.nsIn K mainGlobals "check_different" = some (some (.ref (Sh.gA K "check_different")))) && (decide (PySem.W.findIn K (.ref (Sh.gA K "Tree")) "__init__" = some (some (.ref (Sh.mA K (Sh.gA K "Tree") "__init__")))) && (decide (PySem.W.isFn K (.ref (Sh.mA K (Sh.gA K "Tree") "__init__")) = true) && (decide (PySem.W.nsIn K (Sh.kwA K (Sh.mA K (Sh.gA K "Tree") "__init__")) "arms" = some (some (.int 2 (Sh.tokI K (Sh.kwA K (Sh.mA K (Sh.gA K "Tree") "__init__")) "arms")))) && (Sh.ofB K (Sh.gA K "Tree") (Sh.clsA K (Sh.gA K "Tree") "of") "of" && (decide (PySem.W.recIn K (Sh.clsA K (Sh.gA K "Tree") "of") "classmethod" = some (.ref (Sh.recA K (Sh.clsA K (Sh.gA K "Tree") "of") "classmethod") :: (Sh.recT K (Sh.clsA K (Sh.gA K "Tree") "of") "classmethod"))) && (decide (PySem.W.fnIn K (Sh.recA K (Sh.clsA K (Sh.gA K "Tree") "of") "classmethod") = true) && (decide (PySem.W.nsIn K (Sh.kwA K (Sh.recA K (Sh.clsA K (Sh.gA K "Tree") "of") "classmethod")) "arms" = some (some (.int 2 (Sh.tokI K (Sh.kwA K (Sh.recA K (Sh.clsA K (Sh.gA K "Tree") "of") "classmethod")) "arms")))) && (decide (PySem.W.findIn K (.ref (Sh.gA K "Tree")) "__len__" = some (some (.ref (Sh.mA K (Sh.gA K "Tree") "__len__")))))))))))))))
theorem gr1_ok {K : PySem.W.Frag} (h : gr1 K = true) : (PySem.W.nsIn K mainGlobals "check_place" = some (some (.ref (Sh.gA K "check_place")))) ∧ (PySem.W.nsIn K mainGlobals "check_key" = some (some (.ref (Sh.gA K "check_key")))) ∧ (PySem.W.nsIn K mainGlobals "row_of" = some (some (.ref (Sh.gA K "row_of")))) ∧ (PySem.W.nsIn K mainGlobals "check_different" = some (some (.ref (Sh.gA K "check_different")))) ∧ (PySem.W.findIn K (.ref (Sh.gA K "Tree")) "__init__" = some (some (.ref (Sh.mA K (Sh.gA K "Tree") "__init__")))) ∧ (PySem.W.isFn K (.ref (Sh.mA K (Sh.gA K "Tree") "__init__")) = true) ∧ (PySem.W.nsIn K (Sh.kwA K (Sh.mA K (Sh.gA K "Tree") "__init__")) "arms" = some (some (.int 2 (Sh.tokI K (Sh.kwA K (Sh.mA K (Sh.gA K "Tree") "__init__")) "arms")))) ∧ (PySem.W.findCls K (.ref (Sh.gA K "Tree")) (.type "type") "of" = some (.get (.builtin "classmethod.__get__") (.ref (Sh.clsA K (Sh.gA K "Tree") "of")) .none (.ref (Sh.gA K "Tree")))) ∧ (PySem.W.recIn K (Sh.clsA K (Sh.gA K "Tree") "of") "classmethod" = some (.ref (Sh.recA K (Sh.clsA K (Sh.gA K "Tree") "of") "classmethod") :: (Sh.recT K (Sh.clsA K (Sh.gA K "Tree") "of") "classmethod"))) ∧ (PySem.W.fnIn K (Sh.recA K (Sh.clsA K (Sh.gA K "Tree") "of") "classmethod") = true) ∧ (PySem.W.nsIn K (Sh.kwA K (Sh.recA K (Sh.clsA K (Sh.gA K "Tree") "of") "classmethod")) "arms" = some (some (.int 2 (Sh.tokI K (Sh.kwA K (Sh.recA K (Sh.clsA K (Sh.gA K "Tree") "of") "classmethod")) "arms")))) ∧ (PySem.W.findIn K (.ref (Sh.gA K "Tree")) "__len__" = some (some (.ref (Sh.mA K (Sh.gA K "Tree") "__len__")))) := by
  unfold gr1 at h
  obtain ⟨h0, h⟩ := Sh.band h
  obtain ⟨h1, h⟩ := Sh.band h
  obtain ⟨h2, h⟩ := Sh.band h
  obtain ⟨h3, h⟩ := Sh.band h
  obtain ⟨h4, h⟩ := Sh.band h
  obtain ⟨h5, h⟩ := Sh.band h
  obtain ⟨h6, h⟩ := Sh.band h
  obtain ⟨h7, h⟩ := Sh.band h
  obtain ⟨h8, h⟩ := Sh.band h
  obtain ⟨h9, h⟩ := Sh.band h
  obtain ⟨h10, h⟩ := Sh.band h
  exact ⟨of_decide_eq_true h0, of_decide_eq_true h1, of_decide_eq_true h2, of_decide_eq_true h3, of_decide_eq_true h4, of_decide_eq_true h5, of_decide_eq_true h6, Sh.ofB_ok h7, of_decide_eq_true h8, of_decide_eq_true h9, of_decide_eq_true h10, of_decide_eq_true h⟩
def gr2 (K : PySem.W.Frag) : Bool := decide (PySem.W.isFn K (.ref (Sh.mA K (Sh.gA K "Tree") "__len__")) = true) && (decide (PySem.W.fnIn K (Sh.mA K (Sh.gA K "Tree") "__len__") = true) && (decide (PySem.W.findIn K (.ref (Sh.gA K "Tree")) "__contains__" = some (some (.ref (Sh.mA K (Sh.gA K "Tree") "__contains__")))) && (decide (PySem.W.isFn K (.ref (Sh.mA K (Sh.gA K "Tree") "__contains__")) = true) && (decide (PySem.W.fnIn K (Sh.mA K (Sh.gA K "Tree") "__contains__") = true) && (decide (PySem.W.findIn K (.ref (Sh.gA K "Tree")) "__iter__" = some (some (.ref (Sh.mA K (Sh.gA K "Tree") "__iter__")))) && (decide (PySem.W.isFn K (.ref (Sh.mA K (Sh.gA K "Tree") "__iter__")) = true) && (decide (PySem.W.fnIn K (Sh.mA K (Sh.gA K "Tree") "__iter__") = true) && (decide (PySem.W.findIn K (.ref (Sh.gA K "Tree")) "__getitem__" = some (some (.ref (Sh.mA K (Sh.gA K "Tree") "__getitem__")))) && (decide (PySem.W.isFn K (.ref (Sh.mA K (Sh.gA K "Tree") "__getitem__")) = true) && (decide (PySem.W.fnIn K (Sh.mA K (Sh.gA K "Tree") "__getitem__") = true) && (decide (PySem.W.findIn K (.ref (Sh.gA K "Tree")) "parent" = some (some (.ref (Sh.mA K (Sh.gA K "Tree") "parent")))))))))))))))
theorem gr2_ok {K : PySem.W.Frag} (h : gr2 K = true) : (PySem.W.isFn K (.ref (Sh.mA K (Sh.gA K "Tree") "__len__")) = true) ∧ (PySem.W.fnIn K (Sh.mA K (Sh.gA K "Tree") "__len__") = true) ∧ (PySem.W.findIn K (.ref (Sh.gA K "Tree")) "__contains__" = some (some (.ref (Sh.mA K (Sh.gA K "Tree") "__contains__")))) ∧ (PySem.W.isFn K (.ref (Sh.mA K (Sh.gA K "Tree") "__contains__")) = true) ∧ (PySem.W.fnIn K (Sh.mA K (Sh.gA K "Tree") "__contains__") = true) ∧ (PySem.W.findIn K (.ref (Sh.gA K "Tree")) "__iter__" = some (some (.ref (Sh.mA K (Sh.gA K "Tree") "__iter__")))) ∧ (PySem.W.isFn K (.ref (Sh.mA K (Sh.gA K "Tree") "__iter__")) = true) ∧ (PySem.W.fnIn K (Sh.mA K (Sh.gA K "Tree") "__iter__") = true) ∧ (PySem.W.findIn K (.ref (Sh.gA K "Tree")) "__getitem__" = some (some (.ref (Sh.mA K (Sh.gA K "Tree") "__getitem__")))) ∧ (PySem.W.isFn K (.ref (Sh.mA K (Sh.gA K "Tree") "__getitem__")) = true) ∧ (PySem.W.fnIn K (Sh.mA K (Sh.gA K "Tree") "__getitem__") = true) ∧ (PySem.W.findIn K (.ref (Sh.gA K "Tree")) "parent" = some (some (.ref (Sh.mA K (Sh.gA K "Tree") "parent")))) := by
  unfold gr2 at h
  obtain ⟨h0, h⟩ := Sh.band h
  obtain ⟨h1, h⟩ := Sh.band h
  obtain ⟨h2, h⟩ := Sh.band h
  obtain ⟨h3, h⟩ := Sh.band h
  obtain ⟨h4, h⟩ := Sh.band h
  obtain ⟨h5, h⟩ := Sh.band h
  obtain ⟨h6, h⟩ := Sh.band h
  obtain ⟨h7, h⟩ := Sh.band h
  obtain ⟨h8, h⟩ := Sh.band h
  obtain ⟨h9, h⟩ := Sh.band h
  obtain ⟨h10, h⟩ := Sh.band h
  exact ⟨of_decide_eq_true h0, of_decide_eq_true h1, of_decide_eq_true h2, of_decide_eq_true h3, of_decide_eq_true h4, of_decide_eq_true h5, of_decide_eq_true h6, of_decide_eq_true h7, of_decide_eq_true h8, of_decide_eq_true h9, of_decide_eq_true h10, of_decide_eq_true h⟩
def gr3 (K : PySem.W.Frag) : Bool := decide (PySem.W.isFn K (.ref (Sh.mA K (Sh.gA K "Tree") "parent")) = true) && (decide (PySem.W.findIn K (.ref (Sh.gA K "Tree")) "way_to" = some (some (.ref (Sh.mA K (Sh.gA K "Tree") "way_to")))) && (decide (PySem.W.isFn K (.ref (Sh.mA K (Sh.gA K "Tree") "way_to")) = true) && (decide (PySem.W.findIn K (.ref (Sh.gA K "Tree")) "depth" = some (some (.ref (Sh.mA K (Sh.gA K "Tree") "depth")))) && (decide (PySem.W.isFn K (.ref (Sh.mA K (Sh.gA K "Tree") "depth")) = true) && (decide (PySem.W.findIn K (.ref (Sh.gA K "Tree")) "subtree" = some (some (.ref (Sh.mA K (Sh.gA K "Tree") "subtree")))) && (decide (PySem.W.isFn K (.ref (Sh.mA K (Sh.gA K "Tree") "subtree")) = true) && (decide (PySem.W.nsIn K mainGlobals "is_heap" = some (some (.ref (Sh.gA K "is_heap")))) && (decide (PySem.W.nsIn K (Sh.kwA K (Sh.gA K "is_heap")) "arms" = some (some (.int 2 (Sh.tokI K (Sh.kwA K (Sh.gA K "is_heap")) "arms")))) && (decide (PySem.W.nsIn K mainGlobals "faults" = some (some (.ref (Sh.gA K "faults")))) && (decide (PySem.W.nsIn K (Sh.kwA K (Sh.gA K "faults")) "arms" = some (some (.int 2 (Sh.tokI K (Sh.kwA K (Sh.gA K "faults")) "arms")))) && (decide (PySem.W.nsIn K mainGlobals "heap_of" = some (some (.ref (Sh.gA K "heap_of")))))))))))))))
theorem gr3_ok {K : PySem.W.Frag} (h : gr3 K = true) : (PySem.W.isFn K (.ref (Sh.mA K (Sh.gA K "Tree") "parent")) = true) ∧ (PySem.W.findIn K (.ref (Sh.gA K "Tree")) "way_to" = some (some (.ref (Sh.mA K (Sh.gA K "Tree") "way_to")))) ∧ (PySem.W.isFn K (.ref (Sh.mA K (Sh.gA K "Tree") "way_to")) = true) ∧ (PySem.W.findIn K (.ref (Sh.gA K "Tree")) "depth" = some (some (.ref (Sh.mA K (Sh.gA K "Tree") "depth")))) ∧ (PySem.W.isFn K (.ref (Sh.mA K (Sh.gA K "Tree") "depth")) = true) ∧ (PySem.W.findIn K (.ref (Sh.gA K "Tree")) "subtree" = some (some (.ref (Sh.mA K (Sh.gA K "Tree") "subtree")))) ∧ (PySem.W.isFn K (.ref (Sh.mA K (Sh.gA K "Tree") "subtree")) = true) ∧ (PySem.W.nsIn K mainGlobals "is_heap" = some (some (.ref (Sh.gA K "is_heap")))) ∧ (PySem.W.nsIn K (Sh.kwA K (Sh.gA K "is_heap")) "arms" = some (some (.int 2 (Sh.tokI K (Sh.kwA K (Sh.gA K "is_heap")) "arms")))) ∧ (PySem.W.nsIn K mainGlobals "faults" = some (some (.ref (Sh.gA K "faults")))) ∧ (PySem.W.nsIn K (Sh.kwA K (Sh.gA K "faults")) "arms" = some (some (.int 2 (Sh.tokI K (Sh.kwA K (Sh.gA K "faults")) "arms")))) ∧ (PySem.W.nsIn K mainGlobals "heap_of" = some (some (.ref (Sh.gA K "heap_of")))) := by
  unfold gr3 at h
  obtain ⟨h0, h⟩ := Sh.band h
  obtain ⟨h1, h⟩ := Sh.band h
  obtain ⟨h2, h⟩ := Sh.band h
  obtain ⟨h3, h⟩ := Sh.band h
  obtain ⟨h4, h⟩ := Sh.band h
  obtain ⟨h5, h⟩ := Sh.band h
  obtain ⟨h6, h⟩ := Sh.band h
  obtain ⟨h7, h⟩ := Sh.band h
  obtain ⟨h8, h⟩ := Sh.band h
  obtain ⟨h9, h⟩ := Sh.band h
  obtain ⟨h10, h⟩ := Sh.band h
  exact ⟨of_decide_eq_true h0, of_decide_eq_true h1, of_decide_eq_true h2, of_decide_eq_true h3, of_decide_eq_true h4, of_decide_eq_true h5, of_decide_eq_true h6, of_decide_eq_true h7, of_decide_eq_true h8, of_decide_eq_true h9, of_decide_eq_true h10, of_decide_eq_true h⟩
def gr4 (K : PySem.W.Frag) : Bool := decide (PySem.W.nsIn K mainGlobals "different_heap_of" = some (some (.ref (Sh.gA K "different_heap_of")))) && (decide (PySem.W.findIn K (.ref (Sh.gA K "Sift")) "__init__" = some (some (.ref (Sh.mA K (Sh.gA K "Sift") "__init__")))) && (decide (PySem.W.isFn K (.ref (Sh.mA K (Sh.gA K "Sift") "__init__")) = true) && (decide (PySem.W.nsIn K mainGlobals "sift_up" = some (some (.ref (Sh.gA K "sift_up")))) && (decide (PySem.W.nsIn K (Sh.kwA K (Sh.gA K "sift_up")) "arms" = some (some (.int 2 (Sh.tokI K (Sh.kwA K (Sh.gA K "sift_up")) "arms")))) && (decide (PySem.W.nsIn K mainGlobals "sift_down" = some (some (.ref (Sh.gA K "sift_down")))) && (decide (PySem.W.nsIn K (Sh.kwA K (Sh.gA K "sift_down")) "arms" = some (some (.int 2 (Sh.tokI K (Sh.kwA K (Sh.gA K "sift_down")) "arms")))) && (decide (PySem.W.nsIn K mainGlobals "least_child" = some (some (.ref (Sh.gA K "least_child")))) && (decide (PySem.W.nsIn K mainGlobals "row_before" = some (some (.ref (Sh.gA K "row_before")))) && (decide (PySem.W.findIn K (.ref (Sh.gA K "Built")) "__init__" = some (some (.ref (Sh.mA K (Sh.gA K "Built") "__init__")))) && (decide (PySem.W.isFn K (.ref (Sh.mA K (Sh.gA K "Built") "__init__")) = true) && (decide (PySem.W.nsIn K mainGlobals "push" = some (some (.ref (Sh.gA K "push")))))))))))))))
theorem gr4_ok {K : PySem.W.Frag} (h : gr4 K = true) : (PySem.W.nsIn K mainGlobals "different_heap_of" = some (some (.ref (Sh.gA K "different_heap_of")))) ∧ (PySem.W.findIn K (.ref (Sh.gA K "Sift")) "__init__" = some (some (.ref (Sh.mA K (Sh.gA K "Sift") "__init__")))) ∧ (PySem.W.isFn K (.ref (Sh.mA K (Sh.gA K "Sift") "__init__")) = true) ∧ (PySem.W.nsIn K mainGlobals "sift_up" = some (some (.ref (Sh.gA K "sift_up")))) ∧ (PySem.W.nsIn K (Sh.kwA K (Sh.gA K "sift_up")) "arms" = some (some (.int 2 (Sh.tokI K (Sh.kwA K (Sh.gA K "sift_up")) "arms")))) ∧ (PySem.W.nsIn K mainGlobals "sift_down" = some (some (.ref (Sh.gA K "sift_down")))) ∧ (PySem.W.nsIn K (Sh.kwA K (Sh.gA K "sift_down")) "arms" = some (some (.int 2 (Sh.tokI K (Sh.kwA K (Sh.gA K "sift_down")) "arms")))) ∧ (PySem.W.nsIn K mainGlobals "least_child" = some (some (.ref (Sh.gA K "least_child")))) ∧ (PySem.W.nsIn K mainGlobals "row_before" = some (some (.ref (Sh.gA K "row_before")))) ∧ (PySem.W.findIn K (.ref (Sh.gA K "Built")) "__init__" = some (some (.ref (Sh.mA K (Sh.gA K "Built") "__init__")))) ∧ (PySem.W.isFn K (.ref (Sh.mA K (Sh.gA K "Built") "__init__")) = true) ∧ (PySem.W.nsIn K mainGlobals "push" = some (some (.ref (Sh.gA K "push")))) := by
  unfold gr4 at h
  obtain ⟨h0, h⟩ := Sh.band h
  obtain ⟨h1, h⟩ := Sh.band h
  obtain ⟨h2, h⟩ := Sh.band h
  obtain ⟨h3, h⟩ := Sh.band h
  obtain ⟨h4, h⟩ := Sh.band h
  obtain ⟨h5, h⟩ := Sh.band h
  obtain ⟨h6, h⟩ := Sh.band h
  obtain ⟨h7, h⟩ := Sh.band h
  obtain ⟨h8, h⟩ := Sh.band h
  obtain ⟨h9, h⟩ := Sh.band h
  obtain ⟨h10, h⟩ := Sh.band h
  exact ⟨of_decide_eq_true h0, of_decide_eq_true h1, of_decide_eq_true h2, of_decide_eq_true h3, of_decide_eq_true h4, of_decide_eq_true h5, of_decide_eq_true h6, of_decide_eq_true h7, of_decide_eq_true h8, of_decide_eq_true h9, of_decide_eq_true h10, of_decide_eq_true h⟩
def gr5 (K : PySem.W.Frag) : Bool := decide (PySem.W.nsIn K (Sh.kwA K (Sh.gA K "push")) "arms" = some (some (.int 2 (Sh.tokI K (Sh.kwA K (Sh.gA K "push")) "arms")))) && (decide (PySem.W.nsIn K mainGlobals "take" = some (some (.ref (Sh.gA K "take")))) && (decide (PySem.W.nsIn K (Sh.kwA K (Sh.gA K "take")) "arms" = some (some (.int 2 (Sh.tokI K (Sh.kwA K (Sh.gA K "take")) "arms")))) && (decide (PySem.W.nsIn K mainGlobals "take_by_hole" = some (some (.ref (Sh.gA K "take_by_hole")))) && (decide (PySem.W.nsIn K (Sh.kwA K (Sh.gA K "take_by_hole")) "arms" = some (some (.int 2 (Sh.tokI K (Sh.kwA K (Sh.gA K "take_by_hole")) "arms")))) && (decide (PySem.W.nsIn K mainGlobals "put_for" = some (some (.ref (Sh.gA K "put_for")))) && (decide (PySem.W.nsIn K (Sh.kwA K (Sh.gA K "put_for")) "arms" = some (some (.int 2 (Sh.tokI K (Sh.kwA K (Sh.gA K "put_for")) "arms")))) && (decide (PySem.W.nsIn K mainGlobals "build" = some (some (.ref (Sh.gA K "build")))) && (decide (PySem.W.nsIn K (Sh.kwA K (Sh.gA K "build")) "arms" = some (some (.int 2 (Sh.tokI K (Sh.kwA K (Sh.gA K "build")) "arms")))) && (decide (PySem.W.nsIn K mainGlobals "filled_heap_of" = some (some (.ref (Sh.gA K "filled_heap_of")))) && (decide (PySem.W.nsIn K mainGlobals "check_filled" = some (some (.ref (Sh.gA K "check_filled")))) && (decide (PySem.W.nsIn K mainGlobals "code" = some (some (.ref (Sh.gA K "code")))))))))))))))
theorem gr5_ok {K : PySem.W.Frag} (h : gr5 K = true) : (PySem.W.nsIn K (Sh.kwA K (Sh.gA K "push")) "arms" = some (some (.int 2 (Sh.tokI K (Sh.kwA K (Sh.gA K "push")) "arms")))) ∧ (PySem.W.nsIn K mainGlobals "take" = some (some (.ref (Sh.gA K "take")))) ∧ (PySem.W.nsIn K (Sh.kwA K (Sh.gA K "take")) "arms" = some (some (.int 2 (Sh.tokI K (Sh.kwA K (Sh.gA K "take")) "arms")))) ∧ (PySem.W.nsIn K mainGlobals "take_by_hole" = some (some (.ref (Sh.gA K "take_by_hole")))) ∧ (PySem.W.nsIn K (Sh.kwA K (Sh.gA K "take_by_hole")) "arms" = some (some (.int 2 (Sh.tokI K (Sh.kwA K (Sh.gA K "take_by_hole")) "arms")))) ∧ (PySem.W.nsIn K mainGlobals "put_for" = some (some (.ref (Sh.gA K "put_for")))) ∧ (PySem.W.nsIn K (Sh.kwA K (Sh.gA K "put_for")) "arms" = some (some (.int 2 (Sh.tokI K (Sh.kwA K (Sh.gA K "put_for")) "arms")))) ∧ (PySem.W.nsIn K mainGlobals "build" = some (some (.ref (Sh.gA K "build")))) ∧ (PySem.W.nsIn K (Sh.kwA K (Sh.gA K "build")) "arms" = some (some (.int 2 (Sh.tokI K (Sh.kwA K (Sh.gA K "build")) "arms")))) ∧ (PySem.W.nsIn K mainGlobals "filled_heap_of" = some (some (.ref (Sh.gA K "filled_heap_of")))) ∧ (PySem.W.nsIn K mainGlobals "check_filled" = some (some (.ref (Sh.gA K "check_filled")))) ∧ (PySem.W.nsIn K mainGlobals "code" = some (some (.ref (Sh.gA K "code")))) := by
  unfold gr5 at h
  obtain ⟨h0, h⟩ := Sh.band h
  obtain ⟨h1, h⟩ := Sh.band h
  obtain ⟨h2, h⟩ := Sh.band h
  obtain ⟨h3, h⟩ := Sh.band h
  obtain ⟨h4, h⟩ := Sh.band h
  obtain ⟨h5, h⟩ := Sh.band h
  obtain ⟨h6, h⟩ := Sh.band h
  obtain ⟨h7, h⟩ := Sh.band h
  obtain ⟨h8, h⟩ := Sh.band h
  obtain ⟨h9, h⟩ := Sh.band h
  obtain ⟨h10, h⟩ := Sh.band h
  exact ⟨of_decide_eq_true h0, of_decide_eq_true h1, of_decide_eq_true h2, of_decide_eq_true h3, of_decide_eq_true h4, of_decide_eq_true h5, of_decide_eq_true h6, of_decide_eq_true h7, of_decide_eq_true h8, of_decide_eq_true h9, of_decide_eq_true h10, of_decide_eq_true h⟩
def gr6 (K : PySem.W.Frag) : Bool := decide (PySem.W.nsIn K (Sh.kwA K (Sh.gA K "code")) "arms" = some (some (.int 2 (Sh.tokI K (Sh.kwA K (Sh.gA K "code")) "arms")))) && (decide (PySem.W.nsIn K mainGlobals "decode" = some (some (.ref (Sh.gA K "decode")))) && (decide (PySem.W.nsIn K (Sh.kwA K (Sh.gA K "decode")) "arms" = some (some (.int 2 (Sh.tokI K (Sh.kwA K (Sh.gA K "decode")) "arms")))) && (decide (PySem.W.nsIn K mainGlobals "places_that_stop" = some (some (.ref (Sh.gA K "places_that_stop")))) && (decide (PySem.W.nsIn K mainGlobals "check_stops" = some (some (.ref (Sh.gA K "check_stops")))) && (decide (PySem.W.nsIn K mainGlobals "is_stop" = some (some (.ref (Sh.gA K "is_stop")))) && (decide (PySem.W.nsIn K mainGlobals "row_with" = some (some (.ref (Sh.gA K "row_with")))) && (decide (PySem.W.nsIn K mainGlobals "way_down" = some (some (.ref (Sh.gA K "way_down")))) && (decide (PySem.W.nsIn K mainGlobals "fewest_changed" = some (some (.ref (Sh.gA K "fewest_changed")))) && (decide (PySem.W.nsIn K (Sh.kwA K (Sh.gA K "fewest_changed")) "arms" = some (some (.int 2 (Sh.tokI K (Sh.kwA K (Sh.gA K "fewest_changed")) "arms")))) && (decide (PySem.W.nsIn K mainGlobals "falling_chains" = some (some (.ref (Sh.gA K "falling_chains")))) && (decide (PySem.W.findIn K (.ref (Sh.gA K "Undone")) "__init__" = some (some (.ref (Sh.mA K (Sh.gA K "Undone") "__init__")))))))))))))))
theorem gr6_ok {K : PySem.W.Frag} (h : gr6 K = true) : (PySem.W.nsIn K (Sh.kwA K (Sh.gA K "code")) "arms" = some (some (.int 2 (Sh.tokI K (Sh.kwA K (Sh.gA K "code")) "arms")))) ∧ (PySem.W.nsIn K mainGlobals "decode" = some (some (.ref (Sh.gA K "decode")))) ∧ (PySem.W.nsIn K (Sh.kwA K (Sh.gA K "decode")) "arms" = some (some (.int 2 (Sh.tokI K (Sh.kwA K (Sh.gA K "decode")) "arms")))) ∧ (PySem.W.nsIn K mainGlobals "places_that_stop" = some (some (.ref (Sh.gA K "places_that_stop")))) ∧ (PySem.W.nsIn K mainGlobals "check_stops" = some (some (.ref (Sh.gA K "check_stops")))) ∧ (PySem.W.nsIn K mainGlobals "is_stop" = some (some (.ref (Sh.gA K "is_stop")))) ∧ (PySem.W.nsIn K mainGlobals "row_with" = some (some (.ref (Sh.gA K "row_with")))) ∧ (PySem.W.nsIn K mainGlobals "way_down" = some (some (.ref (Sh.gA K "way_down")))) ∧ (PySem.W.nsIn K mainGlobals "fewest_changed" = some (some (.ref (Sh.gA K "fewest_changed")))) ∧ (PySem.W.nsIn K (Sh.kwA K (Sh.gA K "fewest_changed")) "arms" = some (some (.int 2 (Sh.tokI K (Sh.kwA K (Sh.gA K "fewest_changed")) "arms")))) ∧ (PySem.W.nsIn K mainGlobals "falling_chains" = some (some (.ref (Sh.gA K "falling_chains")))) ∧ (PySem.W.findIn K (.ref (Sh.gA K "Undone")) "__init__" = some (some (.ref (Sh.mA K (Sh.gA K "Undone") "__init__")))) := by
  unfold gr6 at h
  obtain ⟨h0, h⟩ := Sh.band h
  obtain ⟨h1, h⟩ := Sh.band h
  obtain ⟨h2, h⟩ := Sh.band h
  obtain ⟨h3, h⟩ := Sh.band h
  obtain ⟨h4, h⟩ := Sh.band h
  obtain ⟨h5, h⟩ := Sh.band h
  obtain ⟨h6, h⟩ := Sh.band h
  obtain ⟨h7, h⟩ := Sh.band h
  obtain ⟨h8, h⟩ := Sh.band h
  obtain ⟨h9, h⟩ := Sh.band h
  obtain ⟨h10, h⟩ := Sh.band h
  exact ⟨of_decide_eq_true h0, of_decide_eq_true h1, of_decide_eq_true h2, of_decide_eq_true h3, of_decide_eq_true h4, of_decide_eq_true h5, of_decide_eq_true h6, of_decide_eq_true h7, of_decide_eq_true h8, of_decide_eq_true h9, of_decide_eq_true h10, of_decide_eq_true h⟩
def gr7 (K : PySem.W.Frag) : Bool := decide (PySem.W.isFn K (.ref (Sh.mA K (Sh.gA K "Undone") "__init__")) = true) && (decide (PySem.W.findIn K (.ref (Sh.gA K "Undone")) "__eq__" = some (some (.ref (Sh.mA K (Sh.gA K "Undone") "__eq__")))) && (decide (PySem.W.isFn K (.ref (Sh.mA K (Sh.gA K "Undone") "__eq__")) = true) && (decide (PySem.W.findIn K (.ref (Sh.gA K "Stuck")) "__init__" = some (some (.ref (Sh.mA K (Sh.gA K "Stuck") "__init__")))) && (decide (PySem.W.isFn K (.ref (Sh.mA K (Sh.gA K "Stuck") "__init__")) = true) && (decide (PySem.W.nsIn K mainGlobals "undo_push" = some (some (.ref (Sh.gA K "undo_push")))) && (decide (PySem.W.nsIn K (Sh.kwA K (Sh.gA K "undo_push")) "arms" = some (some (.int 2 (Sh.tokI K (Sh.kwA K (Sh.gA K "undo_push")) "arms")))) && (decide (PySem.W.nsIn K mainGlobals "last_places" = some (some (.ref (Sh.gA K "last_places")))) && (decide (PySem.W.nsIn K (Sh.kwA K (Sh.gA K "last_places")) "arms" = some (some (.int 2 (Sh.tokI K (Sh.kwA K (Sh.gA K "last_places")) "arms")))) && (decide (PySem.W.nsIn K mainGlobals "last_way" = some (some (.ref (Sh.gA K "last_way")))) && (decide (PySem.W.nsIn K mainGlobals "heap_and_way_below" = some (some (.ref (Sh.gA K "heap_and_way_below")))) && (decide (PySem.W.findIn K (.ref (Sh.gA K "Before")) "__init__" = some (some (.ref (Sh.mA K (Sh.gA K "Before") "__init__")))))))))))))))
theorem gr7_ok {K : PySem.W.Frag} (h : gr7 K = true) : (PySem.W.isFn K (.ref (Sh.mA K (Sh.gA K "Undone") "__init__")) = true) ∧ (PySem.W.findIn K (.ref (Sh.gA K "Undone")) "__eq__" = some (some (.ref (Sh.mA K (Sh.gA K "Undone") "__eq__")))) ∧ (PySem.W.isFn K (.ref (Sh.mA K (Sh.gA K "Undone") "__eq__")) = true) ∧ (PySem.W.findIn K (.ref (Sh.gA K "Stuck")) "__init__" = some (some (.ref (Sh.mA K (Sh.gA K "Stuck") "__init__")))) ∧ (PySem.W.isFn K (.ref (Sh.mA K (Sh.gA K "Stuck") "__init__")) = true) ∧ (PySem.W.nsIn K mainGlobals "undo_push" = some (some (.ref (Sh.gA K "undo_push")))) ∧ (PySem.W.nsIn K (Sh.kwA K (Sh.gA K "undo_push")) "arms" = some (some (.int 2 (Sh.tokI K (Sh.kwA K (Sh.gA K "undo_push")) "arms")))) ∧ (PySem.W.nsIn K mainGlobals "last_places" = some (some (.ref (Sh.gA K "last_places")))) ∧ (PySem.W.nsIn K (Sh.kwA K (Sh.gA K "last_places")) "arms" = some (some (.int 2 (Sh.tokI K (Sh.kwA K (Sh.gA K "last_places")) "arms")))) ∧ (PySem.W.nsIn K mainGlobals "last_way" = some (some (.ref (Sh.gA K "last_way")))) ∧ (PySem.W.nsIn K mainGlobals "heap_and_way_below" = some (some (.ref (Sh.gA K "heap_and_way_below")))) ∧ (PySem.W.findIn K (.ref (Sh.gA K "Before")) "__init__" = some (some (.ref (Sh.mA K (Sh.gA K "Before") "__init__")))) := by
  unfold gr7 at h
  obtain ⟨h0, h⟩ := Sh.band h
  obtain ⟨h1, h⟩ := Sh.band h
  obtain ⟨h2, h⟩ := Sh.band h
  obtain ⟨h3, h⟩ := Sh.band h
  obtain ⟨h4, h⟩ := Sh.band h
  obtain ⟨h5, h⟩ := Sh.band h
  obtain ⟨h6, h⟩ := Sh.band h
  obtain ⟨h7, h⟩ := Sh.band h
  obtain ⟨h8, h⟩ := Sh.band h
  obtain ⟨h9, h⟩ := Sh.band h
  obtain ⟨h10, h⟩ := Sh.band h
  exact ⟨of_decide_eq_true h0, of_decide_eq_true h1, of_decide_eq_true h2, of_decide_eq_true h3, of_decide_eq_true h4, of_decide_eq_true h5, of_decide_eq_true h6, of_decide_eq_true h7, of_decide_eq_true h8, of_decide_eq_true h9, of_decide_eq_true h10, of_decide_eq_true h⟩
def gr8 (K : PySem.W.Frag) : Bool := decide (PySem.W.isFn K (.ref (Sh.mA K (Sh.gA K "Before") "__init__")) = true) && (decide (PySem.W.findIn K (.ref (Sh.gA K "Over")) "__init__" = some (some (.ref (Sh.mA K (Sh.gA K "Over") "__init__")))) && (decide (PySem.W.isFn K (.ref (Sh.mA K (Sh.gA K "Over") "__init__")) = true) && (decide (PySem.W.nsIn K mainGlobals "undo_take" = some (some (.ref (Sh.gA K "undo_take")))) && (decide (PySem.W.nsIn K (Sh.kwA K (Sh.gA K "undo_take")) "arms" = some (some (.int 2 (Sh.tokI K (Sh.kwA K (Sh.gA K "undo_take")) "arms")))) && (decide (PySem.W.nsIn K mainGlobals "places_behind" = some (some (.ref (Sh.gA K "places_behind")))) && (decide (PySem.W.nsIn K (Sh.kwA K (Sh.gA K "places_behind")) "arms" = some (some (.int 2 (Sh.tokI K (Sh.kwA K (Sh.gA K "places_behind")) "arms")))) && (decide (PySem.W.nsIn K mainGlobals "heap_with_room" = some (some (.ref (Sh.gA K "heap_with_room")))) && (decide (PySem.W.nsIn K mainGlobals "heap_after" = some (some (.ref (Sh.gA K "heap_after")))) && (decide (PySem.W.nsIn K mainGlobals "place_over_next" = some (some (.ref (Sh.gA K "place_over_next")))) && (decide (PySem.W.nsIn K mainGlobals "_law_number" = some (some (.ref (Sh.gA K "_law_number")))) && (decide (PySem.W.nsIn K mainGlobals "_law_take" = some (some (.ref (Sh.gA K "_law_take")))))))))))))))
theorem gr8_ok {K : PySem.W.Frag} (h : gr8 K = true) : (PySem.W.isFn K (.ref (Sh.mA K (Sh.gA K "Before") "__init__")) = true) ∧ (PySem.W.findIn K (.ref (Sh.gA K "Over")) "__init__" = some (some (.ref (Sh.mA K (Sh.gA K "Over") "__init__")))) ∧ (PySem.W.isFn K (.ref (Sh.mA K (Sh.gA K "Over") "__init__")) = true) ∧ (PySem.W.nsIn K mainGlobals "undo_take" = some (some (.ref (Sh.gA K "undo_take")))) ∧ (PySem.W.nsIn K (Sh.kwA K (Sh.gA K "undo_take")) "arms" = some (some (.int 2 (Sh.tokI K (Sh.kwA K (Sh.gA K "undo_take")) "arms")))) ∧ (PySem.W.nsIn K mainGlobals "places_behind" = some (some (.ref (Sh.gA K "places_behind")))) ∧ (PySem.W.nsIn K (Sh.kwA K (Sh.gA K "places_behind")) "arms" = some (some (.int 2 (Sh.tokI K (Sh.kwA K (Sh.gA K "places_behind")) "arms")))) ∧ (PySem.W.nsIn K mainGlobals "heap_with_room" = some (some (.ref (Sh.gA K "heap_with_room")))) ∧ (PySem.W.nsIn K mainGlobals "heap_after" = some (some (.ref (Sh.gA K "heap_after")))) ∧ (PySem.W.nsIn K mainGlobals "place_over_next" = some (some (.ref (Sh.gA K "place_over_next")))) ∧ (PySem.W.nsIn K mainGlobals "_law_number" = some (some (.ref (Sh.gA K "_law_number")))) ∧ (PySem.W.nsIn K mainGlobals "_law_take" = some (some (.ref (Sh.gA K "_law_take")))) := by
  unfold gr8 at h
  obtain ⟨h0, h⟩ := Sh.band h
  obtain ⟨h1, h⟩ := Sh.band h
  obtain ⟨h2, h⟩ := Sh.band h
  obtain ⟨h3, h⟩ := Sh.band h
  obtain ⟨h4, h⟩ := Sh.band h
  obtain ⟨h5, h⟩ := Sh.band h
  obtain ⟨h6, h⟩ := Sh.band h
  obtain ⟨h7, h⟩ := Sh.band h
  obtain ⟨h8, h⟩ := Sh.band h
  obtain ⟨h9, h⟩ := Sh.band h
  obtain ⟨h10, h⟩ := Sh.band h
  exact ⟨of_decide_eq_true h0, of_decide_eq_true h1, of_decide_eq_true h2, of_decide_eq_true h3, of_decide_eq_true h4, of_decide_eq_true h5, of_decide_eq_true h6, of_decide_eq_true h7, of_decide_eq_true h8, of_decide_eq_true h9, of_decide_eq_true h10, of_decide_eq_true h⟩
def gr9 (K : PySem.W.Frag) : Bool := decide (PySem.W.nsIn K mainGlobals "_law_pick" = some (some (.ref (Sh.gA K "_law_pick")))) && (decide (PySem.W.nsIn K mainGlobals "_law_arms" = some (some (.ref (Sh.gA K "_law_arms")))) && (decide (PySem.W.nsIn K mainGlobals "_law_undone_right" = some (some (.ref (Sh.gA K "_law_undone_right")))) && (decide (PySem.W.nsIn K mainGlobals "_law_done" = some (some (.ref (Sh.gA K "_law_done")))) && (decide (PySem.W.nsIn K mainGlobals "law" = some (some (.ref (Sh.gA K "law")))) && (decide (((He.tabOf K (Sh.cdA K (Sh.gA K "least_child"))) == (He.tabOf K (Sh.cdA K (Sh.gA K "undo_push")))) = false) && (decide (PySem.W.nsIn K mainGlobals "GREATEST_KEY" = some (some (.int 1000000000 (Sh.tokI K mainGlobals "GREATEST_KEY")))) && (decide (PySem.W.nsIn K mainGlobals "MOST_ARMS" = some (some (.int 4 (Sh.tokI K mainGlobals "MOST_ARMS")))) && (decide (PySem.W.nsIn K mainGlobals "MOST_PLACES" = some (some (.int 12 (Sh.tokI K mainGlobals "MOST_PLACES")))) && (decide (PySem.W.nsIn K mainGlobals "bool" = some none) && (decide (PySem.W.nsIn K mainGlobals "enumerate" = some none) && (decide (PySem.W.nsIn K mainGlobals "int" = some none))))))))))))
theorem gr9_ok {K : PySem.W.Frag} (h : gr9 K = true) : (PySem.W.nsIn K mainGlobals "_law_pick" = some (some (.ref (Sh.gA K "_law_pick")))) ∧ (PySem.W.nsIn K mainGlobals "_law_arms" = some (some (.ref (Sh.gA K "_law_arms")))) ∧ (PySem.W.nsIn K mainGlobals "_law_undone_right" = some (some (.ref (Sh.gA K "_law_undone_right")))) ∧ (PySem.W.nsIn K mainGlobals "_law_done" = some (some (.ref (Sh.gA K "_law_done")))) ∧ (PySem.W.nsIn K mainGlobals "law" = some (some (.ref (Sh.gA K "law")))) ∧ (((He.tabOf K (Sh.cdA K (Sh.gA K "least_child"))) == (He.tabOf K (Sh.cdA K (Sh.gA K "undo_push")))) = false) ∧ (PySem.W.nsIn K mainGlobals "GREATEST_KEY" = some (some (.int 1000000000 (Sh.tokI K mainGlobals "GREATEST_KEY")))) ∧ (PySem.W.nsIn K mainGlobals "MOST_ARMS" = some (some (.int 4 (Sh.tokI K mainGlobals "MOST_ARMS")))) ∧ (PySem.W.nsIn K mainGlobals "MOST_PLACES" = some (some (.int 12 (Sh.tokI K mainGlobals "MOST_PLACES")))) ∧ (PySem.W.nsIn K mainGlobals "bool" = some none) ∧ (PySem.W.nsIn K mainGlobals "enumerate" = some none) ∧ (PySem.W.nsIn K mainGlobals "int" = some none) := by
  unfold gr9 at h
  obtain ⟨h0, h⟩ := Sh.band h
  obtain ⟨h1, h⟩ := Sh.band h
  obtain ⟨h2, h⟩ := Sh.band h
  obtain ⟨h3, h⟩ := Sh.band h
  obtain ⟨h4, h⟩ := Sh.band h
  obtain ⟨h5, h⟩ := Sh.band h
  obtain ⟨h6, h⟩ := Sh.band h
  obtain ⟨h7, h⟩ := Sh.band h
  obtain ⟨h8, h⟩ := Sh.band h
  obtain ⟨h9, h⟩ := Sh.band h
  obtain ⟨h10, h⟩ := Sh.band h
  exact ⟨of_decide_eq_true h0, of_decide_eq_true h1, of_decide_eq_true h2, of_decide_eq_true h3, of_decide_eq_true h4, of_decide_eq_true h5, of_decide_eq_true h6, of_decide_eq_true h7, of_decide_eq_true h8, of_decide_eq_true h9, of_decide_eq_true h10, of_decide_eq_true h⟩
def gr10 (K : PySem.W.Frag) : Bool := decide (PySem.W.nsIn K mainGlobals "isinstance" = some none) && (decide (PySem.W.nsIn K mainGlobals "iter" = some none) && (decide (PySem.W.nsIn K mainGlobals "len" = some none) && (decide (PySem.W.nsIn K mainGlobals "list" = some none) && (decide (PySem.W.nsIn K mainGlobals "min" = some none) && (decide (PySem.W.nsIn K mainGlobals "range" = some none) && (decide (PySem.W.nsIn K mainGlobals "reversed" = some none) && (decide (PySem.W.nsIn K mainGlobals "set" = some none) && (decide (PySem.W.nsIn K mainGlobals "sorted" = some none) && (decide (PySem.W.nsIn K mainGlobals "sum" = some none) && (decide (PySem.W.nsIn K mainGlobals "tuple" = some none) && (decide (PySem.W.nsIn K mainGlobals "zip" = some none))))))))))))
theorem gr10_ok {K : PySem.W.Frag} (h : gr10 K = true) : (PySem.W.nsIn K mainGlobals "isinstance" = some none) ∧ (PySem.W.nsIn K mainGlobals "iter" = some none) ∧ (PySem.W.nsIn K mainGlobals "len" = some none) ∧ (PySem.W.nsIn K mainGlobals "list" = some none) ∧ (PySem.W.nsIn K mainGlobals "min" = some none) ∧ (PySem.W.nsIn K mainGlobals "range" = some none) ∧ (PySem.W.nsIn K mainGlobals "reversed" = some none) ∧ (PySem.W.nsIn K mainGlobals "set" = some none) ∧ (PySem.W.nsIn K mainGlobals "sorted" = some none) ∧ (PySem.W.nsIn K mainGlobals "sum" = some none) ∧ (PySem.W.nsIn K mainGlobals "tuple" = some none) ∧ (PySem.W.nsIn K mainGlobals "zip" = some none) := by
  unfold gr10 at h
  obtain ⟨h0, h⟩ := Sh.band h
  obtain ⟨h1, h⟩ := Sh.band h
  obtain ⟨h2, h⟩ := Sh.band h
  obtain ⟨h3, h⟩ := Sh.band h
  obtain ⟨h4, h⟩ := Sh.band h
  obtain ⟨h5, h⟩ := Sh.band h
  obtain ⟨h6, h⟩ := Sh.band h
  obtain ⟨h7, h⟩ := Sh.band h
  obtain ⟨h8, h⟩ := Sh.band h
  obtain ⟨h9, h⟩ := Sh.band h
  obtain ⟨h10, h⟩ := Sh.band h
  exact ⟨of_decide_eq_true h0, of_decide_eq_true h1, of_decide_eq_true h2, of_decide_eq_true h3, of_decide_eq_true h4, of_decide_eq_true h5, of_decide_eq_true h6, of_decide_eq_true h7, of_decide_eq_true h8, of_decide_eq_true h9, of_decide_eq_true h10, of_decide_eq_true h⟩
def gr11 (K : PySem.W.Frag) : Bool := decide (PySem.W.plainGet K (Sh.gA K "Tree") Str.empty = true) && (decide (PySem.W.hasDictIn K (Sh.gA K "Tree") = true) && (decide (PySem.W.plainOver K (Sh.gA K "Tree") = true) && (decide (PySem.W.findIn K (.ref (Sh.gA K "Tree")) "__setattr__" = some (some (.builtin "object.__setattr__"))) && (decide (PySem.W.findIn K (.ref (Sh.gA K "Tree")) "many" = some none) && (decide (PySem.W.findIn K (.ref (Sh.gA K "Tree")) "arms" = some none) && (decide (PySem.W.findIn K (.ref (Sh.gA K "Tree")) "_places" = some none) && (decide (PySem.W.makesIn K (Sh.gA K "Tree") = true) && (decide (PySem.W.keepIn K (.ref (Sh.gA K "Tree")) = true) && (decide (PySem.W.readsIn K (Sh.gA K "Tree") (.type "type") = true) && (decide (PySem.W.specialIn K (.ref (Sh.gA K "Tree")) "__getattribute__" = some (some (.builtin "type.__getattribute__"))) && (decide (PySem.W.plainGet K (Sh.gA K "Sift") Str.empty = true))))))))))))
theorem gr11_ok {K : PySem.W.Frag} (h : gr11 K = true) : (PySem.W.plainGet K (Sh.gA K "Tree") Str.empty = true) ∧ (PySem.W.hasDictIn K (Sh.gA K "Tree") = true) ∧ (PySem.W.plainOver K (Sh.gA K "Tree") = true) ∧ (PySem.W.findIn K (.ref (Sh.gA K "Tree")) "__setattr__" = some (some (.builtin "object.__setattr__"))) ∧ (PySem.W.findIn K (.ref (Sh.gA K "Tree")) "many" = some none) ∧ (PySem.W.findIn K (.ref (Sh.gA K "Tree")) "arms" = some none) ∧ (PySem.W.findIn K (.ref (Sh.gA K "Tree")) "_places" = some none) ∧ (PySem.W.makesIn K (Sh.gA K "Tree") = true) ∧ (PySem.W.keepIn K (.ref (Sh.gA K "Tree")) = true) ∧ (PySem.W.readsIn K (Sh.gA K "Tree") (.type "type") = true) ∧ (PySem.W.specialIn K (.ref (Sh.gA K "Tree")) "__getattribute__" = some (some (.builtin "type.__getattribute__"))) ∧ (PySem.W.plainGet K (Sh.gA K "Sift") Str.empty = true) := by
  unfold gr11 at h
  obtain ⟨h0, h⟩ := Sh.band h
  obtain ⟨h1, h⟩ := Sh.band h
  obtain ⟨h2, h⟩ := Sh.band h
  obtain ⟨h3, h⟩ := Sh.band h
  obtain ⟨h4, h⟩ := Sh.band h
  obtain ⟨h5, h⟩ := Sh.band h
  obtain ⟨h6, h⟩ := Sh.band h
  obtain ⟨h7, h⟩ := Sh.band h
  obtain ⟨h8, h⟩ := Sh.band h
  obtain ⟨h9, h⟩ := Sh.band h
  obtain ⟨h10, h⟩ := Sh.band h
  exact ⟨of_decide_eq_true h0, of_decide_eq_true h1, of_decide_eq_true h2, of_decide_eq_true h3, of_decide_eq_true h4, of_decide_eq_true h5, of_decide_eq_true h6, of_decide_eq_true h7, of_decide_eq_true h8, of_decide_eq_true h9, of_decide_eq_true h10, of_decide_eq_true h⟩
def gr12 (K : PySem.W.Frag) : Bool := decide (PySem.W.hasDictIn K (Sh.gA K "Sift") = true) && (decide (PySem.W.plainOver K (Sh.gA K "Sift") = true) && (decide (PySem.W.findIn K (.ref (Sh.gA K "Sift")) "__setattr__" = some (some (.builtin "object.__setattr__"))) && (decide (PySem.W.findIn K (.ref (Sh.gA K "Sift")) "row" = some none) && (decide (PySem.W.findIn K (.ref (Sh.gA K "Sift")) "way" = some none) && (decide (PySem.W.findIn K (.ref (Sh.gA K "Sift")) "looks" = some none) && (decide (PySem.W.makesIn K (Sh.gA K "Sift") = true) && (decide (PySem.W.keepIn K (.ref (Sh.gA K "Sift")) = true) && (decide (PySem.W.plainGet K (Sh.gA K "Built") Str.empty = true) && (decide (PySem.W.hasDictIn K (Sh.gA K "Built") = true) && (decide (PySem.W.plainOver K (Sh.gA K "Built") = true) && (decide (PySem.W.findIn K (.ref (Sh.gA K "Built")) "__setattr__" = some (some (.builtin "object.__setattr__"))))))))))))))
theorem gr12_ok {K : PySem.W.Frag} (h : gr12 K = true) : (PySem.W.hasDictIn K (Sh.gA K "Sift") = true) ∧ (PySem.W.plainOver K (Sh.gA K "Sift") = true) ∧ (PySem.W.findIn K (.ref (Sh.gA K "Sift")) "__setattr__" = some (some (.builtin "object.__setattr__"))) ∧ (PySem.W.findIn K (.ref (Sh.gA K "Sift")) "row" = some none) ∧ (PySem.W.findIn K (.ref (Sh.gA K "Sift")) "way" = some none) ∧ (PySem.W.findIn K (.ref (Sh.gA K "Sift")) "looks" = some none) ∧ (PySem.W.makesIn K (Sh.gA K "Sift") = true) ∧ (PySem.W.keepIn K (.ref (Sh.gA K "Sift")) = true) ∧ (PySem.W.plainGet K (Sh.gA K "Built") Str.empty = true) ∧ (PySem.W.hasDictIn K (Sh.gA K "Built") = true) ∧ (PySem.W.plainOver K (Sh.gA K "Built") = true) ∧ (PySem.W.findIn K (.ref (Sh.gA K "Built")) "__setattr__" = some (some (.builtin "object.__setattr__"))) := by
  unfold gr12 at h
  obtain ⟨h0, h⟩ := Sh.band h
  obtain ⟨h1, h⟩ := Sh.band h
  obtain ⟨h2, h⟩ := Sh.band h
  obtain ⟨h3, h⟩ := Sh.band h
  obtain ⟨h4, h⟩ := Sh.band h
  obtain ⟨h5, h⟩ := Sh.band h
  obtain ⟨h6, h⟩ := Sh.band h
  obtain ⟨h7, h⟩ := Sh.band h
  obtain ⟨h8, h⟩ := Sh.band h
  obtain ⟨h9, h⟩ := Sh.band h
  obtain ⟨h10, h⟩ := Sh.band h
  exact ⟨of_decide_eq_true h0, of_decide_eq_true h1, of_decide_eq_true h2, of_decide_eq_true h3, of_decide_eq_true h4, of_decide_eq_true h5, of_decide_eq_true h6, of_decide_eq_true h7, of_decide_eq_true h8, of_decide_eq_true h9, of_decide_eq_true h10, of_decide_eq_true h⟩
def gr13 (K : PySem.W.Frag) : Bool := decide (PySem.W.findIn K (.ref (Sh.gA K "Built")) "row" = some none) && (decide (PySem.W.findIn K (.ref (Sh.gA K "Built")) "stops" = some none) && (decide (PySem.W.findIn K (.ref (Sh.gA K "Built")) "changes" = some none) && (decide (PySem.W.findIn K (.ref (Sh.gA K "Built")) "looks" = some none) && (decide (PySem.W.makesIn K (Sh.gA K "Built") = true) && (decide (PySem.W.keepIn K (.ref (Sh.gA K "Built")) = true) && (decide (PySem.W.plainGet K (Sh.gA K "Undone") Str.empty = true) && (decide (PySem.W.hasDictIn K (Sh.gA K "Undone") = true) && (decide (PySem.W.plainOver K (Sh.gA K "Undone") = true) && (decide (PySem.W.findIn K (.ref (Sh.gA K "Undone")) "__setattr__" = some (some (.builtin "object.__setattr__"))) && (decide (PySem.W.findIn K (.ref (Sh.gA K "Undone")) "row" = some none) && (decide (PySem.W.findIn K (.ref (Sh.gA K "Undone")) "key" = some none))))))))))))
theorem gr13_ok {K : PySem.W.Frag} (h : gr13 K = true) : (PySem.W.findIn K (.ref (Sh.gA K "Built")) "row" = some none) ∧ (PySem.W.findIn K (.ref (Sh.gA K "Built")) "stops" = some none) ∧ (PySem.W.findIn K (.ref (Sh.gA K "Built")) "changes" = some none) ∧ (PySem.W.findIn K (.ref (Sh.gA K "Built")) "looks" = some none) ∧ (PySem.W.makesIn K (Sh.gA K "Built") = true) ∧ (PySem.W.keepIn K (.ref (Sh.gA K "Built")) = true) ∧ (PySem.W.plainGet K (Sh.gA K "Undone") Str.empty = true) ∧ (PySem.W.hasDictIn K (Sh.gA K "Undone") = true) ∧ (PySem.W.plainOver K (Sh.gA K "Undone") = true) ∧ (PySem.W.findIn K (.ref (Sh.gA K "Undone")) "__setattr__" = some (some (.builtin "object.__setattr__"))) ∧ (PySem.W.findIn K (.ref (Sh.gA K "Undone")) "row" = some none) ∧ (PySem.W.findIn K (.ref (Sh.gA K "Undone")) "key" = some none) := by
  unfold gr13 at h
  obtain ⟨h0, h⟩ := Sh.band h
  obtain ⟨h1, h⟩ := Sh.band h
  obtain ⟨h2, h⟩ := Sh.band h
  obtain ⟨h3, h⟩ := Sh.band h
  obtain ⟨h4, h⟩ := Sh.band h
  obtain ⟨h5, h⟩ := Sh.band h
  obtain ⟨h6, h⟩ := Sh.band h
  obtain ⟨h7, h⟩ := Sh.band h
  obtain ⟨h8, h⟩ := Sh.band h
  obtain ⟨h9, h⟩ := Sh.band h
  obtain ⟨h10, h⟩ := Sh.band h
  exact ⟨of_decide_eq_true h0, of_decide_eq_true h1, of_decide_eq_true h2, of_decide_eq_true h3, of_decide_eq_true h4, of_decide_eq_true h5, of_decide_eq_true h6, of_decide_eq_true h7, of_decide_eq_true h8, of_decide_eq_true h9, of_decide_eq_true h10, of_decide_eq_true h⟩
def gr14 (K : PySem.W.Frag) : Bool := decide (PySem.W.makesIn K (Sh.gA K "Undone") = true) && (decide (PySem.W.keepIn K (.ref (Sh.gA K "Undone")) = true) && (decide (PySem.W.findIn K (.ref (Sh.gA K "Undone")) "__ne__" = some (some (.builtin "object.__ne__"))) && (decide (PySem.W.subIn K (.ref (Sh.gA K "Undone")) (.type "object") = some true) && (decide (PySem.W.subIn K (.type "int") (.ref (Sh.gA K "Undone")) = some false) && (decide (PySem.W.subIn K (.type "tuple") (.ref (Sh.gA K "Undone")) = some false) && (decide (PySem.W.findIn K (.ref (Sh.gA K "Undone")) "__class__" = some (some (.builtin "object.__class__"))) && (decide (PySem.W.specialIn K (.builtin "object.__class__") "__get__" = some (some (.builtin "getset_descriptor.__get__"))) && (decide (PySem.W.takesIn K (.builtin "object.__class__") = some true) && (decide (PySem.W.mroIn K (Sh.gA K "Undone") (.type "object") = some true) && (decide (PySem.W.isClsIn K (Sh.gA K "Undone") = true) && (decide (PySem.W.typeIn K (.ref (Sh.gA K "Undone")) = some (.type "type")))))))))))))
theorem gr14_ok {K : PySem.W.Frag} (h : gr14 K = true) : (PySem.W.makesIn K (Sh.gA K "Undone") = true) ∧ (PySem.W.keepIn K (.ref (Sh.gA K "Undone")) = true) ∧ (PySem.W.findIn K (.ref (Sh.gA K "Undone")) "__ne__" = some (some (.builtin "object.__ne__"))) ∧ (PySem.W.subIn K (.ref (Sh.gA K "Undone")) (.type "object") = some true) ∧ (PySem.W.subIn K (.type "int") (.ref (Sh.gA K "Undone")) = some false) ∧ (PySem.W.subIn K (.type "tuple") (.ref (Sh.gA K "Undone")) = some false) ∧ (PySem.W.findIn K (.ref (Sh.gA K "Undone")) "__class__" = some (some (.builtin "object.__class__"))) ∧ (PySem.W.specialIn K (.builtin "object.__class__") "__get__" = some (some (.builtin "getset_descriptor.__get__"))) ∧ (PySem.W.takesIn K (.builtin "object.__class__") = some true) ∧ (PySem.W.mroIn K (Sh.gA K "Undone") (.type "object") = some true) ∧ (PySem.W.isClsIn K (Sh.gA K "Undone") = true) ∧ (PySem.W.typeIn K (.ref (Sh.gA K "Undone")) = some (.type "type")) := by
  unfold gr14 at h
  obtain ⟨h0, h⟩ := Sh.band h
  obtain ⟨h1, h⟩ := Sh.band h
  obtain ⟨h2, h⟩ := Sh.band h
  obtain ⟨h3, h⟩ := Sh.band h
  obtain ⟨h4, h⟩ := Sh.band h
  obtain ⟨h5, h⟩ := Sh.band h
  obtain ⟨h6, h⟩ := Sh.band h
  obtain ⟨h7, h⟩ := Sh.band h
  obtain ⟨h8, h⟩ := Sh.band h
  obtain ⟨h9, h⟩ := Sh.band h
  obtain ⟨h10, h⟩ := Sh.band h
  exact ⟨of_decide_eq_true h0, of_decide_eq_true h1, of_decide_eq_true h2, of_decide_eq_true h3, of_decide_eq_true h4, of_decide_eq_true h5, of_decide_eq_true h6, of_decide_eq_true h7, of_decide_eq_true h8, of_decide_eq_true h9, of_decide_eq_true h10, of_decide_eq_true h⟩
def gr15 (K : PySem.W.Frag) : Bool := decide (PySem.W.subIn K (.ref (Sh.gA K "Stuck")) (.ref (Sh.gA K "Undone")) = some false) && (decide (((Sh.gA K "Stuck") == (Sh.gA K "Undone")) = false) && (decide (PySem.W.plainGet K (Sh.gA K "Stuck") Str.empty = true) && (decide (PySem.W.hasDictIn K (Sh.gA K "Stuck") = true) && (decide (PySem.W.plainOver K (Sh.gA K "Stuck") = true) && (decide (PySem.W.findIn K (.ref (Sh.gA K "Stuck")) "__setattr__" = some (some (.builtin "object.__setattr__"))) && (decide (PySem.W.findIn K (.ref (Sh.gA K "Stuck")) "place" = some none) && (decide (PySem.W.findIn K (.ref (Sh.gA K "Stuck")) "other" = some none) && (decide (PySem.W.makesIn K (Sh.gA K "Stuck") = true) && (decide (PySem.W.keepIn K (.ref (Sh.gA K "Stuck")) = true) && (decide (PySem.W.findIn K (.ref (Sh.gA K "Stuck")) "__class__" = some (some (.builtin "object.__class__"))) && (decide (PySem.W.specialIn K (.builtin "object.__class__") "__get__" = some (some (.builtin "getset_descriptor.__get__"))))))))))))))
theorem gr15_ok {K : PySem.W.Frag} (h : gr15 K = true) : (PySem.W.subIn K (.ref (Sh.gA K "Stuck")) (.ref (Sh.gA K "Undone")) = some false) ∧ (((Sh.gA K "Stuck") == (Sh.gA K "Undone")) = false) ∧ (PySem.W.plainGet K (Sh.gA K "Stuck") Str.empty = true) ∧ (PySem.W.hasDictIn K (Sh.gA K "Stuck") = true) ∧ (PySem.W.plainOver K (Sh.gA K "Stuck") = true) ∧ (PySem.W.findIn K (.ref (Sh.gA K "Stuck")) "__setattr__" = some (some (.builtin "object.__setattr__"))) ∧ (PySem.W.findIn K (.ref (Sh.gA K "Stuck")) "place" = some none) ∧ (PySem.W.findIn K (.ref (Sh.gA K "Stuck")) "other" = some none) ∧ (PySem.W.makesIn K (Sh.gA K "Stuck") = true) ∧ (PySem.W.keepIn K (.ref (Sh.gA K "Stuck")) = true) ∧ (PySem.W.findIn K (.ref (Sh.gA K "Stuck")) "__class__" = some (some (.builtin "object.__class__"))) ∧ (PySem.W.specialIn K (.builtin "object.__class__") "__get__" = some (some (.builtin "getset_descriptor.__get__"))) := by
  unfold gr15 at h
  obtain ⟨h0, h⟩ := Sh.band h
  obtain ⟨h1, h⟩ := Sh.band h
  obtain ⟨h2, h⟩ := Sh.band h
  obtain ⟨h3, h⟩ := Sh.band h
  obtain ⟨h4, h⟩ := Sh.band h
  obtain ⟨h5, h⟩ := Sh.band h
  obtain ⟨h6, h⟩ := Sh.band h
  obtain ⟨h7, h⟩ := Sh.band h
  obtain ⟨h8, h⟩ := Sh.band h
  obtain ⟨h9, h⟩ := Sh.band h
  obtain ⟨h10, h⟩ := Sh.band h
  exact ⟨of_decide_eq_true h0, of_decide_eq_true h1, of_decide_eq_true h2, of_decide_eq_true h3, of_decide_eq_true h4, of_decide_eq_true h5, of_decide_eq_true h6, of_decide_eq_true h7, of_decide_eq_true h8, of_decide_eq_true h9, of_decide_eq_true h10, of_decide_eq_true h⟩
def gr16 (K : PySem.W.Frag) : Bool := decide (PySem.W.takesIn K (.builtin "object.__class__") = some true) && (decide (PySem.W.mroIn K (Sh.gA K "Stuck") (.type "object") = some true) && (decide (PySem.W.isClsIn K (Sh.gA K "Stuck") = true) && (decide (PySem.W.typeIn K (.ref (Sh.gA K "Stuck")) = some (.type "type")) && (decide (PySem.W.subIn K (.ref (Sh.gA K "Undone")) (.ref (Sh.gA K "Stuck")) = some false) && (decide (((Sh.gA K "Undone") == (Sh.gA K "Stuck")) = false) && (decide (PySem.W.plainGet K (Sh.gA K "Before") Str.empty = true) && (decide (PySem.W.hasDictIn K (Sh.gA K "Before") = true) && (decide (PySem.W.plainOver K (Sh.gA K "Before") = true) && (decide (PySem.W.findIn K (.ref (Sh.gA K "Before")) "__setattr__" = some (some (.builtin "object.__setattr__"))) && (decide (PySem.W.findIn K (.ref (Sh.gA K "Before")) "row" = some none) && (decide (PySem.W.makesIn K (Sh.gA K "Before") = true))))))))))))
theorem gr16_ok {K : PySem.W.Frag} (h : gr16 K = true) : (PySem.W.takesIn K (.builtin "object.__class__") = some true) ∧ (PySem.W.mroIn K (Sh.gA K "Stuck") (.type "object") = some true) ∧ (PySem.W.isClsIn K (Sh.gA K "Stuck") = true) ∧ (PySem.W.typeIn K (.ref (Sh.gA K "Stuck")) = some (.type "type")) ∧ (PySem.W.subIn K (.ref (Sh.gA K "Undone")) (.ref (Sh.gA K "Stuck")) = some false) ∧ (((Sh.gA K "Undone") == (Sh.gA K "Stuck")) = false) ∧ (PySem.W.plainGet K (Sh.gA K "Before") Str.empty = true) ∧ (PySem.W.hasDictIn K (Sh.gA K "Before") = true) ∧ (PySem.W.plainOver K (Sh.gA K "Before") = true) ∧ (PySem.W.findIn K (.ref (Sh.gA K "Before")) "__setattr__" = some (some (.builtin "object.__setattr__"))) ∧ (PySem.W.findIn K (.ref (Sh.gA K "Before")) "row" = some none) ∧ (PySem.W.makesIn K (Sh.gA K "Before") = true) := by
  unfold gr16 at h
  obtain ⟨h0, h⟩ := Sh.band h
  obtain ⟨h1, h⟩ := Sh.band h
  obtain ⟨h2, h⟩ := Sh.band h
  obtain ⟨h3, h⟩ := Sh.band h
  obtain ⟨h4, h⟩ := Sh.band h
  obtain ⟨h5, h⟩ := Sh.band h
  obtain ⟨h6, h⟩ := Sh.band h
  obtain ⟨h7, h⟩ := Sh.band h
  obtain ⟨h8, h⟩ := Sh.band h
  obtain ⟨h9, h⟩ := Sh.band h
  obtain ⟨h10, h⟩ := Sh.band h
  exact ⟨of_decide_eq_true h0, of_decide_eq_true h1, of_decide_eq_true h2, of_decide_eq_true h3, of_decide_eq_true h4, of_decide_eq_true h5, of_decide_eq_true h6, of_decide_eq_true h7, of_decide_eq_true h8, of_decide_eq_true h9, of_decide_eq_true h10, of_decide_eq_true h⟩
def gr17 (K : PySem.W.Frag) : Bool := decide (PySem.W.keepIn K (.ref (Sh.gA K "Before")) = true) && (decide (PySem.W.plainGet K (Sh.gA K "Over") Str.empty = true) && (decide (PySem.W.hasDictIn K (Sh.gA K "Over") = true) && (decide (PySem.W.plainOver K (Sh.gA K "Over") = true) && (decide (PySem.W.findIn K (.ref (Sh.gA K "Over")) "__setattr__" = some (some (.builtin "object.__setattr__"))) && (decide (PySem.W.findIn K (.ref (Sh.gA K "Over")) "place" = some none) && (decide (PySem.W.findIn K (.ref (Sh.gA K "Over")) "key" = some none) && (decide (PySem.W.makesIn K (Sh.gA K "Over") = true) && (decide (PySem.W.keepIn K (.ref (Sh.gA K "Over")) = true) && (Sh.fnB K (Sh.gA K "is_integer") "is_integer" false && (Sh.fnB K (Sh.gA K "is_integer_from") "is_integer_from" false && (Sh.fnB K (Sh.gA K "is_key") "is_key" false)))))))))))
theorem gr17_ok {K : PySem.W.Frag} (h : gr17 K = true) : (PySem.W.keepIn K (.ref (Sh.gA K "Before")) = true) ∧ (PySem.W.plainGet K (Sh.gA K "Over") Str.empty = true) ∧ (PySem.W.hasDictIn K (Sh.gA K "Over") = true) ∧ (PySem.W.plainOver K (Sh.gA K "Over") = true) ∧ (PySem.W.findIn K (.ref (Sh.gA K "Over")) "__setattr__" = some (some (.builtin "object.__setattr__"))) ∧ (PySem.W.findIn K (.ref (Sh.gA K "Over")) "place" = some none) ∧ (PySem.W.findIn K (.ref (Sh.gA K "Over")) "key" = some none) ∧ (PySem.W.makesIn K (Sh.gA K "Over") = true) ∧ (PySem.W.keepIn K (.ref (Sh.gA K "Over")) = true) ∧ (Sh.fnB K (Sh.gA K "is_integer") "is_integer" false = true) ∧ (Sh.fnB K (Sh.gA K "is_integer_from") "is_integer_from" false = true) ∧ (Sh.fnB K (Sh.gA K "is_key") "is_key" false = true) := by
  unfold gr17 at h
  obtain ⟨h0, h⟩ := Sh.band h
  obtain ⟨h1, h⟩ := Sh.band h
  obtain ⟨h2, h⟩ := Sh.band h
  obtain ⟨h3, h⟩ := Sh.band h
  obtain ⟨h4, h⟩ := Sh.band h
  obtain ⟨h5, h⟩ := Sh.band h
  obtain ⟨h6, h⟩ := Sh.band h
  obtain ⟨h7, h⟩ := Sh.band h
  obtain ⟨h8, h⟩ := Sh.band h
  obtain ⟨h9, h⟩ := Sh.band h
  obtain ⟨h10, h⟩ := Sh.band h
  exact ⟨of_decide_eq_true h0, of_decide_eq_true h1, of_decide_eq_true h2, of_decide_eq_true h3, of_decide_eq_true h4, of_decide_eq_true h5, of_decide_eq_true h6, of_decide_eq_true h7, of_decide_eq_true h8, h9, h10, h⟩
def gr18 (K : PySem.W.Frag) : Bool := Sh.fnB K (Sh.gA K "check_arms") "check_arms" false && (Sh.fnB K (Sh.gA K "check_many") "check_many" false && (Sh.fnB K (Sh.gA K "check_place") "check_place" false && (Sh.fnB K (Sh.gA K "check_key") "check_key" false && (Sh.fnB K (Sh.gA K "row_of") "row_of" false && (Sh.fnB K (Sh.gA K "check_different") "check_different" false && (Sh.fnB K (Sh.mA K (Sh.gA K "Tree") "__init__") "Tree.__init__" true && (Sh.fnB K (Sh.recA K (Sh.clsA K (Sh.gA K "Tree") "of") "classmethod") "Tree.of" true && (Sh.fnB K (Sh.mA K (Sh.gA K "Tree") "__len__") "Tree.__len__" false && (Sh.fnB K (Sh.mA K (Sh.gA K "Tree") "__contains__") "Tree.__contains__" false && (Sh.fnB K (Sh.mA K (Sh.gA K "Tree") "__iter__") "Tree.__iter__" false && (Sh.fnB K (Sh.mA K (Sh.gA K "Tree") "__getitem__") "Tree.__getitem__" false)))))))))))
theorem gr18_ok {K : PySem.W.Frag} (h : gr18 K = true) : (Sh.fnB K (Sh.gA K "check_arms") "check_arms" false = true) ∧ (Sh.fnB K (Sh.gA K "check_many") "check_many" false = true) ∧ (Sh.fnB K (Sh.gA K "check_place") "check_place" false = true) ∧ (Sh.fnB K (Sh.gA K "check_key") "check_key" false = true) ∧ (Sh.fnB K (Sh.gA K "row_of") "row_of" false = true) ∧ (Sh.fnB K (Sh.gA K "check_different") "check_different" false = true) ∧ (Sh.fnB K (Sh.mA K (Sh.gA K "Tree") "__init__") "Tree.__init__" true = true) ∧ (Sh.fnB K (Sh.recA K (Sh.clsA K (Sh.gA K "Tree") "of") "classmethod") "Tree.of" true = true) ∧ (Sh.fnB K (Sh.mA K (Sh.gA K "Tree") "__len__") "Tree.__len__" false = true) ∧ (Sh.fnB K (Sh.mA K (Sh.gA K "Tree") "__contains__") "Tree.__contains__" false = true) ∧ (Sh.fnB K (Sh.mA K (Sh.gA K "Tree") "__iter__") "Tree.__iter__" false = true) ∧ (Sh.fnB K (Sh.mA K (Sh.gA K "Tree") "__getitem__") "Tree.__getitem__" false = true) := by
  unfold gr18 at h
  obtain ⟨h0, h⟩ := Sh.band h
  obtain ⟨h1, h⟩ := Sh.band h
  obtain ⟨h2, h⟩ := Sh.band h
  obtain ⟨h3, h⟩ := Sh.band h
  obtain ⟨h4, h⟩ := Sh.band h
  obtain ⟨h5, h⟩ := Sh.band h
  obtain ⟨h6, h⟩ := Sh.band h
  obtain ⟨h7, h⟩ := Sh.band h
  obtain ⟨h8, h⟩ := Sh.band h
  obtain ⟨h9, h⟩ := Sh.band h
  obtain ⟨h10, h⟩ := Sh.band h
  exact ⟨h0, h1, h2, h3, h4, h5, h6, h7, h8, h9, h10, h⟩
def gr19 (K : PySem.W.Frag) : Bool := Sh.fnB K (Sh.mA K (Sh.gA K "Tree") "parent") "Tree.parent" false && (Sh.fnB K (Sh.mA K (Sh.gA K "Tree") "way_to") "Tree.way_to" false && (Sh.fnB K (Sh.mA K (Sh.gA K "Tree") "depth") "Tree.depth" false && (Sh.fnB K (Sh.mA K (Sh.gA K "Tree") "subtree") "Tree.subtree" false && (Sh.fnB K (Sh.gA K "is_heap") "is_heap" true && (Sh.fnB K (Sh.gA K "faults") "faults" true && (Sh.fnB K (Sh.gA K "heap_of") "heap_of" false && (Sh.fnB K (Sh.gA K "different_heap_of") "different_heap_of" false && (Sh.fnB K (Sh.mA K (Sh.gA K "Sift") "__init__") "Sift.__init__" false && (Sh.fnB K (Sh.gA K "sift_up") "sift_up" true && (Sh.fnB K (Sh.gA K "sift_down") "sift_down" true && (Sh.fnB K (Sh.gA K "least_child") "least_child" false)))))))))))
theorem gr19_ok {K : PySem.W.Frag} (h : gr19 K = true) : (Sh.fnB K (Sh.mA K (Sh.gA K "Tree") "parent") "Tree.parent" false = true) ∧ (Sh.fnB K (Sh.mA K (Sh.gA K "Tree") "way_to") "Tree.way_to" false = true) ∧ (Sh.fnB K (Sh.mA K (Sh.gA K "Tree") "depth") "Tree.depth" false = true) ∧ (Sh.fnB K (Sh.mA K (Sh.gA K "Tree") "subtree") "Tree.subtree" false = true) ∧ (Sh.fnB K (Sh.gA K "is_heap") "is_heap" true = true) ∧ (Sh.fnB K (Sh.gA K "faults") "faults" true = true) ∧ (Sh.fnB K (Sh.gA K "heap_of") "heap_of" false = true) ∧ (Sh.fnB K (Sh.gA K "different_heap_of") "different_heap_of" false = true) ∧ (Sh.fnB K (Sh.mA K (Sh.gA K "Sift") "__init__") "Sift.__init__" false = true) ∧ (Sh.fnB K (Sh.gA K "sift_up") "sift_up" true = true) ∧ (Sh.fnB K (Sh.gA K "sift_down") "sift_down" true = true) ∧ (Sh.fnB K (Sh.gA K "least_child") "least_child" false = true) := by
  unfold gr19 at h
  obtain ⟨h0, h⟩ := Sh.band h
  obtain ⟨h1, h⟩ := Sh.band h
  obtain ⟨h2, h⟩ := Sh.band h
  obtain ⟨h3, h⟩ := Sh.band h
  obtain ⟨h4, h⟩ := Sh.band h
  obtain ⟨h5, h⟩ := Sh.band h
  obtain ⟨h6, h⟩ := Sh.band h
  obtain ⟨h7, h⟩ := Sh.band h
  obtain ⟨h8, h⟩ := Sh.band h
  obtain ⟨h9, h⟩ := Sh.band h
  obtain ⟨h10, h⟩ := Sh.band h
  exact ⟨h0, h1, h2, h3, h4, h5, h6, h7, h8, h9, h10, h⟩
def gr20 (K : PySem.W.Frag) : Bool := Sh.fnB K (Sh.gA K "row_before") "row_before" false && (Sh.fnB K (Sh.mA K (Sh.gA K "Built") "__init__") "Built.__init__" false && (Sh.fnB K (Sh.gA K "push") "push" true && (Sh.fnB K (Sh.gA K "take") "take" true && (Sh.fnB K (Sh.gA K "take_by_hole") "take_by_hole" true && (Sh.fnB K (Sh.gA K "put_for") "put_for" true && (Sh.fnB K (Sh.gA K "build") "build" true && (Sh.fnB K (Sh.gA K "filled_heap_of") "filled_heap_of" false && (Sh.fnB K (Sh.gA K "check_filled") "check_filled" false && (Sh.fnB K (Sh.gA K "code") "code" true && (Sh.fnB K (Sh.gA K "decode") "decode" true && (Sh.fnB K (Sh.gA K "places_that_stop") "places_that_stop" false)))))))))))
theorem gr20_ok {K : PySem.W.Frag} (h : gr20 K = true) : (Sh.fnB K (Sh.gA K "row_before") "row_before" false = true) ∧ (Sh.fnB K (Sh.mA K (Sh.gA K "Built") "__init__") "Built.__init__" false = true) ∧ (Sh.fnB K (Sh.gA K "push") "push" true = true) ∧ (Sh.fnB K (Sh.gA K "take") "take" true = true) ∧ (Sh.fnB K (Sh.gA K "take_by_hole") "take_by_hole" true = true) ∧ (Sh.fnB K (Sh.gA K "put_for") "put_for" true = true) ∧ (Sh.fnB K (Sh.gA K "build") "build" true = true) ∧ (Sh.fnB K (Sh.gA K "filled_heap_of") "filled_heap_of" false = true) ∧ (Sh.fnB K (Sh.gA K "check_filled") "check_filled" false = true) ∧ (Sh.fnB K (Sh.gA K "code") "code" true = true) ∧ (Sh.fnB K (Sh.gA K "decode") "decode" true = true) ∧ (Sh.fnB K (Sh.gA K "places_that_stop") "places_that_stop" false = true) := by
  unfold gr20 at h
  obtain ⟨h0, h⟩ := Sh.band h
  obtain ⟨h1, h⟩ := Sh.band h
  obtain ⟨h2, h⟩ := Sh.band h
  obtain ⟨h3, h⟩ := Sh.band h
  obtain ⟨h4, h⟩ := Sh.band h
  obtain ⟨h5, h⟩ := Sh.band h
  obtain ⟨h6, h⟩ := Sh.band h
  obtain ⟨h7, h⟩ := Sh.band h
  obtain ⟨h8, h⟩ := Sh.band h
  obtain ⟨h9, h⟩ := Sh.band h
  obtain ⟨h10, h⟩ := Sh.band h
  exact ⟨h0, h1, h2, h3, h4, h5, h6, h7, h8, h9, h10, h⟩
def gr21 (K : PySem.W.Frag) : Bool := Sh.fnB K (Sh.gA K "check_stops") "check_stops" false && (Sh.fnB K (Sh.gA K "is_stop") "is_stop" false && (Sh.fnB K (Sh.gA K "row_with") "row_with" false && (Sh.fnB K (Sh.gA K "way_down") "way_down" false && (Sh.fnB K (Sh.gA K "fewest_changed") "fewest_changed" true && (Sh.fnB K (Sh.gA K "falling_chains") "falling_chains" false && (Sh.fnB K (Sh.mA K (Sh.gA K "Undone") "__init__") "Undone.__init__" false && (Sh.fnB K (Sh.mA K (Sh.gA K "Undone") "__eq__") "Undone.__eq__" false && (Sh.fnB K (Sh.mA K (Sh.gA K "Stuck") "__init__") "Stuck.__init__" false && (Sh.fnB K (Sh.gA K "undo_push") "undo_push" true && (Sh.fnB K (Sh.gA K "last_places") "last_places" true && (Sh.fnB K (Sh.gA K "last_way") "last_way" false)))))))))))
theorem gr21_ok {K : PySem.W.Frag} (h : gr21 K = true) : (Sh.fnB K (Sh.gA K "check_stops") "check_stops" false = true) ∧ (Sh.fnB K (Sh.gA K "is_stop") "is_stop" false = true) ∧ (Sh.fnB K (Sh.gA K "row_with") "row_with" false = true) ∧ (Sh.fnB K (Sh.gA K "way_down") "way_down" false = true) ∧ (Sh.fnB K (Sh.gA K "fewest_changed") "fewest_changed" true = true) ∧ (Sh.fnB K (Sh.gA K "falling_chains") "falling_chains" false = true) ∧ (Sh.fnB K (Sh.mA K (Sh.gA K "Undone") "__init__") "Undone.__init__" false = true) ∧ (Sh.fnB K (Sh.mA K (Sh.gA K "Undone") "__eq__") "Undone.__eq__" false = true) ∧ (Sh.fnB K (Sh.mA K (Sh.gA K "Stuck") "__init__") "Stuck.__init__" false = true) ∧ (Sh.fnB K (Sh.gA K "undo_push") "undo_push" true = true) ∧ (Sh.fnB K (Sh.gA K "last_places") "last_places" true = true) ∧ (Sh.fnB K (Sh.gA K "last_way") "last_way" false = true) := by
  unfold gr21 at h
  obtain ⟨h0, h⟩ := Sh.band h
  obtain ⟨h1, h⟩ := Sh.band h
  obtain ⟨h2, h⟩ := Sh.band h
  obtain ⟨h3, h⟩ := Sh.band h
  obtain ⟨h4, h⟩ := Sh.band h
  obtain ⟨h5, h⟩ := Sh.band h
  obtain ⟨h6, h⟩ := Sh.band h
  obtain ⟨h7, h⟩ := Sh.band h
  obtain ⟨h8, h⟩ := Sh.band h
  obtain ⟨h9, h⟩ := Sh.band h
  obtain ⟨h10, h⟩ := Sh.band h
  exact ⟨h0, h1, h2, h3, h4, h5, h6, h7, h8, h9, h10, h⟩
def gr22 (K : PySem.W.Frag) : Bool := Sh.fnB K (Sh.gA K "heap_and_way_below") "heap_and_way_below" false && (Sh.fnB K (Sh.mA K (Sh.gA K "Before") "__init__") "Before.__init__" false && (Sh.fnB K (Sh.mA K (Sh.gA K "Over") "__init__") "Over.__init__" false && (Sh.fnB K (Sh.gA K "undo_take") "undo_take" true && (Sh.fnB K (Sh.gA K "places_behind") "places_behind" true && (Sh.fnB K (Sh.gA K "heap_with_room") "heap_with_room" false && (Sh.fnB K (Sh.gA K "heap_after") "heap_after" false && (Sh.fnB K (Sh.gA K "place_over_next") "place_over_next" false && (Sh.fnB K (Sh.gA K "_law_number") "_law_number" false && (Sh.fnB K (Sh.gA K "_law_take") "_law_take" false && (Sh.fnB K (Sh.gA K "_law_pick") "_law_pick" false && (Sh.fnB K (Sh.gA K "_law_arms") "_law_arms" false)))))))))))
theorem gr22_ok {K : PySem.W.Frag} (h : gr22 K = true) : (Sh.fnB K (Sh.gA K "heap_and_way_below") "heap_and_way_below" false = true) ∧ (Sh.fnB K (Sh.mA K (Sh.gA K "Before") "__init__") "Before.__init__" false = true) ∧ (Sh.fnB K (Sh.mA K (Sh.gA K "Over") "__init__") "Over.__init__" false = true) ∧ (Sh.fnB K (Sh.gA K "undo_take") "undo_take" true = true) ∧ (Sh.fnB K (Sh.gA K "places_behind") "places_behind" true = true) ∧ (Sh.fnB K (Sh.gA K "heap_with_room") "heap_with_room" false = true) ∧ (Sh.fnB K (Sh.gA K "heap_after") "heap_after" false = true) ∧ (Sh.fnB K (Sh.gA K "place_over_next") "place_over_next" false = true) ∧ (Sh.fnB K (Sh.gA K "_law_number") "_law_number" false = true) ∧ (Sh.fnB K (Sh.gA K "_law_take") "_law_take" false = true) ∧ (Sh.fnB K (Sh.gA K "_law_pick") "_law_pick" false = true) ∧ (Sh.fnB K (Sh.gA K "_law_arms") "_law_arms" false = true) := by
  unfold gr22 at h
  obtain ⟨h0, h⟩ := Sh.band h
  obtain ⟨h1, h⟩ := Sh.band h
  obtain ⟨h2, h⟩ := Sh.band h
  obtain ⟨h3, h⟩ := Sh.band h
  obtain ⟨h4, h⟩ := Sh.band h
  obtain ⟨h5, h⟩ := Sh.band h
  obtain ⟨h6, h⟩ := Sh.band h
  obtain ⟨h7, h⟩ := Sh.band h
  obtain ⟨h8, h⟩ := Sh.band h
  obtain ⟨h9, h⟩ := Sh.band h
  obtain ⟨h10, h⟩ := Sh.band h
  exact ⟨h0, h1, h2, h3, h4, h5, h6, h7, h8, h9, h10, h⟩
def gr23 (K : PySem.W.Frag) : Bool := Sh.fnB K (Sh.gA K "_law_undone_right") "_law_undone_right" false && (Sh.fnB K (Sh.gA K "_law_done") "_law_done" false && (Sh.fnB K (Sh.gA K "law") "law" false))
theorem gr23_ok {K : PySem.W.Frag} (h : gr23 K = true) : (Sh.fnB K (Sh.gA K "_law_undone_right") "_law_undone_right" false = true) ∧ (Sh.fnB K (Sh.gA K "_law_done") "_law_done" false = true) ∧ (Sh.fnB K (Sh.gA K "law") "law" false = true) := by
  unfold gr23 at h
  obtain ⟨h0, h⟩ := Sh.band h
  obtain ⟨h1, h⟩ := Sh.band h
  exact ⟨h0, h1, h⟩
def exs (K : PySem.W.Frag) : Bool := gr0 K && (gr1 K && (gr2 K && (gr3 K && (gr4 K && (gr5 K && (gr6 K && (gr7 K && (gr8 K && (gr9 K && (gr10 K && (gr11 K && (gr12 K && (gr13 K && (gr14 K && (gr15 K && (gr16 K && (gr17 K && (gr18 K && (gr19 K && (gr20 K && (gr21 K && (gr22 K && (gr23 K)))))))))))))))))))))))
def tfs (K : PySem.W.Frag) : List (Addr × Addr) := [((Sh.cdA K (Sh.gA K "least_child")), (He.tabOf K (Sh.cdA K (Sh.gA K "least_child")))), ((Sh.cdA K (Sh.gA K "undo_push")), (He.tabOf K (Sh.cdA K (Sh.gA K "undo_push"))))]
def loose : List Str := (["_wall", "__name__", "HeapError", "BadArms", "BadMany", "BadPlace", "BadKey", "BadRow", "NotHeap", "SameKeys", "BadStops", "Empty", "Full", "MOST_ARMS", "MOST_PLACES", "GREATEST_KEY", "is_integer", "is_integer_from", "is_key", "check_arms", "check_many", "check_place", "check_key", "row_of", "check_different", "Tree", "is_heap", "faults", "heap_of", "different_heap_of"] : List Str) ++ (["Sift", "sift_up", "sift_down", "least_child", "row_before", "Built", "push", "take", "take_by_hole", "put_for", "build", "filled_heap_of", "check_filled", "code", "decode", "places_that_stop", "check_stops", "is_stop", "row_with", "way_down", "fewest_changed", "falling_chains", "Undone", "Stuck", "undo_push", "last_places", "last_way", "heap_and_way_below", "Before", "Over"] : List Str) ++ (["undo_take", "places_behind", "heap_with_room", "heap_after", "place_over_next", "_law_number", "_law_take", "_law_pick", "_law_arms", "_law_undone_right", "_law_done"] : List Str)
def adr : List Addr := List.range 1000
abbrev hk : PySem.W.Hook := Sh.hook adr fns exs tfs
theorem run (w : World) : HandSHeadRun.RunEq R0 (PySem.W.view R0.prog [81]) hk (Sh.obT adr fns exs tfs) 20000 loose w := by
  intro os
  kernel_rfl
theorem law_at {w : World} {h : Heap} {mg : Str → Option Value} {fa : Addr} {K : PySem.W.Frag} (X : K.In h) (c : Sh.Tells fns exs tfs h K) (G : h.Ns mainGlobals mg) (hfa : mg "law" = some (.ref fa)) : LamX.LawAtS PySem.Challenge.rw_heaprows_k41_whole_long w K CX0 16 63 "script" mg fa h := by
  have h := c.ex
  unfold exs at h
  obtain ⟨e0, h⟩ := Sh.band h
  obtain ⟨e1, h⟩ := Sh.band h
  obtain ⟨e2, h⟩ := Sh.band h
  obtain ⟨e3, h⟩ := Sh.band h
  obtain ⟨e4, h⟩ := Sh.band h
  obtain ⟨e5, h⟩ := Sh.band h
  obtain ⟨e6, h⟩ := Sh.band h
  obtain ⟨e7, h⟩ := Sh.band h
  obtain ⟨e8, h⟩ := Sh.band h
  obtain ⟨e9, h⟩ := Sh.band h
  obtain ⟨e10, h⟩ := Sh.band h
  obtain ⟨e11, h⟩ := Sh.band h
  obtain ⟨e12, h⟩ := Sh.band h
  obtain ⟨e13, h⟩ := Sh.band h
  obtain ⟨e14, h⟩ := Sh.band h
  obtain ⟨e15, h⟩ := Sh.band h
  obtain ⟨e16, h⟩ := Sh.band h
  obtain ⟨e17, h⟩ := Sh.band h
  obtain ⟨e18, h⟩ := Sh.band h
  obtain ⟨e19, h⟩ := Sh.band h
  obtain ⟨e20, h⟩ := Sh.band h
  obtain ⟨e21, h⟩ := Sh.band h
  obtain ⟨e22, h⟩ := Sh.band h
  obtain ⟨h_aC, h_aCS, h_aCB, h_aCU, h_aCY, h_aCQ, h_aCV, h_a_is_integer, h_a_is_integer_from, h_a_is_key, h_a_check_arms, h_a_check_many⟩ := gr0_ok e0
  obtain ⟨h_a_check_place, h_a_check_key, h_a_row_of, h_a_check_different, h_a_t___init__, h_i_t___init__, h_w_t___init__, h_a_t_of, h_r_t_of, h_n_t_of, h_w_t_of, h_a_t___len__⟩ := gr1_ok e1
  obtain ⟨h_i_t___len__, h_n_t___len__, h_a_t___contains__, h_i_t___contains__, h_n_t___contains__, h_a_t___iter__, h_i_t___iter__, h_n_t___iter__, h_a_t___getitem__, h_i_t___getitem__, h_n_t___getitem__, h_a_t_parent⟩ := gr2_ok e2
  obtain ⟨h_i_t_parent, h_a_t_way_to, h_i_t_way_to, h_a_t_depth, h_i_t_depth, h_a_t_subtree, h_i_t_subtree, h_a_is_heap, h_w_is_heap, h_a_faults, h_w_faults, h_a_heap_of⟩ := gr3_ok e3
  obtain ⟨h_a_different_heap_of, h_a_z___init__, h_i_z___init__, h_a_sift_up, h_w_sift_up, h_a_sift_down, h_w_sift_down, h_a_least_child, h_a_row_before, h_a_u___init__, h_i_u___init__, h_a_push⟩ := gr4_ok e4
  obtain ⟨h_w_push, h_a_take, h_w_take, h_a_take_by_hole, h_w_take_by_hole, h_a_put_for, h_w_put_for, h_a_build, h_w_build, h_a_filled_heap_of, h_a_check_filled, h_a_code⟩ := gr5_ok e5
  obtain ⟨h_w_code, h_a_decode, h_w_decode, h_a_places_that_stop, h_a_check_stops, h_a_is_stop, h_a_row_with, h_a_way_down, h_a_fewest_changed, h_w_fewest_changed, h_a_falling_chains, h_a_n___init__⟩ := gr6_ok e6
  obtain ⟨h_i_n___init__, h_a_n___eq__, h_i_n___eq__, h_a_y___init__, h_i_y___init__, h_a_undo_push, h_w_undo_push, h_a_last_places, h_w_last_places, h_a_last_way, h_a_heap_and_way_below, h_a_q___init__⟩ := gr7_ok e7
  obtain ⟨h_i_q___init__, h_a_v___init__, h_i_v___init__, h_a_undo_take, h_w_undo_take, h_a_places_behind, h_w_places_behind, h_a_heap_with_room, h_a_heap_after, h_a_place_over_next, h_a__law_number, h_a__law_take⟩ := gr8_ok e8
  obtain ⟨h_a__law_pick, h_a__law_arms, h_a__law_undone_right, h_a__law_done, h_a_law, h_pne, h_q_GREATEST_KEY, h_q_MOST_ARMS, h_q_MOST_PLACES, h_z_bool, h_z_enumerate, h_z_int⟩ := gr9_ok e9
  obtain ⟨h_z_isinstance, h_z_iter, h_z_len, h_z_list, h_z_min, h_z_range, h_z_reversed, h_z_set, h_z_sorted, h_z_sum, h_z_tuple, h_z_zip⟩ := gr10_ok e10
  obtain ⟨h_pg, h_hd, h_po_, h_sa, h_na_nMany, h_na_nArms, h_na_nPl, h_mk, h_kc, h_rd, h_ga, h_pgS⟩ := gr11_ok e11
  obtain ⟨h_hdS, h_po_S, h_saS, h_na_nRow, h_na_nWay, h_na_nLooks, h_mkS, h_kcS, h_pgB, h_hdB, h_po_B, h_saB⟩ := gr12_ok e12
  obtain ⟨h_na_bRow, h_na_bStops, h_na_bChanges, h_na_bLooks, h_mkB, h_kcB, h_pgU, h_hdU, h_po_U, h_saU, h_na_uRow, h_na_uKey⟩ := gr13_ok e13
  obtain ⟨h_mkU, h_kcU, h_eneU, h_eobU, h_eniU, h_entU, h_kaU, h_knU, h_ktkU, h_kmU, h_kclU, h_ktyU⟩ := gr14_ok e14
  obtain ⟨h_ensU_Stuck, h_nesU_Stuck, h_pgY, h_hdY, h_po_Y, h_saY, h_na_yPlace, h_na_yOther, h_mkY, h_kcY, h_kaY, h_knY⟩ := gr15_ok e15
  obtain ⟨h_ktkY, h_kmY, h_kclY, h_ktyY, h_ensY_Undone, h_nesY_Undone, h_pgQ, h_hdQ, h_po_Q, h_saQ, h_na_qRow, h_mkQ⟩ := gr16_ok e16
  obtain ⟨h_kcQ, h_pgV, h_hdV, h_po_V, h_saV, h_na_vPlace, h_na_vKey, h_mkV, h_kcV, h_b_is_integer, h_b_is_integer_from, h_b_is_key⟩ := gr17_ok e17
  obtain ⟨h_b_check_arms, h_b_check_many, h_b_check_place, h_b_check_key, h_b_row_of, h_b_check_different, h_b_t___init__, h_b_t_of, h_b_t___len__, h_b_t___contains__, h_b_t___iter__, h_b_t___getitem__⟩ := gr18_ok e18
  obtain ⟨h_b_t_parent, h_b_t_way_to, h_b_t_depth, h_b_t_subtree, h_b_is_heap, h_b_faults, h_b_heap_of, h_b_different_heap_of, h_b_z___init__, h_b_sift_up, h_b_sift_down, h_b_least_child⟩ := gr19_ok e19
  obtain ⟨h_b_row_before, h_b_u___init__, h_b_push, h_b_take, h_b_take_by_hole, h_b_put_for, h_b_build, h_b_filled_heap_of, h_b_check_filled, h_b_code, h_b_decode, h_b_places_that_stop⟩ := gr20_ok e20
  obtain ⟨h_b_check_stops, h_b_is_stop, h_b_row_with, h_b_way_down, h_b_fewest_changed, h_b_falling_chains, h_b_n___init__, h_b_n___eq__, h_b_y___init__, h_b_undo_push, h_b_last_places, h_b_last_way⟩ := gr21_ok e21
  obtain ⟨h_b_heap_and_way_below, h_b_q___init__, h_b_v___init__, h_b_undo_take, h_b_places_behind, h_b_heap_with_room, h_b_heap_after, h_b_place_over_next, h_b__law_number, h_b__law_take, h_b__law_pick, h_b__law_arms⟩ := gr22_ok e22
  obtain ⟨h_b__law_undone_right, h_b__law_done, h_b_law⟩ := gr23_ok h
  obtain ⟨_, _, _, _, _, _, _, _, _, h_l_is_integer, h_c_is_integer, h_k_is_integer⟩ := Sh.fn_g (d := q_is_integer) (p := (Sh.gA K "is_integer")) (c.fn q_is_integer (Sh.at_ 0 rfl)) h_b_is_integer
  obtain ⟨_, _, _, _, _, _, _, _, _, h_l_is_integer_from, h_c_is_integer_from, h_k_is_integer_from⟩ := Sh.fn_g (d := q_is_integer_from) (p := (Sh.gA K "is_integer_from")) (c.fn q_is_integer_from (Sh.at_ 1 rfl)) h_b_is_integer_from
  obtain ⟨_, _, _, _, _, _, _, _, _, h_l_is_key, h_c_is_key, h_k_is_key⟩ := Sh.fn_g (d := q_is_key) (p := (Sh.gA K "is_key")) (c.fn q_is_key (Sh.at_ 2 rfl)) h_b_is_key
  obtain ⟨_, _, _, _, _, _, _, _, _, h_l_check_arms, h_c_check_arms, h_k_check_arms⟩ := Sh.fn_g (d := q_check_arms) (p := (Sh.gA K "check_arms")) (c.fn q_check_arms (Sh.at_ 3 rfl)) h_b_check_arms
  obtain ⟨_, _, _, _, _, _, _, _, _, h_l_check_many, h_c_check_many, h_k_check_many⟩ := Sh.fn_g (d := q_check_many) (p := (Sh.gA K "check_many")) (c.fn q_check_many (Sh.at_ 4 rfl)) h_b_check_many
  obtain ⟨_, _, _, _, _, _, _, _, _, h_l_check_place, h_c_check_place, h_k_check_place⟩ := Sh.fn_g (d := q_check_place) (p := (Sh.gA K "check_place")) (c.fn q_check_place (Sh.at_ 5 rfl)) h_b_check_place
  obtain ⟨_, _, _, _, _, _, _, _, _, h_l_check_key, h_c_check_key, h_k_check_key⟩ := Sh.fn_g (d := q_check_key) (p := (Sh.gA K "check_key")) (c.fn q_check_key (Sh.at_ 6 rfl)) h_b_check_key
  obtain ⟨_, _, _, _, _, _, _, _, _, h_l_row_of, h_c_row_of, h_k_row_of⟩ := Sh.fn_g (d := q_row_of) (p := (Sh.gA K "row_of")) (c.fn q_row_of (Sh.at_ 7 rfl)) h_b_row_of
  obtain ⟨_, _, _, _, _, _, _, _, _, h_l_check_different, h_c_check_different, h_k_check_different⟩ := Sh.fn_g (d := q_check_different) (p := (Sh.gA K "check_different")) (c.fn q_check_different (Sh.at_ 8 rfl)) h_b_check_different
  obtain ⟨_, _, _, _, _, _, _, _, h_l_t___init__, h_c_t___init__, h_k_t___init__⟩ := Sh.fn_k (d := q_t___init__) (p := (Sh.mA K (Sh.gA K "Tree") "__init__")) (c.fn q_t___init__ (Sh.at_ 9 rfl)) h_b_t___init__
  obtain ⟨_, _, _, _, _, _, _, _, h_l_t_of, h_c_t_of, h_k_t_of⟩ := Sh.fn_k (d := q_t_of) (p := (Sh.recA K (Sh.clsA K (Sh.gA K "Tree") "of") "classmethod")) (c.fn q_t_of (Sh.at_ 10 rfl)) h_b_t_of
  obtain ⟨_, _, _, _, _, _, _, _, _, h_l_t___len__, h_c_t___len__, h_k_t___len__⟩ := Sh.fn_g (d := q_t___len__) (p := (Sh.mA K (Sh.gA K "Tree") "__len__")) (c.fn q_t___len__ (Sh.at_ 11 rfl)) h_b_t___len__
  obtain ⟨_, _, _, _, _, _, _, _, _, h_l_t___contains__, h_c_t___contains__, h_k_t___contains__⟩ := Sh.fn_g (d := q_t___contains__) (p := (Sh.mA K (Sh.gA K "Tree") "__contains__")) (c.fn q_t___contains__ (Sh.at_ 12 rfl)) h_b_t___contains__
  obtain ⟨_, _, _, _, _, _, _, _, _, h_l_t___iter__, h_c_t___iter__, h_k_t___iter__⟩ := Sh.fn_g (d := q_t___iter__) (p := (Sh.mA K (Sh.gA K "Tree") "__iter__")) (c.fn q_t___iter__ (Sh.at_ 13 rfl)) h_b_t___iter__
  obtain ⟨_, _, _, _, _, _, _, _, _, h_l_t___getitem__, h_c_t___getitem__, h_k_t___getitem__⟩ := Sh.fn_g (d := q_t___getitem__) (p := (Sh.mA K (Sh.gA K "Tree") "__getitem__")) (c.fn q_t___getitem__ (Sh.at_ 14 rfl)) h_b_t___getitem__
  obtain ⟨_, _, _, _, _, _, _, _, _, h_l_t_parent, h_c_t_parent, h_k_t_parent⟩ := Sh.fn_g (d := q_t_parent) (p := (Sh.mA K (Sh.gA K "Tree") "parent")) (c.fn q_t_parent (Sh.at_ 15 rfl)) h_b_t_parent
  obtain ⟨_, _, _, _, _, _, _, _, _, h_l_t_way_to, h_c_t_way_to, h_k_t_way_to⟩ := Sh.fn_g (d := q_t_way_to) (p := (Sh.mA K (Sh.gA K "Tree") "way_to")) (c.fn q_t_way_to (Sh.at_ 16 rfl)) h_b_t_way_to
  obtain ⟨_, _, _, _, _, _, _, _, _, h_l_t_depth, h_c_t_depth, h_k_t_depth⟩ := Sh.fn_g (d := q_t_depth) (p := (Sh.mA K (Sh.gA K "Tree") "depth")) (c.fn q_t_depth (Sh.at_ 17 rfl)) h_b_t_depth
  obtain ⟨_, _, _, _, _, _, _, _, _, h_l_t_subtree, h_c_t_subtree, h_k_t_subtree⟩ := Sh.fn_g (d := q_t_subtree) (p := (Sh.mA K (Sh.gA K "Tree") "subtree")) (c.fn q_t_subtree (Sh.at_ 18 rfl)) h_b_t_subtree
  obtain ⟨_, _, _, _, _, _, _, _, h_l_is_heap, h_c_is_heap, h_k_is_heap⟩ := Sh.fn_k (d := q_is_heap) (p := (Sh.gA K "is_heap")) (c.fn q_is_heap (Sh.at_ 19 rfl)) h_b_is_heap
  obtain ⟨_, _, _, _, _, _, _, _, h_l_faults, h_c_faults, h_k_faults⟩ := Sh.fn_k (d := q_faults) (p := (Sh.gA K "faults")) (c.fn q_faults (Sh.at_ 20 rfl)) h_b_faults
  obtain ⟨_, _, _, _, _, _, _, _, _, h_l_heap_of, h_c_heap_of, h_k_heap_of⟩ := Sh.fn_g (d := q_heap_of) (p := (Sh.gA K "heap_of")) (c.fn q_heap_of (Sh.at_ 21 rfl)) h_b_heap_of
  obtain ⟨_, _, _, _, _, _, _, _, _, h_l_different_heap_of, h_c_different_heap_of, h_k_different_heap_of⟩ := Sh.fn_g (d := q_different_heap_of) (p := (Sh.gA K "different_heap_of")) (c.fn q_different_heap_of (Sh.at_ 22 rfl)) h_b_different_heap_of
  obtain ⟨_, _, _, _, _, _, _, _, _, h_l_z___init__, h_c_z___init__, h_k_z___init__⟩ := Sh.fn_g (d := q_z___init__) (p := (Sh.mA K (Sh.gA K "Sift") "__init__")) (c.fn q_z___init__ (Sh.at_ 23 rfl)) h_b_z___init__
  obtain ⟨_, _, _, _, _, _, _, _, h_l_sift_up, h_c_sift_up, h_k_sift_up⟩ := Sh.fn_k (d := q_sift_up) (p := (Sh.gA K "sift_up")) (c.fn q_sift_up (Sh.at_ 24 rfl)) h_b_sift_up
  obtain ⟨_, _, _, _, _, _, _, _, h_l_sift_down, h_c_sift_down, h_k_sift_down⟩ := Sh.fn_k (d := q_sift_down) (p := (Sh.gA K "sift_down")) (c.fn q_sift_down (Sh.at_ 25 rfl)) h_b_sift_down
  obtain ⟨_, _, _, _, _, _, _, _, h_l_least_child, h_c_least_child, h_k_least_child⟩ := Sh.fn_c (d := q_least_child) (p := (Sh.gA K "least_child")) (c.fn q_least_child (Sh.at_ 26 rfl)) h_b_least_child
  obtain ⟨_, _, _, _, _, _, _, _, _, h_l_row_before, h_c_row_before, h_k_row_before⟩ := Sh.fn_g (d := q_row_before) (p := (Sh.gA K "row_before")) (c.fn q_row_before (Sh.at_ 27 rfl)) h_b_row_before
  obtain ⟨_, _, _, _, _, _, _, _, _, h_l_u___init__, h_c_u___init__, h_k_u___init__⟩ := Sh.fn_g (d := q_u___init__) (p := (Sh.mA K (Sh.gA K "Built") "__init__")) (c.fn q_u___init__ (Sh.at_ 28 rfl)) h_b_u___init__
  obtain ⟨_, _, _, _, _, _, _, _, h_l_push, h_c_push, h_k_push⟩ := Sh.fn_k (d := q_push) (p := (Sh.gA K "push")) (c.fn q_push (Sh.at_ 29 rfl)) h_b_push
  obtain ⟨_, _, _, _, _, _, _, _, h_l_take, h_c_take, h_k_take⟩ := Sh.fn_k (d := q_take) (p := (Sh.gA K "take")) (c.fn q_take (Sh.at_ 30 rfl)) h_b_take
  obtain ⟨_, _, _, _, _, _, _, _, h_l_take_by_hole, h_c_take_by_hole, h_k_take_by_hole⟩ := Sh.fn_k (d := q_take_by_hole) (p := (Sh.gA K "take_by_hole")) (c.fn q_take_by_hole (Sh.at_ 31 rfl)) h_b_take_by_hole
  obtain ⟨_, _, _, _, _, _, _, _, h_l_put_for, h_c_put_for, h_k_put_for⟩ := Sh.fn_k (d := q_put_for) (p := (Sh.gA K "put_for")) (c.fn q_put_for (Sh.at_ 32 rfl)) h_b_put_for
  obtain ⟨_, _, _, _, _, _, _, _, h_l_build, h_c_build, h_k_build⟩ := Sh.fn_k (d := q_build) (p := (Sh.gA K "build")) (c.fn q_build (Sh.at_ 33 rfl)) h_b_build
  obtain ⟨_, _, _, _, _, _, _, _, _, h_l_filled_heap_of, h_c_filled_heap_of, h_k_filled_heap_of⟩ := Sh.fn_g (d := q_filled_heap_of) (p := (Sh.gA K "filled_heap_of")) (c.fn q_filled_heap_of (Sh.at_ 34 rfl)) h_b_filled_heap_of
  obtain ⟨_, _, _, _, _, _, _, _, _, h_l_check_filled, h_c_check_filled, h_k_check_filled⟩ := Sh.fn_g (d := q_check_filled) (p := (Sh.gA K "check_filled")) (c.fn q_check_filled (Sh.at_ 35 rfl)) h_b_check_filled
  obtain ⟨_, _, _, _, _, _, _, _, h_l_code, h_c_code, h_k_code⟩ := Sh.fn_k (d := q_code) (p := (Sh.gA K "code")) (c.fn q_code (Sh.at_ 36 rfl)) h_b_code
  obtain ⟨_, _, _, _, _, _, _, _, h_l_decode, h_c_decode, h_k_decode⟩ := Sh.fn_k (d := q_decode) (p := (Sh.gA K "decode")) (c.fn q_decode (Sh.at_ 37 rfl)) h_b_decode
  obtain ⟨_, _, _, _, _, _, _, _, _, h_l_places_that_stop, h_c_places_that_stop, h_k_places_that_stop⟩ := Sh.fn_g (d := q_places_that_stop) (p := (Sh.gA K "places_that_stop")) (c.fn q_places_that_stop (Sh.at_ 38 rfl)) h_b_places_that_stop
  obtain ⟨_, _, _, _, _, _, _, _, _, h_l_check_stops, h_c_check_stops, h_k_check_stops⟩ := Sh.fn_g (d := q_check_stops) (p := (Sh.gA K "check_stops")) (c.fn q_check_stops (Sh.at_ 39 rfl)) h_b_check_stops
  obtain ⟨_, _, _, _, _, _, _, _, _, h_l_is_stop, h_c_is_stop, h_k_is_stop⟩ := Sh.fn_g (d := q_is_stop) (p := (Sh.gA K "is_stop")) (c.fn q_is_stop (Sh.at_ 40 rfl)) h_b_is_stop
  obtain ⟨_, _, _, _, _, _, _, _, _, h_l_row_with, h_c_row_with, h_k_row_with⟩ := Sh.fn_g (d := q_row_with) (p := (Sh.gA K "row_with")) (c.fn q_row_with (Sh.at_ 41 rfl)) h_b_row_with
  obtain ⟨_, _, _, _, _, _, _, _, _, h_l_way_down, h_c_way_down, h_k_way_down⟩ := Sh.fn_g (d := q_way_down) (p := (Sh.gA K "way_down")) (c.fn q_way_down (Sh.at_ 42 rfl)) h_b_way_down
  obtain ⟨_, _, _, _, _, _, _, _, h_l_fewest_changed, h_c_fewest_changed, h_k_fewest_changed⟩ := Sh.fn_k (d := q_fewest_changed) (p := (Sh.gA K "fewest_changed")) (c.fn q_fewest_changed (Sh.at_ 43 rfl)) h_b_fewest_changed
  obtain ⟨_, _, _, _, _, _, _, _, _, h_l_falling_chains, h_c_falling_chains, h_k_falling_chains⟩ := Sh.fn_g (d := q_falling_chains) (p := (Sh.gA K "falling_chains")) (c.fn q_falling_chains (Sh.at_ 44 rfl)) h_b_falling_chains
  obtain ⟨_, _, _, _, _, _, _, _, _, h_l_n___init__, h_c_n___init__, h_k_n___init__⟩ := Sh.fn_g (d := q_n___init__) (p := (Sh.mA K (Sh.gA K "Undone") "__init__")) (c.fn q_n___init__ (Sh.at_ 45 rfl)) h_b_n___init__
  obtain ⟨_, _, _, _, _, _, _, _, _, h_l_n___eq__, h_c_n___eq__, h_k_n___eq__⟩ := Sh.fn_g (d := q_n___eq__) (p := (Sh.mA K (Sh.gA K "Undone") "__eq__")) (c.fn q_n___eq__ (Sh.at_ 46 rfl)) h_b_n___eq__
  obtain ⟨_, _, _, _, _, _, _, _, _, h_l_y___init__, h_c_y___init__, h_k_y___init__⟩ := Sh.fn_g (d := q_y___init__) (p := (Sh.mA K (Sh.gA K "Stuck") "__init__")) (c.fn q_y___init__ (Sh.at_ 47 rfl)) h_b_y___init__
  obtain ⟨_, _, _, _, _, _, _, h_l_undo_push, h_c_undo_push, h_k_undo_push⟩ := Sh.fn_kc (d := q_undo_push) (p := (Sh.gA K "undo_push")) (c.fn q_undo_push (Sh.at_ 48 rfl)) h_b_undo_push
  obtain ⟨_, _, _, _, _, _, _, _, h_l_last_places, h_c_last_places, h_k_last_places⟩ := Sh.fn_k (d := q_last_places) (p := (Sh.gA K "last_places")) (c.fn q_last_places (Sh.at_ 49 rfl)) h_b_last_places
  obtain ⟨_, _, _, _, _, _, _, _, _, h_l_last_way, h_c_last_way, h_k_last_way⟩ := Sh.fn_g (d := q_last_way) (p := (Sh.gA K "last_way")) (c.fn q_last_way (Sh.at_ 50 rfl)) h_b_last_way
  obtain ⟨_, _, _, _, _, _, _, _, _, h_l_heap_and_way_below, h_c_heap_and_way_below, h_k_heap_and_way_below⟩ := Sh.fn_g (d := q_heap_and_way_below) (p := (Sh.gA K "heap_and_way_below")) (c.fn q_heap_and_way_below (Sh.at_ 51 rfl)) h_b_heap_and_way_below
  obtain ⟨_, _, _, _, _, _, _, _, _, h_l_q___init__, h_c_q___init__, h_k_q___init__⟩ := Sh.fn_g (d := q_q___init__) (p := (Sh.mA K (Sh.gA K "Before") "__init__")) (c.fn q_q___init__ (Sh.at_ 52 rfl)) h_b_q___init__
  obtain ⟨_, _, _, _, _, _, _, _, _, h_l_v___init__, h_c_v___init__, h_k_v___init__⟩ := Sh.fn_g (d := q_v___init__) (p := (Sh.mA K (Sh.gA K "Over") "__init__")) (c.fn q_v___init__ (Sh.at_ 53 rfl)) h_b_v___init__
  obtain ⟨_, _, _, _, _, _, _, _, h_l_undo_take, h_c_undo_take, h_k_undo_take⟩ := Sh.fn_k (d := q_undo_take) (p := (Sh.gA K "undo_take")) (c.fn q_undo_take (Sh.at_ 54 rfl)) h_b_undo_take
  obtain ⟨_, _, _, _, _, _, _, _, h_l_places_behind, h_c_places_behind, h_k_places_behind⟩ := Sh.fn_k (d := q_places_behind) (p := (Sh.gA K "places_behind")) (c.fn q_places_behind (Sh.at_ 55 rfl)) h_b_places_behind
  obtain ⟨_, _, _, _, _, _, _, _, _, h_l_heap_with_room, h_c_heap_with_room, h_k_heap_with_room⟩ := Sh.fn_g (d := q_heap_with_room) (p := (Sh.gA K "heap_with_room")) (c.fn q_heap_with_room (Sh.at_ 56 rfl)) h_b_heap_with_room
  obtain ⟨_, _, _, _, _, _, _, _, _, h_l_heap_after, h_c_heap_after, h_k_heap_after⟩ := Sh.fn_g (d := q_heap_after) (p := (Sh.gA K "heap_after")) (c.fn q_heap_after (Sh.at_ 57 rfl)) h_b_heap_after
  obtain ⟨_, _, _, _, _, _, _, _, _, h_l_place_over_next, h_c_place_over_next, h_k_place_over_next⟩ := Sh.fn_g (d := q_place_over_next) (p := (Sh.gA K "place_over_next")) (c.fn q_place_over_next (Sh.at_ 58 rfl)) h_b_place_over_next
  obtain ⟨_, _, _, _, _, _, _, _, _, h_l__law_number, h_c__law_number, h_k__law_number⟩ := Sh.fn_g (d := q__law_number) (p := (Sh.gA K "_law_number")) (c.fn q__law_number (Sh.at_ 59 rfl)) h_b__law_number
  obtain ⟨_, _, _, _, _, _, _, _, _, h_l__law_take, h_c__law_take, h_k__law_take⟩ := Sh.fn_g (d := q__law_take) (p := (Sh.gA K "_law_take")) (c.fn q__law_take (Sh.at_ 60 rfl)) h_b__law_take
  obtain ⟨_, _, _, _, _, _, _, _, _, h_l__law_pick, h_c__law_pick, h_k__law_pick⟩ := Sh.fn_g (d := q__law_pick) (p := (Sh.gA K "_law_pick")) (c.fn q__law_pick (Sh.at_ 61 rfl)) h_b__law_pick
  obtain ⟨_, _, _, _, _, _, _, _, _, h_l__law_arms, h_c__law_arms, h_k__law_arms⟩ := Sh.fn_g (d := q__law_arms) (p := (Sh.gA K "_law_arms")) (c.fn q__law_arms (Sh.at_ 62 rfl)) h_b__law_arms
  obtain ⟨_, _, _, _, _, _, _, _, _, h_l__law_undone_right, h_c__law_undone_right, h_k__law_undone_right⟩ := Sh.fn_g (d := q__law_undone_right) (p := (Sh.gA K "_law_undone_right")) (c.fn q__law_undone_right (Sh.at_ 63 rfl)) h_b__law_undone_right
  obtain ⟨_, _, _, _, _, _, _, _, _, h_l__law_done, h_c__law_done, h_k__law_done⟩ := Sh.fn_g (d := q__law_done) (p := (Sh.gA K "_law_done")) (c.fn q__law_done (Sh.at_ 64 rfl)) h_b__law_done
  obtain ⟨_, _, _, _, _, _, _, _, _, h_l_law, h_c_law, h_k_law⟩ := Sh.fn_g (d := q_law) (p := (Sh.gA K "law")) (c.fn q_law (Sh.at_ 65 rfl)) h_b_law
  exact all_mk X G hfa h_aC h_aCS h_aCB h_aCU h_aCY h_aCQ h_aCV h_a_is_integer h_l_is_integer h_c_is_integer h_k_is_integer h_a_is_integer_from h_l_is_integer_from h_c_is_integer_from h_k_is_integer_from h_a_is_key h_l_is_key h_c_is_key h_k_is_key h_a_check_arms h_l_check_arms h_c_check_arms h_k_check_arms h_a_check_many h_l_check_many h_c_check_many h_k_check_many h_a_check_place h_l_check_place h_c_check_place h_k_check_place h_a_check_key h_l_check_key h_c_check_key h_k_check_key h_a_row_of h_l_row_of h_c_row_of h_k_row_of h_a_check_different h_l_check_different h_c_check_different h_k_check_different h_a_t___init__ h_i_t___init__ h_l_t___init__ h_c_t___init__ h_k_t___init__ h_w_t___init__ h_a_t_of h_r_t_of h_n_t_of h_l_t_of h_c_t_of h_k_t_of h_w_t_of h_a_t___len__ h_i_t___len__ h_n_t___len__ h_l_t___len__ h_c_t___len__ h_k_t___len__ h_a_t___contains__ h_i_t___contains__ h_n_t___contains__ h_l_t___contains__ h_c_t___contains__ h_k_t___contains__ h_a_t___iter__ h_i_t___iter__ h_n_t___iter__ h_l_t___iter__ h_c_t___iter__ h_k_t___iter__ h_a_t___getitem__ h_i_t___getitem__ h_n_t___getitem__ h_l_t___getitem__ h_c_t___getitem__ h_k_t___getitem__ h_a_t_parent h_i_t_parent h_l_t_parent h_c_t_parent h_k_t_parent h_a_t_way_to h_i_t_way_to h_l_t_way_to h_c_t_way_to h_k_t_way_to h_a_t_depth h_i_t_depth h_l_t_depth h_c_t_depth h_k_t_depth h_a_t_subtree h_i_t_subtree h_l_t_subtree h_c_t_subtree h_k_t_subtree h_a_is_heap h_l_is_heap h_c_is_heap h_k_is_heap h_w_is_heap h_a_faults h_l_faults h_c_faults h_k_faults h_w_faults h_a_heap_of h_l_heap_of h_c_heap_of h_k_heap_of h_a_different_heap_of h_l_different_heap_of h_c_different_heap_of h_k_different_heap_of h_a_z___init__ h_i_z___init__ h_l_z___init__ h_c_z___init__ h_k_z___init__ h_a_sift_up h_l_sift_up h_c_sift_up h_k_sift_up h_w_sift_up h_a_sift_down h_l_sift_down h_c_sift_down h_k_sift_down h_w_sift_down h_a_least_child h_l_least_child h_c_least_child h_k_least_child h_a_row_before h_l_row_before h_c_row_before h_k_row_before h_a_u___init__ h_i_u___init__ h_l_u___init__ h_c_u___init__ h_k_u___init__ h_a_push h_l_push h_c_push h_k_push h_w_push h_a_take h_l_take h_c_take h_k_take h_w_take h_a_take_by_hole h_l_take_by_hole h_c_take_by_hole h_k_take_by_hole h_w_take_by_hole h_a_put_for h_l_put_for h_c_put_for h_k_put_for h_w_put_for h_a_build h_l_build h_c_build h_k_build h_w_build h_a_filled_heap_of h_l_filled_heap_of h_c_filled_heap_of h_k_filled_heap_of h_a_check_filled h_l_check_filled h_c_check_filled h_k_check_filled h_a_code h_l_code h_c_code h_k_code h_w_code h_a_decode h_l_decode h_c_decode h_k_decode h_w_decode h_a_places_that_stop h_l_places_that_stop h_c_places_that_stop h_k_places_that_stop h_a_check_stops h_l_check_stops h_c_check_stops h_k_check_stops h_a_is_stop h_l_is_stop h_c_is_stop h_k_is_stop h_a_row_with h_l_row_with h_c_row_with h_k_row_with h_a_way_down h_l_way_down h_c_way_down h_k_way_down h_a_fewest_changed h_l_fewest_changed h_c_fewest_changed h_k_fewest_changed h_w_fewest_changed h_a_falling_chains h_l_falling_chains h_c_falling_chains h_k_falling_chains h_a_n___init__ h_i_n___init__ h_l_n___init__ h_c_n___init__ h_k_n___init__ h_a_n___eq__ h_i_n___eq__ h_l_n___eq__ h_c_n___eq__ h_k_n___eq__ h_a_y___init__ h_i_y___init__ h_l_y___init__ h_c_y___init__ h_k_y___init__ h_a_undo_push h_l_undo_push h_c_undo_push h_k_undo_push h_w_undo_push h_a_last_places h_l_last_places h_c_last_places h_k_last_places h_w_last_places h_a_last_way h_l_last_way h_c_last_way h_k_last_way h_a_heap_and_way_below h_l_heap_and_way_below h_c_heap_and_way_below h_k_heap_and_way_below h_a_q___init__ h_i_q___init__ h_l_q___init__ h_c_q___init__ h_k_q___init__ h_a_v___init__ h_i_v___init__ h_l_v___init__ h_c_v___init__ h_k_v___init__ h_a_undo_take h_l_undo_take h_c_undo_take h_k_undo_take h_w_undo_take h_a_places_behind h_l_places_behind h_c_places_behind h_k_places_behind h_w_places_behind h_a_heap_with_room h_l_heap_with_room h_c_heap_with_room h_k_heap_with_room h_a_heap_after h_l_heap_after h_c_heap_after h_k_heap_after h_a_place_over_next h_l_place_over_next h_c_place_over_next h_k_place_over_next h_a__law_number h_l__law_number h_c__law_number h_k__law_number h_a__law_take h_l__law_take h_c__law_take h_k__law_take h_a__law_pick h_l__law_pick h_c__law_pick h_k__law_pick h_a__law_arms h_l__law_arms h_c__law_arms h_k__law_arms h_a__law_undone_right h_l__law_undone_right h_c__law_undone_right h_k__law_undone_right h_a__law_done h_l__law_done h_c__law_done h_k__law_done h_a_law h_l_law h_c_law h_k_law h_pne h_q_GREATEST_KEY h_q_MOST_ARMS h_q_MOST_PLACES h_z_bool h_z_enumerate h_z_int h_z_isinstance h_z_iter h_z_len h_z_list h_z_min h_z_range h_z_reversed h_z_set h_z_sorted h_z_sum h_z_tuple h_z_zip h_pg h_hd h_po_ h_sa h_na_nMany h_na_nArms h_na_nPl h_mk h_kc h_rd h_ga h_pgS h_hdS h_po_S h_saS h_na_nRow h_na_nWay h_na_nLooks h_mkS h_kcS h_pgB h_hdB h_po_B h_saB h_na_bRow h_na_bStops h_na_bChanges h_na_bLooks h_mkB h_kcB h_pgU h_hdU h_po_U h_saU h_na_uRow h_na_uKey h_mkU h_kcU h_eneU h_eobU h_eniU h_entU h_kaU h_knU h_ktkU h_kmU h_kclU h_ktyU h_ensU_Stuck h_nesU_Stuck h_pgY h_hdY h_po_Y h_saY h_na_yPlace h_na_yOther h_mkY h_kcY h_kaY h_knY h_ktkY h_kmY h_kclY h_ktyY h_ensY_Undone h_nesY_Undone h_pgQ h_hdQ h_po_Q h_saQ h_na_qRow h_mkQ h_kcQ h_pgV h_hdV h_po_V h_saV h_na_vPlace h_na_vKey h_mkV h_kcV (c.em ((Sh.cdA K (Sh.gA K "least_child")), (He.tabOf K (Sh.cdA K (Sh.gA K "least_child")))) (by unfold tfs; simp)) (c.hd ((Sh.cdA K (Sh.gA K "least_child")), (He.tabOf K (Sh.cdA K (Sh.gA K "least_child")))) (by unfold tfs; simp)) (c.out ((Sh.cdA K (Sh.gA K "least_child")), (He.tabOf K (Sh.cdA K (Sh.gA K "least_child")))) (by unfold tfs; simp)) (c.em ((Sh.cdA K (Sh.gA K "undo_push")), (He.tabOf K (Sh.cdA K (Sh.gA K "undo_push")))) (by unfold tfs; simp)) (c.hd ((Sh.cdA K (Sh.gA K "undo_push")), (He.tabOf K (Sh.cdA K (Sh.gA K "undo_push")))) (by unfold tfs; simp)) (c.out ((Sh.cdA K (Sh.gA K "undo_push")), (He.tabOf K (Sh.cdA K (Sh.gA K "undo_push")))) (by unfold tfs; simp))
end Tw

open PySem PySem.W PySem.Calls PyProof.Rows in
set_option maxRecDepth 100000 in
set_option maxHeartbeats 0 in
theorem PySem.Challenge.cw_heaprows_k41_whole_long_holds : PySem.Challenge.rw_heaprows_k41_whole_long.Holds := by
  w_on; o_law
  refine HandSHeadRun.head_any (r := OpenLaw.row PySem.Challenge.rw_heaprows_k41_whole_long) (q := view (OpenLaw.row PySem.Challenge.rw_heaprows_k41_whole_long).prog [81]) (H := Tw.hk) (ob := Sh.obT Tw.adr Tw.fns Tw.exs Tw.tfs) (M := 20000) (loose := Tw.loose) (d := HandSHeadRun.topDef (OpenLaw.row PySem.Challenge.rw_heaprows_k41_whole_long).prog 81) (kwd := []) (Sh.obT_eq _ _ _ _)
    (by kernel_rfl) (fun s => by kernel_rfl) Tw.run (by kernel_rfl) (by kernel_rfl) (by kernel_rfl) (by rfl) (by first | assumption | decide +kernel) (by decide +kernel) ⟨rfl, rfl, rfl, rfl, rfl, by decide +kernel⟩ ?hw ?hc
  case hw => w_witness2
  case hc =>
    refine LamX.walk_ofTsE (l := PySem.Challenge.rw_heaprows_k41_whole_long) (n := 63) (k := 16) (x := "script") (CX := fun _ => L2.CX0) rfl (by decide) (by kernel_rfl) ⟨rfl, by decide, by decide⟩ ?F (fun _ _ _ _ _ z => z)
    intro w mg fa h Y G hmg0
    obtain ⟨K, KX, c⟩ := Y
    have hmg : mg ("law" : PySem.Str) = some (.ref fa) := (congrArg mg (show (HandSHeadRun.topDef (OpenLaw.row PySem.Challenge.rw_heaprows_k41_whole_long).prog 81).name = ("law" : PySem.Str) by kernel_rfl)).symm.trans hmg0
    exact ⟨K, KX, Tw.law_at KX c G hmg⟩
