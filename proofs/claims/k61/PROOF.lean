import PyProof.Rows.All
import Wide.All
import OpenK.AllK
import Wide.FinOn
import HandS.ForMost
import HandS.ForExc
import HandS.IsInst
import HandS.MakeKwOnly
import HandS.ClsMeth
import HandS.Conv
import HandS.Codes
import HandS.Walk
import HandS.Style
import HandS.Flow
import HandS.Wide
import HandS.OwnEq
import HandS.OwnIter
import HandS.IterVal
import KE.KOwnIter
import PyProof.FactsAll.tuple_iterator_1
import HandS.Deep
import HandS.SortRule
import KE.GoesMore
import KE.GoesEnum
import KE.KLam
import KE.DataMinKey
import HandS.Base
import HandS.Call
import HandS.List
import HandS.Comp
import HandS.Lambda
import HandS.Nested
import HandS.Keys
import HandS.SortInts
import PyProof.NeKinds
import HandS.SetFor
import HandS.Strs
import HandS.TupSets
import KE.SortData
import HandS.Sort
import PyProof.AutoSeq1
import HandS.TupAny
import HandS.EndTab
import HandS.Rev
import PySem.Challenge.RW_heaprows_k61_whole_replacement
set_option Elab.async false
set_option maxRecDepth 100000
set_option Elab.async false
set_option linter.all false
set_option maxRecDepth 100000
set_option maxHeartbeats 2000000
namespace Tw
open PySem PySem.Spec PyProof.Rows L2

/-! own rules: an instance with dunder methods -/
/-- a dunder method of the class at C, its def at f -/
structure Dn (K : PySem.W.Frag) (C : Addr) (m : Str) (f : Addr) : Prop where
  at_ : PySem.W.findIn K (.ref C) m = some (some (.ref f))
  fn : PySem.W.isFn K (.ref f) = true
  fi : PySem.W.fnIn K f = true


section
variable {X : Cx} {CX : CXT} {k n : Nat} {f C : Addr} {fd : FuncData} {ps : List Str} {sp : Sp} {E : XK} {o e : Expr} {pos : Pos} {ta tb : TE} {A1 : Around}
  {pins : List (Addr × Obj)} {σ : L2.St} {H : Hp} {s : Shared} {Q : VK}
theorem Sub.env0 (sb : Sub X n A1) (I : Inv X pins σ H s) : Env0 X.prog X.w X.K X.mg X.base A1 X.stack s H := by
  have q := I.env0
  exact ⟨by rw [sb.fr]; exact q.frames, q.mod, q.bs, q.bsz, q.funs, q.frf, q.hok, q.bare⟩
theorem run_sub {us : List Value} {vs : List V} (F : FnOk X.prog X.w X.K X.mg X.base CX k f fd ps sp) (sb : Sub X k A1) (hb : Binds X.K fd ps []) (hx : Passes CX X E) (I : Inv X pins σ H s) (r : Vals vs us) (h : sp vs H Q E) :
    wpAny (model X.prog X.w) A1 (call (.ref f) us) (EP X pins σ Q) X.xe s := by
  have hl : us.length = ps.length := by rw [← r.length]; exact F.len _ _ _ _ h
  have hb1 : BindsTo s fd ⟨us, []⟩ (ps.zip us) := by
    have z := hb s us I.kIn (by rw [List.append_nil]; exact hl)
    rw [List.append_nil] at z
    exact z
  refine wpAny_call (codeAny_mono (F.run A1 X.stack s H ⟨us, []⟩ us vs Q E sb.room (Sub.env0 sb I) hb1 r h) fun z s' hq => ?_)
  match z, hq with
  | .error e, hq => exact hx pins σ H s e s' I hq
  | .ok (.ret u), hq => exact I.after hq
  | .ok .next, hq => exact False.elim hq
  | .ok .brk, hq => exact False.elim hq
  | .ok .cont, hq => exact False.elim hq
theorem relR (a : Addr) : RelV (V.ref a) (Value.ref a) := rfl
theorem relB (b : Bool) : RelV (V.bl b) (Value.bool b) := rfl
theorem relI (i : Int) (t : Tok) : RelV (V.int i) (Value.int i t) := ⟨t, rfl⟩
/-- o[e] by the class's own def -/
def tGi (C : Addr) (sp : Sp) (E : XK) (ta tb : TE) : TE := fun σ H Q => ta σ H fun x H1 => tb σ H1 fun y H2 =>
  ∃ a dx fs, x = .ref a ∧ H2 a = some (.ins C dx fs) ∧ sp [.ref a, y] H2 Q E
theorem pe_gi (hd : Dn X.K C "__getitem__" f) (F : FnOk X.prog X.w X.K X.mg X.base CX k f fd ps sp) (hr : Room (k + 1) X.A) (hb : Binds X.K fd ps []) (hx : Passes CX X E) (ho : PE X o ta) (he : PE X e tb)
    (hs : ∀ v u, subscripted e true v u = runValue (.builtin "lifetime.subscript" ⟨[v, u], []⟩) := by intro _ _; with_unfolding_all rfl) :
    PE X (.Subscript o e pos) (tGi C sp E ta tb) := by
  refine ⟨fun pins s σ H Q I h => ?_⟩
  refine Subscript_ (binT ho he (R := fun x y H2 => ∃ a dx fs, x = .ref a ∧ H2 a = some (.ins C dx fs) ∧ sp [.ref a, y] H2 Q E) I h fun v u s2 x y H2 I2 rx ry ⟨a, dx, fs, ex, ha, q⟩ => ?_)
  subst ex
  obtain rfl : v = Value.ref a := rx
  obtain ⟨mA, O, rr, _, _, _⟩ := ins_get I2.hok ha
  obtain ⟨od, J, hl⟩ := O.look
  obtain ⟨m0, hF⟩ := I2.fr
  exact PySem.W.sub_K hF I2.ok.mod.kin J hd.at_ hd.fi hd.fn (run_sub F (Sub.in1 ⟨hr, rfl⟩) hb hx I2 (.cons (relR a) (.cons ry .nil)) q) (hs _ _)
/-- e in o, by the class's own def -/
def rIn (C : Addr) (sp : Sp) (E : XK) (neg : Bool) : R2 := fun x y H Q =>
  ∃ a dx fs, y = .ref a ∧ H a = some (.ins C dx fs) ∧ sp [.ref a, x] H (fun v H' => ∃ b, v = .bl b ∧ Q (.bl (if neg then !b else b)) H') E
theorem op_in_own (hd : Dn X.K C "__contains__" f) (F : FnOk X.prog X.w X.K X.mg X.base CX k f fd ps sp) (hr : Room k X.A) (hb : Binds X.K fd ps []) (hx : Passes CX X E) : OpR X (compareOp .In) (rIn C sp E false) := by
  intro pins s σ H x y v u Q I rx ry ⟨a, dx, fs, ey, ha, q⟩
  subst ey
  obtain rfl : u = Value.ref a := ry
  obtain ⟨mA, O, rr, _, _, _⟩ := ins_get I.hok ha
  obtain ⟨od, J, hl⟩ := O.look
  obtain ⟨m0, hF⟩ := I.fr
  refine PySem.W.in_K hF I.ok.mod.kin J hd.at_ hd.fn (thn (run_sub F ⟨hr, rfl⟩ hb hx I (.cons (relR a) (.cons rx .nil)) q) fun r s' ⟨z, H', I', rz, b, ez, q'⟩ => ?_)
  subst ez
  obtain rfl : r = Value.bool b := rz
  exact wpAny_truthy_bool ⟨_, _, I', relB b, q'⟩
/-- len(o) by the class's own def -/
def rLenO (C : Addr) (sp : Sp) (E : XK) : List V → Hp → VK → Prop := fun xs H Q =>
  ∃ a dx fs, xs = [.ref a] ∧ H a = some (.ins C dx fs) ∧ sp [.ref a] H (fun v H' => ∃ n : Nat, v = .int n ∧ n < 1000 ∧ Q (.int n) H') E
theorem call_len_own (hd : Dn X.K C "__len__" f) (F : FnOk X.prog X.w X.K X.mg X.base CX k f fd ps sp) (hr : Room (k + 1) X.A) (hb : Binds X.K fd ps []) (hx : Passes CX X E) : CallR X (.builtin "len") (rLenO C sp E) := by
  intro pins s σ H xs us Q I rv ⟨a, dx, fs, ex, ha, q⟩
  subst ex
  obtain ⟨u, rfl, ru⟩ := rv.one
  obtain rfl : u = Value.ref a := ru
  obtain ⟨mA, O, rr, _, _, _⟩ := ins_get I.hok ha
  obtain ⟨od, J, hl⟩ := O.look
  obtain ⟨m0, hF⟩ := I.fr
  refine PySem.W.len_K hF I.ok.mod.kin J hd.at_ hd.fn (thn (run_sub F (Sub.in1 ⟨hr, rfl⟩) hb hx I (.cons (relR a) .nil) q) fun r s' ⟨z, H', I', rz, n, ez, hn, q'⟩ => ?_)
  subst ez
  obtain ⟨t, rfl⟩ := rz
  exact ⟨⟨by omega, by omega⟩, _, _, I'.tok _, relI _ _, q'⟩
end

/-! for x in o, o an instance whose __iter__ says: return iter(self.F), F a tuple -/
def itTup (t : Addr) (i : Nat) : Obj := { cls := .type "tuple_iterator", data := .fields #[.ref t, .int (i : Nat) 0] }
def ItT (t it : Addr) (i : Nat) : HO := .ext fun h => h.get? it = some (itTup t i)
def rIterT (K : PySem.W.Frag) (n : Nat) : List V → Hp → VK → Prop := fun xs H Q => ∃ (t : Addr) (zs : List V), xs = [.ref t] ∧ SqT K H t zs ∧ ∀ it, H it = Option.none → n ≤ it → Q (.ref it) (upd H it (ItT t it 0))
section
variable {X : Cx}
theorem call_iterT : CallR X (.builtin "iter") (rIterT X.K X.s_0.heap.objs.size) := by
  intro pins s σ H xs us Q I r ⟨t, zs, e, hq, q⟩
  subst e
  obtain ⟨u, rfl, ru⟩ := r.one
  obtain rfl : u = Value.ref t := ru
  obtain ⟨its, rv, pl, hz⟩ := I.tuple hq
  refine Calls.call_function_entry (by decide +kernel) (by decide +kernel) PySem.W.kdk_entry_iter (PySem.W.kdk_args_iter _) ?_
  unfold Builtin.«iter»
  refine wpAny_bind (m := someArgs "iter" 1 2 _) (wpAny_of_eq (a := [Value.ref t]) (by first | rfl | kernel_rfl!) ?_)
  show wpAny _ _ (pyIter (.ref t) >>= _) _ _ _
  refine wpAny_bind (wpAny_pyIter_tuple (show s.heap.IsTuple t its.toArray from pl) ?_)
  have g : (s.heap.push (itTup t 0)).get? s.heap.objs.size = some (itTup t 0) := Heap.get?_push_size _ rfl
  have ok : ObjOk X.prog X.w (upd H s.heap.objs.size (ItT t s.heap.objs.size 0)) (s.heap.push (itTup t 0)) s.heap.objs.size (ItT t s.heap.objs.size 0) := ⟨g, ⟨_, g⟩, fun _ _ q k => k _ q⟩
  exact wpAny_pure ⟨_, rfl, .ref s.heap.objs.size, _, I.laid (t' := s.toks) (fun b u e => Heap.get?_push_of_some _ e) (Nat.le_refl _) ok, relR _, q _ (I.hok.fresh (Nat.le_refl _)) I.sz⟩
end

/-- a promise that may speak of how many objects there are when the def is called -/
def FnIt (P : Program) (w : World) (K : PySem.W.Frag) (mg : Str → Option Value) (base : Heap) (k : Nat) (f : Addr) (fd : FuncData) (ps : List Str) (sp : Nat → List V → Hp → VK → Prop) : Prop :=
  ∀ (A : Around) (outer : List Env) (s : Shared) (H : Hp) (us : List Value) (vs : List V) (Q : VK), Room k A → Env0 P w K mg base A outer s H → BindsTo s fd ⟨us, []⟩ (ps.zip us) → vs.length = ps.length → Vals vs us →
    sp s.heap.objs.size vs H Q → codeAny (model P w) A (.call (.ref f) ⟨us, []⟩) (CR CX0 outer P w H s Q E0) s
section
variable {P : Program} {w : World} {K : PySem.W.Frag} {mg : Str → Option Value} {base : Heap}
theorem fnIt_of {x qual : Str} {st : Stmt} {f : Addr} {fd : FuncData} {N ps : List Str} {k : Nat} {sp : Nat → List V → Hp → VK → Prop} (F : Fun K x qual st f fd) (S : FnScope N ps (defScope st))
    (hbody : ∀ (cdv : Value) (A : Around) (outer : List Env) (s : Shared) (H : Hp) (vs : List V) (Q : VK), Room k (A.deeper (envOfC qual (defScope st) s.heap.objs.size f cdv)) → sp s.heap.objs.size vs H Q →
      ∃ t, PSs (cxOf CX0 P w K mg base N qual (defScope st) f cdv A outer s H E0).nox (defBody st) t ∧ t { nx := fun _ H' => Q .non H', rt := Q } (start N vs) H) : FnIt P w K mg base (k + 1) f fd ps sp := by
  obtain ⟨oc, od, kV, doc, pm, an, cdv, ct, osl, rfl, lk, hcd⟩ := F.ex
  intro A outer s H us vs Q hr e0 hb hl r hsp
  have kin : K.In s.heap := e0.mod.kin.keeps fun b o e => (e0.bs b o e).1
  have lim : s.heap.NoLimit := e0.mod.nolimit.keeps fun b o e => (e0.bs b o e).1
  have kinds : ∀ y ∈ ps.zip us, (defScope st).names.lookup y.1 = some .local ∨ ((defScope st).names.lookup y.1 = some .cell ∧ ((cellsFrom (s.heap.objs.size + 1) (defScope st).names []).lookup y.1).isSome = true) := by
    intro y hy
    cases S.par y.1 (List.of_mem_zip (a := y.1) (b := y.2) hy).1 with
    | inl q => exact .inl q
    | inr q => exact .inr ⟨q, PySem.W.cellsFrom_some _ _ _ (.inl q)⟩
  apply codeAny_call_function hr.depth (kin _ _ lk) rfl S.co S.gen rfl (PySem.W.codeRec_of kin hcd) (hb _ _ _ _ ?_)
  apply wpAny_newFunctionEnv_cells S.kind kinds
  intro env he s1 x
  subst he
  refine ⟨lim.keeps x.toInCall.keep, codeAny_func ?_⟩
  obtain ⟨t, ht, hq⟩ := hbody cdv A outer s H vs Q (hr.deeper _) hsp
  have I := inv_start (CX := CX0) (P := P) (w := w) (E := E0) (cd := cdv) (qual := qual) (f := f) (outer := outer) S hr.hd e0 hl r x
  refine wpAny_mono (ht.nox.run [] s1 (start N vs) H _ I hq) (fun fl s' hs => ?_) fun e s' hs => hs
  match fl, hs with
  | .ret u, ⟨v, σ', H', J, rv, q⟩ => exact ⟨v, H', J.os, J.bare, J.base, J.hok, rv, q⟩
  | .next, ⟨σ', H', J, q⟩ => exact ⟨V.non, H', J.os, J.bare, J.base, J.hok, rfl, q⟩
  | .brk, ⟨_, _, _, q⟩ => exact False.elim q
  | .cont, ⟨_, _, _, q⟩ => exact False.elim q
end
/-- what such an __iter__ promises -/
def spIter (K : PySem.W.Frag) (C : Addr) (fld : Str) : Nat → List V → Hp → VK → Prop := fun n vs H Q => ∃ a dx fs t zs, vs = [.ref a] ∧ H a = some (.ins C dx fs) ∧ fs.lookup fld = some (.ref t) ∧ SqT K H t zs ∧
  ∀ it, H it = Option.none → n ≤ it → Q (.ref it) (upd H it (ItT t it 0))
/-- x in o, for a loop: o's own tuple is walked -/
def iOwn (K : PySem.W.Frag) (C : Addr) (fld : Str) (to : TE) : TI := fun σ H R => to σ H fun x H1 => ∃ a dx fs t zs, x = .ref a ∧ H1 a = some (.ins C dx fs) ∧ fs.lookup fld = some (.ref t) ∧ SqT K H1 t zs ∧ R (Itt K t) H1
section
variable {X : Cx} {k : Nat} {f C : Addr} {fd : FuncData} {fld : Str} {tg o : Expr} {to : TE} {pins : List (Addr × Obj)} {σ : L2.St} {H : Hp} {s : Shared} {A1 : Around}
theorem run_iter {a t dx : Addr} {fs : List (Str × V)} {zs : List V} (F : FnIt X.prog X.w X.K X.mg X.base k f fd ["self"] (spIter X.K C fld)) (sb : Sub X k A1) (hb : Binds X.K fd ["self"] []) (I : Inv X pins σ H s)
    (ha : H a = some (.ins C dx fs)) (hf : fs.lookup fld = some (.ref t)) (ht : SqT X.K H t zs) {E : Value → Shared → Prop} :
    wpAny (model X.prog X.w) A1 (call (.ref f) [.ref a]) (fun u s' => ∃ it, u = .ref it ∧ s.heap.objs.size ≤ it ∧ H it = Option.none ∧ Inv X pins σ (upd H it (ItT t it 0)) s') E s := by
  have hb1 : BindsTo s fd ⟨[.ref a], []⟩ ((["self"] : List Str).zip [Value.ref a]) := by
    have z := hb s [.ref a] I.kIn rfl
    exact z
  refine wpAny_call (codeAny_mono (F A1 X.stack s H [.ref a] [.ref a] (fun v H' => ∃ it, v = .ref it ∧ s.heap.objs.size ≤ it ∧ H it = Option.none ∧ H' = upd H it (ItT t it 0)) sb.room (Sub.env0 sb I) hb1 rfl (.cons (relR a) .nil)
    ⟨a, dx, fs, t, zs, rfl, ha, hf, ht, fun it h0 hn => ⟨it, rfl, hn, h0, rfl⟩⟩) fun z s' hq => ?_)
  match z, hq with
  | .error e, hq => exact hq.elim
  | .ok (.ret u), hq =>
    obtain ⟨v, H', I', rv, it, ev, hn, h0, eH⟩ := I.after hq
    subst ev
    rw [eH] at I'
    obtain rfl : u = Value.ref it := rv
    exact ⟨it, rfl, hn, h0, I'⟩
  | .ok .next, hq => exact False.elim hq
  | .ok .brk, hq => exact False.elim hq
  | .ok .cont, hq => exact False.elim hq
theorem pi_own (hd : Dn X.K C "__iter__" f) (F : FnIt X.prog X.w X.K X.mg X.base k f fd ["self"] (spIter X.K C fld)) (hr : Room k X.A) (hb : Binds X.K fd ["self"] []) (ho : PE X o to) : PI X tg o (iOwn X.K C fld to) := by
  refine ⟨fun pins s σ H R I h => ?_⟩
  refine thn (ho.run pins s σ H _ I h) fun u s1 ⟨x, H1, I1, rx, a, dx, fs, t, zs, ex, ha, hf, ht, q⟩ => ?_
  subst ex
  obtain rfl : u = Value.ref a := rx
  obtain ⟨mA, O, rr, _, _, _⟩ := ins_get I1.hok ha
  obtain ⟨od, J, hl⟩ := O.look
  obtain ⟨m0, hF⟩ := I1.fr
  refine PySem.W.owit_iter hF I1.ok.mod.kin J hd.at_ hd.fn (thn (run_iter F ⟨hr, rfl⟩ hb I1 ha hf ht) fun r s2 ⟨it, er, hn, h0, I2⟩ => ?_)
  subst er
  have e2 : upd H1 it (ItT t it 0) it = some (ItT t it 0) := upd_same
  have g : s2.heap.get? it = some (itTup t 0) := (I2.hok it _ e2).1
  have hT : s2.TypeIs (.ref it) "tuple_iterator" := ⟨_, g, rfl⟩
  have hfp := ItX.inv_fp I2 e2 (Nat.le_trans I1.sz hn)
  have I3 := ItX.inv_drop I2 e2
  rw [ItX.dropH_upd h0] at I3 hfp
  unfold PySem.W.OwitIt
  refine wpAny_specialOf (name := Str.ofString "__next__") hT PySem.F.slot_tuple_iterator_next.lookup ?_
  refine ⟨it, [it], _, _, H1, rfl, I3, turn_tuple t it, ⟨_, g, rfl, rfl⟩, fun b hb => ?_, q⟩
  rw [List.mem_singleton.mp hb]
  exact hfp
end
/-! C.m(e, .., k = v, ..), m a classmethod; cls(e, .., k = v, ..), cls a local name that holds the class -/
def tCMethK (C : Addr) (n m : Nat) (sp : Sp) (gV : List V → List V → List V) (E : XK) (ta : TE) (t tk : TA) : TE := fun σ H Q => ta σ H fun x H1 => x = .ref C ∧ t σ H1 fun vs H2 => tk σ H2 fun zs H3 => (.ref C :: vs).length = n ∧ zs.length = m ∧ sp (gV (.ref C :: vs) zs) H3 Q E
def tMakeLK (i : Nat) (C : Addr) (n m : Nat) (sp : Sp) (gV : List V → List V → List V) (E : XK) (t tk : TA) : TE := fun σ H Q => σ[i]? = some (some (.ref C)) ∧ tMakeK C n m sp gV E t tk σ H Q
section
variable {X : Cx} {CX : CXT} {k n i : Nat} {C p g f : Addr} {mc : Value} {sp : Sp} {E : XK} {o e : Expr} {es : List Expr} {kws : List Keyword} {m x : Str} {pos apos xpos : Pos} {ta : TE} {t tk : TA} {pl : Sem Bool} {fd : FuncData} {ps ks : List Str}
  {gv : List Value → List Value → List Value} {gV : List V → List V → List V}
theorem pe_cmethK (he : PE X o ta) (r : ClX.CRead X.K C mc) (c : ClX.CMet X.K C mc m p g) (F : FnOk X.prog X.w X.K X.mg X.base CX k g fd ps sp) (hr : Room k X.A) (hb : KBn X.K fd ps n ks gv gV) (hx : Passes CX X E) (ha : PA X (e :: es) t) (hkw : PK X kws tk)
    (hall : (backToKw pos (keywordEach kws X.env)).all (·.1.isSome) = true := by rfl) (hks : (backToKw pos (keywordEach kws X.env)).filterMap (·.1) = ks := by rfl)
    (hst : starEach (e :: es) X.env = (false, eval e X.env) :: starEach es X.env := by rfl) (hpl : ((backTo pos (starEach (e :: es) X.env)).any (·.1) || (backToKw pos (keywordEach kws X.env)).any (·.1.isNone)) = false := by rfl)
    (ht : eval (.Call (.Attribute o m apos) (e :: es) kws pos) X.env = (do
      let ov ← eval o X.env
      standAt apos.atName
      let (f, first) ← holding [ov] (getMethod ov m pl)
      callWith pos f first (backTo pos (starEach (e :: es) X.env)) (backToKw pos (keywordEach kws X.env))) := by rfl) :
    PE X (.Call (.Attribute o m apos) (e :: es) kws pos) (tCMethK C n ks.length sp gV E ta t tk) := by
  refine ⟨fun pins s σ H Q I h => ?_⟩
  refine PySem.W.methodCall_KW (pl := pl) (thn (he.run pins s σ H _ I h) fun u s1 ⟨x, H1, I1, rx, ex, q⟩ => ?_) ht
  subst ex
  obtain rfl : u = Value.ref C := rx
  refine ClX.getmethcm_ok I1 r c fun s2 I2 => ?_
  refine PySem.W.callWith_of (P := PySem.W.MethP X.K s1.heap.objs.size g (.ref C)) hpl (PySem.W.keeps_M c.fi) (evalArgs_kw2 hall (thn (ha.run pos _ s2 σ H1 _ I2 q) fun us s3 ⟨vs, H2, I3, rv, q2⟩ => ?_) hst)
  refine thn (hkw.run pos _ s3 σ H2 _ I3 q2) fun ws s4 ⟨zs, H3, I4, rz, l1, l2, q3⟩ => ⟨⟨ClX.pin_at I4, I4.kIn⟩, ?_⟩
  rw [hks]
  have r2 : Vals (V.ref C :: vs) (Value.ref C :: us) := .cons (relR C) rv
  have n1 : (Value.ref C :: us).length = n := r2.length.symm.trans l1
  have I5 := ClX.unpin I4
  refine wpAny_call (PySem.W.method_call (ClX.pin_at I4) (codeAny_mono (F.run X.A X.stack s4 H3 ⟨Value.ref C :: us, ks.zip ws⟩ _ _ Q E hr I5.env0 (hb.to _ (Value.ref C :: us) ws I5.kIn n1 (rz.length.symm.trans l2)) (hb.rel r2 rz) q3) fun z s' hq => ?_))
  match z, hq with
  | .error e, hq => exact hx pins σ H3 s4 e s' I5 hq
  | .ok (.ret u), hq => exact I5.after hq
  | .ok .next, hq => exact False.elim hq
  | .ok .brk, hq => exact False.elim hq
  | .ok .cont, hq => exact False.elim hq
theorem pe_makeLK (M : Mk X.K C f) (F : FnOk X.prog X.w X.K X.mg X.base CX k f fd ps sp) (hr : Room (k + 1) X.A) (hb : KBn X.K fd ps (n + 1) ks gv gV) (hx : Passes CX X E) (ha : PA X (e :: es) t) (hkw : PK X kws tk)
    (hN : X.N[i]? = some x) (hv : Vis X.env.scope x) (hd : (x == ("__debug__" : Str)) = false := by decide) (hcd : (x == ("__classdict__" : Str)) = false := by decide)
    (hall : (backToKw pos (keywordEach kws X.env)).all (·.1.isSome) = true := by rfl) (hks : (backToKw pos (keywordEach kws X.env)).filterMap (·.1) = ks := by rfl)
    (hst : starEach (e :: es) X.env = (false, eval e X.env) :: starEach es X.env := by rfl) (hpl : ((backTo pos (starEach (e :: es) X.env)).any (·.1) || (backToKw pos (keywordEach kws X.env)).any (·.1.isNone)) = false := by rfl) :
    PE X (.Call (.Name x xpos) (e :: es) kws pos) (tMakeLK i C n ks.length sp gV E t tk) := by
  refine ⟨fun pins s σ H Q I ⟨h0, h⟩ => ?_⟩
  refine wpAny_Call_Name_kw (thn ((pe_var (pos := xpos) (i := i) hN hv hd hcd).run pins s σ H (fun v H1 => v = .ref C ∧ H1 = H) I ⟨.ref C, h0, rfl, rfl⟩) fun u s1 ⟨v, H1, I1, r1, ev, eH⟩ => ?_)
  subst ev
  rw [eH] at I1
  obtain rfl : u = Value.ref C := r1
  refine PySem.W.callWith_KW (h₀ := X.base) I1.ok.mod.kin M.kp hall (thn (ha.run pos pins s1 σ H _ I1 h) fun us s2 ⟨vs, H2, I2, r, q⟩ => ?_) hpl hst
  refine thn (hkw.run pos pins s2 σ H2 _ I2 q) fun ws s3 ⟨zs, H3, I3, rz, l1, l2, q2⟩ => ⟨I3.kIn, ?_⟩
  rw [hks]
  exact run_makeK M F hr hb hx I3 r rz l1 l2 q2
end

/-! heaps that only grow -/
theorem Same.up {H : Hp} {p : Addr} {o : HO} (h : H p = Option.none) : Same H (upd H p o) := fun b u e => by
  rw [upd_ne (ne_of_none e h)]
  exact e
/-- a list under way at D, which was not there in H1 -/
structure Acc (H1 : Hp) (D : Addr) (acc : List V) (H : Hp) : Prop where
  s : Same H1 H
  n : H1 D = Option.none
  a : H D = some (.lst acc)
theorem Acc.start {H1 : Hp} {D : Addr} (n : H1 D = Option.none) : Acc H1 D [] (upd H1 D (.lst [])) := ⟨Same.up n, n, upd_same⟩
theorem Acc.same {H1 H H' : Hp} {D : Addr} {acc : List V} (h : Acc H1 D acc H) (s : Same H H') : Acc H1 D acc H' := ⟨h.s.trans s, h.n, s _ _ h.a⟩
theorem Acc.push {H1 H : Hp} {D : Addr} {acc zs : List V} (h : Acc H1 D acc H) : Acc H1 D zs (upd H D (.lst zs)) :=
  ⟨fun b o e => by rw [upd_ne (ne_of_none e h.n)]; exact h.s b o e, h.n, upd_same⟩
theorem Same.none' {H H' : Hp} (s : Same H H') {p : Addr} (h : H' p = Option.none) : H p = Option.none := s.free h
theorem Same.of_upd {H H' : Hp} {p : Addr} {o : HO} (h : H p = Option.none) (s : Same (upd H p o) H') : Same H H' := (Same.up h).trans s
/-- a list of ints as values -/
theorem ints_at {ns : List Int} {i : Nat} {x : V} (h : (ns.map V.int)[i]? = some x) : ∃ (hi : i < ns.length), x = .int ns[i] := by
  rw [List.getElem?_map] at h
  cases e : ns[i]? with
  | none => rw [e] at h; cases h
  | some u =>
    rw [e] at h
    obtain ⟨hi, rfl⟩ := List.getElem?_eq_some_iff.mp e
    exact ⟨hi, (Option.some.inj h).symm⟩

/-! comprehensions that pick -/
section
variable {α : Type} {H1 H : Hp} {D : Addr} {ks : List α} {f : α → Option V} {i : Nat} {c : α → V}
def PickI (H1 : Hp) (D : Addr) (ks : List α) (f : α → Option V) : Nat → Hp → Prop := fun i H => Acc H1 D ((ks.take i).filterMap f) H
theorem pick_start (n : H1 D = Option.none) : PickI H1 D ks f 0 (upd H1 D (.lst [])) := Acc.start n
theorem take_fm (hi : i < ks.length) : (ks.take (i + 1)).filterMap f = (ks.take i).filterMap f ++ (f ks[i]).toList := by
  rw [List.take_succ_eq_append_getElem hi, List.filterMap_append]
  cases h : f ks[i] <;> simp [h]
theorem pick_yes {H' : Hp} {y : V} (hi : i < ks.length) (hl : ks.length ≤ 1000) (e : f ks[i] = some y) (s : Same H H') (h : PickI H1 D ks f i H) :
    ∃ acc, H' D = some (.lst acc) ∧ acc.length < sizeLine ∧ PickI H1 D ks f (i + 1) (upd H' D (.lst (acc ++ [y]))) := by
  have h2 := Acc.same h s
  refine ⟨_, h2.a, small1000 ?_, ?_⟩
  · exact Nat.le_trans (Nat.le_trans (List.length_filterMap_le _ _) (List.length_take_le _ _)) (by omega)
  · unfold PickI
    rw [take_fm hi, e]
    exact h2.push
theorem pick_no {H' : Hp} (hi : i < ks.length) (e : f ks[i] = none) (s : Same H H') (h : PickI H1 D ks f i H) : PickI H1 D ks f (i + 1) H' := by
  unfold PickI
  rw [take_fm hi, e, Option.toList_none, List.append_nil]
  exact Acc.same h s
theorem pick_end {m : Nat} (hm : m = ks.length) (h : PickI H1 D ks f m H) : Acc H1 D (ks.filterMap f) H := by
  subst hm
  unfold PickI at h
  rw [List.take_length] at h
  exact h
theorem map_at {x : V} (h : (ks.map c)[i]? = some x) : ∃ hi : i < ks.length, x = c ks[i] := by
  rw [List.getElem?_map] at h
  cases e : ks[i]? with
  | none => rw [e] at h; cases h
  | some u =>
    rw [e] at h
    obtain ⟨hi, rfl⟩ := List.getElem?_eq_some_iff.mp e
    exact ⟨hi, (Option.some.inj h).symm⟩
end
end Tw

set_option Elab.async false
set_option linter.all false
set_option maxRecDepth 100000
set_option maxHeartbeats 2000000
namespace Tw
open PySem PySem.Spec PyProof.Rows L2
open PySem.W (InstAt looks_findIn looks_subIn ifBound_K cmp_K)
/-- a class with an own __eq__ and the usual != -/
structure EqC (K : PySem.W.Frag) (C f : Addr) : Prop where
  eq : PySem.W.findIn K (.ref C) "__eq__" = some (some (.ref f))
  fn : PySem.W.isFn K (.ref f) = true
  ne : PySem.W.findIn K (.ref C) "__ne__" = some (some (.builtin "object.__ne__"))
  ob : PySem.W.subIn K (.ref C) (.type "object") = some true
  ni : PySem.W.subIn K (.type "int") (.ref C) = some false
  nt : PySem.W.subIn K (.type "tuple") (.ref C) = some false

section
variable {prog : Program} {w : World} {A : Around} {E : Value → Shared → Prop} {s : Shared} {K : PySem.W.Frag} {x C L f : Addr} {h₀ : Heap} {m : Str → Option Value} {ox : Obj} {od : Option Obj} {b tb : Value}
theorem ne_entry {Q : PySem.Fin → Shared → Prop} (hu : A.units < cLine) (X : K.In s.heap) (I : InstAt s.heap x ox C od) (c : EqC K C f)
    (h : wpAny (model prog w) A (call (.ref f) [.ref x, b]) (fun v s' => ∃ r, v = .bool r ∧ Q (.done (.ret (.bool (!r)))) s') E s) :
    wpAny (model prog w) A (Builtin.«object.__ne__» ⟨[.ref x, b], []⟩) Q E s := by
  unfold Builtin.«object.__ne__»
  refine wpAny_bind (wpAny_of_eq (a := (Value.ref x, [b])) (by first | rfl | kernel_rfl!) ?_)
  refine wpAny_bind (wpAny_cRoomFor hu ?_)
  refine wpAny_bind (m := callSpecialIfBound? (.ref x) (Str.ofString "__eq__") [b]) (ifBound_K X I c.eq c.fn (wpAny_mono h (fun v s' hv => ?_) fun _ _ e => e))
  obtain ⟨r, e, q⟩ := hv
  subst e
  refine wpAny_bind (m := truthy (.bool r)) (wpAny_truthy_bool ?_)
  exact wpAny_pure q
theorem ne_call {Q : Value → Shared → Prop} (hu : A.in1.units < cLine) (X : K.In s.heap) (I : InstAt s.heap x ox C od) (c : EqC K C f)
    (h : wpAny (model prog w) A.in1 (call (.ref f) [.ref x, b]) (fun v s' => ∃ r, v = .bool r ∧ Q (.bool (!r)) s') E s) :
    wpAny (model prog w) A (call (.builtin "object.__ne__") [.ref x, b]) Q E s := by
  have t2 : PySem.W.Looks (model prog w) s.heap (isInstance (.ref x) (.type "object")) true := I.type.andThen (looks_subIn X c.ob)
  refine wpAny_call (codeAny_call_builtin F.cmp_object.ne.plain F.cmpEntry_ne (PySem.W.check_slot F.cmpKind_ne F.cmpSplit_ne t2 (F.cmpArgs_ne _ _) (ne_entry hu X I c (wpAny_mono h (fun v s' hv => ?_) fun _ _ e => e))))
  obtain ⟨r, e, q⟩ := hv
  exact ⟨r, e, q⟩
theorem ne_bound {Q : Option Value → Shared → Prop} (hu : A.in1.units < cLine) (X : K.In s.heap) (I : InstAt s.heap x ox C od) (c : EqC K C f)
    (h : wpAny (model prog w) A.in1 (call (.ref f) [.ref x, b]) (fun v s' => ∃ r, v = .bool r ∧ Q (some (.bool (!r))) s') E s) :
    wpAny (model prog w) A (callSpecialIfBound? (.ref x) "__ne__" [b]) Q E s := by
  simp only [callSpecialIfBound?, bindSpecialIfBound?]
  refine wpAny_holding (wpAny_bind (wpAny_bind (wpAny_bind (I.type.here ((looks_findIn X c.ne).here ?_)))))
  refine wpAny_bind (wpAny_askSetting (wpAny_ite ?_))
  have fin : wpAny (model prog w) A (call (.builtin "object.__ne__") ([.ref x] ++ [b]) >>= fun v => pure (some v)) Q E s :=
    wpAny_bind (ne_call hu X I c (wpAny_mono h (fun v s' ⟨r, e, q⟩ => ⟨r, e, wpAny_pure q⟩) fun _ _ e => e))
  have bd := F.cmp_object.ne.bind (.ref x)
  split
  · refine wpAny_bind ?_
    rw [bd]
    exact wpAny_pure (wpAny_pure (by exact fin))
  · refine wpAny_tryCatch (wpAny_bind ?_)
    rw [bd]
    exact wpAny_pure (wpAny_pure (by exact fin))
theorem ne_K {Q : Value → Shared → Prop} (hu : A.in1.units < cLine) (hu0 : A.units < cLine) (F : Fr h₀ L s.heap m) (X₀ : K.In h₀) (I : InstAt s.heap x ox C od) (hb : PySem.W.Looks (model prog w) s.heap (typeOf b) tb) (hn : PySem.W.notFirst K C tb = true) (c : EqC K C f)
    (h : wpAny (model prog w) A.in1 (call (.ref f) [.ref x, b]) (fun v s' => ∃ r, v = .bool r ∧ Q (.bool (!r)) s') E s) : wpAny (model prog w) A (richCompare .NotEq (.ref x) b) Q E s := by
  have X := X₀.keeps F.keep
  have one : wpAny (model prog w) A (tryCompare (.ref x) (cmpInfo .NotEq).2.1 b) (fun r s' => ∃ v, r = some v ∧ Q v s') E s := by
    unfold tryCompare
    refine wpAny_bind (ne_bound hu X I c (wpAny_mono h (fun v s' ⟨r, e, q⟩ => ⟨r, e, ?_⟩) fun _ _ e => e))
    exact wpAny_pure ⟨_, rfl, q⟩
  have two : ∀ r s', (∃ v, r = some v ∧ Q v s') → ∃ v, r = some v ∧ Q v s' := fun _ _ z => z
  unfold richCompare
  simp only [oneThing_ref]
  refine wpAny_holding (wpAny_bind (wpAny_cRoomFor hu0 ?_))
  refine wpAny_bind (I.type.here (wpAny_bind (hb.here ?_)))
  split
  · rename_i q
    have e : PySem.W.subIn K tb (.ref C) = some false := by
      rcases Bool.or_eq_true_iff.mp hn with e | e
      · rw [beq_iff_eq.mp e] at q; simp at q
      · exact beq_iff_eq.mp e
    refine wpAny_bind ((looks_subIn X e).here ?_)
    simp only [Bool.false_eq_true, if_false]
    refine wpAny_bind (wpAny_mono one (fun r s' ⟨v, ev, hq⟩ => ?_) fun _ _ e => e)
    subst ev
    exact wpAny_pure hq
  · refine wpAny_bind (wpAny_pure ?_)
    simp only [Bool.false_eq_true, if_false]
    refine wpAny_bind (wpAny_mono one (fun r s' ⟨v, ev, hq⟩ => ?_) fun _ _ e => e)
    subst ev
    exact wpAny_pure hq
end
/-! as rules -/
section
variable {X : Cx} {CX : CXT} {k : Nat} {f C : Addr} {fd : FuncData} {ps : List Str} {sp : Sp} {E : XK}
/-- the other operand: an instance of the same class, an int, a tuple -/
inductive Oth (H : Hp) (C : Addr) : V → Prop where
  | ins {a dx : Addr} {fs : List (Str × V)} (h : H a = some (.ins C dx fs)) : Oth H C (.ref a)
  | int (i : Int) : Oth H C (.int i)
  | tup {a : Addr} {xs : List V} (h : H a = some (.tup xs)) : Oth H C (.ref a)
def rEqO (C : Addr) (sp : Sp) (E : XK) (neg : Bool) : R2 := fun x y H Q =>
  ∃ a dx fs, x = .ref a ∧ H a = some (.ins C dx fs) ∧ Oth H C y ∧ sp [.ref a, y] H (fun v H' => ∃ r, v = .bl r ∧ Q (.bl (if neg then !r else r)) H') E
theorem oth_type {pins : List (Addr × Obj)} {σ : L2.St} {H : Hp} {s : Shared} {y : V} {u : Value} (I : Inv X pins σ H s) (ry : RelV y u) (c : EqC X.K C f) (o : Oth H C y) :
    ∃ tb, PySem.W.Looks (model X.prog X.w) s.heap (typeOf u) tb ∧ PySem.W.notFirst X.K C tb = true := by
  cases o with
  | @ins a dx fs h =>
    obtain rfl : u = Value.ref a := ry
    obtain ⟨mA, O, rr, _, _, _⟩ := ins_get I.hok h
    obtain ⟨od, J, hl⟩ := O.look
    exact ⟨_, J.type, by unfold PySem.W.notFirst; simp⟩
  | int i =>
    obtain ⟨t, rfl⟩ := ry
    exact ⟨.type "int", .now, by unfold PySem.W.notFirst; rw [c.ni]; simp⟩
  | @tup a xs h =>
    obtain rfl : u = Value.ref a := ry
    obtain ⟨_, _, _, ob, h1, h2, _⟩ := (show ObjOk X.prog X.w H s.heap a (.tup xs) from I.hok a _ h)
    exact ⟨.type "tuple", h2 ▸ (PySem.W.Looks.ld h1).andThen .now, by unfold PySem.W.notFirst; rw [c.nt]; simp⟩
theorem op_eq_own (c : EqC X.K C f) (F : FnOk X.prog X.w X.K X.mg X.base CX k f fd ps sp) (hr : Room k X.A) (hb : Binds X.K fd ps []) (hx : Passes CX X E) : OpR X (compareOp .Eq) (rEqO C sp E false) := by
  intro pins s σ H x y v u Q I rx ry ⟨a, dx, fs, ex, ha, o, q⟩
  subst ex
  obtain rfl : v = Value.ref a := rx
  obtain ⟨mA, O, rr, _, _, _⟩ := ins_get I.hok ha
  obtain ⟨od, J, hl⟩ := O.look
  obtain ⟨m0, hF⟩ := I.fr
  obtain ⟨tb, lk, nf⟩ := oth_type I ry c o
  show wpAny _ _ (richCompare .Eq (.ref a) u) _ _ _
  refine cmp_K hr.units0 hF I.ok.mod.kin J lk nf c.eq c.fn (thn (run_sub F ⟨hr, rfl⟩ hb hx I (.cons (relR a) (.cons ry .nil)) q) fun r s' ⟨z, H', I', rz, b, ez, q'⟩ => ?_)
  subst ez
  obtain rfl : r = Value.bool b := rz
  exact ⟨_, H', I', relB b, q'⟩
theorem op_ne_own (c : EqC X.K C f) (F : FnOk X.prog X.w X.K X.mg X.base CX k f fd ps sp) (hr : Room (k + 1) X.A) (hb : Binds X.K fd ps []) (hx : Passes CX X E) : OpR X (compareOp .NotEq) (rEqO C sp E true) := by
  intro pins s σ H x y v u Q I rx ry ⟨a, dx, fs, ex, ha, o, q⟩
  subst ex
  obtain rfl : v = Value.ref a := rx
  obtain ⟨mA, O, rr, _, _, _⟩ := ins_get I.hok ha
  obtain ⟨od, J, hl⟩ := O.look
  obtain ⟨m0, hF⟩ := I.fr
  obtain ⟨tb, lk, nf⟩ := oth_type I ry c o
  show wpAny _ _ (richCompare .NotEq (.ref a) u) _ _ _
  refine ne_K (Room.units0 hr.in1) hr.units0 hF I.ok.mod.kin J lk nf c (thn (run_sub F (Sub.in1 ⟨hr, rfl⟩) hb hx I (.cons (relR a) (.cons ry .nil)) q) fun r s' ⟨z, H', I', rz, b, ez, q'⟩ => ?_)
  subst ez
  exact ⟨b, rz, _, H', I', relB (!b), q'⟩
end
end Tw

set_option Elab.async false
set_option linter.all false
set_option maxRecDepth 100000
set_option maxHeartbeats 4000000
namespace Tw
open PySem PySem.Spec PyProof.Rows L2
/-! enumerate(t), t a tuple -/
def enO (s : Shared) : Obj := { cls := .type "enumerate", data := .fields #[.none, .bool false, .ref s.heap.objs.size, rawInt 0, .none, .none] }
theorem enum_newT (t : Addr) (items : Array Value) :
    Meets (Builtin.«enumerate.__new__» ⟨[.type "enumerate", .ref t], []⟩) (fun _ R s => s.heap.IsTuple t items ∧
      R (.ok (.ret (.ref (s.heap.push (itTup t 0)).objs.size))) { s with heap := (s.heap.push (itTup t 0)).push (enO s) }) :=
  .of_wp fun prog w A R s h => by
    obtain ⟨hp, g, d, tk, os⟩ := s
    obtain ⟨h1, h⟩ := h
    have hsub := sub_enumerate
    have q1 : ∀ {A' : Around} {E : Value → Shared → Prop} {Q : Value → Shared → Prop}, Q (.ref hp.objs.size) ⟨hp.push (itTup t 0), g, d, tk, os⟩ → wpAny (model prog w) A' (pyIter (.ref t)) Q E ⟨hp, g, d, tk, os⟩ :=
      fun q => wpAny_pyIter_tuple (s := ⟨hp, g, d, tk, os⟩) h1 q
    wp_walk using q1
    refine wpAny_stack_any fun st => wpAny_pure ?_
    split
    · rename_i c _ _ _ _ _
      cases (c == Value.type "enumerate")
      · wp_walk using q1
        exact ⟨_, rfl, h⟩
      · wp_walk using q1
        exact ⟨_, rfl, h⟩
    · wp_walk using q1
      exact ⟨_, rfl, h⟩
section
variable {prog : Program} {w : World} {A : Around} {E : Value → Shared → Prop} {s : Shared}
theorem call_enumT {t : Addr} {items : Array Value} {Q : Value → Shared → Prop} (hT : s.heap.IsTuple t items)
    (h : ∀ h', IsEnum h' (s.heap.objs.size + 1) s.heap.objs.size 0 .none → h'.IsTupleIter s.heap.objs.size t 0 → h'.objs.size = s.heap.objs.size + 2 →
      (∀ b o, s.heap.get? b = some o → h'.get? b = some o) → Q (.ref (s.heap.objs.size + 1)) { s with heap := h' }) :
    wpAny (model prog w) A (call (.type "enumerate") [.ref t]) Q E s := by
  refine callType_new F.called_enumerate (by decide) (F.typeCall_enumerate_1 _) (F.newCall_enumerate_1 _) (fun obj => F.args_object_init_2 obj _) F.entry_enumerate_new (enum_newT t items) ⟨hT, ?_⟩
  have hz : (s.heap.push (itTup t 0)).objs.size = s.heap.objs.size + 1 := Heap.size_push ..
  show _ ∧ _
  rw [hz]
  have he : IsEnum ((s.heap.push (itTup t 0)).push (enO s)) (s.heap.objs.size + 1) s.heap.objs.size 0 .none := by
    have q := Heap.get?_push_size (s.heap.push (itTup t 0)) (o := enO s) rfl
    rw [hz] at q
    exact q
  have hi : ((s.heap.push (itTup t 0)).push (enO s)).IsTupleIter s.heap.objs.size t 0 := ⟨_, Heap.get?_push_of_some _ (Heap.get?_push_size _ rfl), rfl, rfl⟩
  exact ⟨⟨_, he, rfl⟩, h _ he hi (by rw [Heap.size_push, hz]) fun b o x => Heap.get?_push_of_some _ (Heap.get?_push_of_some _ x)⟩
end
def IteT (K : PySem.W.Frag) (a : Addr) : It :=
  ⟨fun i H => ∃ (xs : List V) (x : V), SqT K H a xs ∧ xs[i]? = some x, fun i H v H' => ∃ T x, v = .ref T ∧ H T = Option.none ∧ H' = upd H T (.tup [.int (i : Nat), x]) ∧ ∀ xs, SqT K H a xs → xs[i]? = some x, fun i H => ∃ xs : List V, SqT K H a xs ∧ xs.length = i⟩
theorem turn_enumT {P : Program} {w : World} {K : PySem.W.Frag} {elts : List Expr} {kk : Nat} {tpos : Pos} (a e it : Addr) :
    Turn P w K (.Tuple elts kk tpos) (IteT K a) [e, it] e (fun i h => (∃ old, IsEnum h e it ((i : Nat) : Int) old) ∧ h.IsTupleIter it a i ∧ e ≠ it) where
  mem := by simp
  obj := fun i h st b hb => by
    obtain ⟨⟨old, he⟩, ⟨o, ho, hc, hd⟩, _⟩ := st
    rcases (show b = e ∨ b = it by simpa using hb) with rfl | rfl
    · exact ⟨_, he, fun v q => nomatch q⟩
    · exact ⟨o, ho, fun v q => by rw [hd] at q; cases q⟩
  keep := fun i h h' st k => let ⟨⟨old, he⟩, hi, hne⟩ := st; ⟨⟨old, k e (by simp) _ he⟩, hi.at fun o q => k it (by simp) o q, hne⟩
  item := by
    intro X hP hw hK hc i pins s σ H E I hf st hg
    subst hP hw hK
    obtain ⟨⟨old, he⟩, hit, hne⟩ := st
    obtain ⟨xs, x, hq, hx⟩ := hg
    obtain ⟨its, rv, p, hz⟩ := I.tuple hq
    have hil : i < xs.length := (List.getElem?_eq_some_iff.mp hx).1
    have hlen := rv.length
    have hel : e < s.heap.objs.size := Heap.lt_size he
    have hitl : it < s.heap.objs.size := by obtain ⟨_, q, _⟩ := hit; exact Heap.lt_size q
    have hae : e ≠ a := fun z => by
      obtain ⟨oo, h1, h2, _⟩ := p
      rw [← z, he] at h1
      cases h1
      injection h2 with q
      exact absurd q (by decide)
    have hia : it ≠ a := fun z => by
      obtain ⟨oo, h1, h2, _⟩ := p
      obtain ⟨o2, h3, h4, _⟩ := hit
      rw [← z, h3] at h1
      cases h1
      rw [h4] at h2
      injection h2 with q
      exact absurd q (by decide)
    have D := Draws.tuple (prog := X.prog) (w := X.w) (A := X.A.in1) (I.ok.hd hc) it a hia.symm its.toArray
    refine wpAny_pyNext_enum_itemD D he ⟨hit, p⟩ (by rw [List.size_toArray]; omega) hne (by simp [hne, hae]) fun u h' tk hu ho hst hT hsz hk => ?_
    obtain ⟨u2, hu2, ru⟩ := rv.get hx
    obtain rfl : u = u2 := by
      rw [List.getElem?_toArray] at hu
      exact Option.some.inj (hu.symm.trans hu2)
    refine ⟨_, rfl, wpAny_letOwnedTupleGo_enum (s := { s with heap := h', toks := tk + 1 }) ho fun h'' he' sb => ?_⟩
    have hT2 : h''.get? s.heap.objs.size = some { cls := .type "tuple", data := .seq #[.int i tk, u] } := (sb.2 _ (Nat.ne_of_gt hel)).trans hT
    have new : ObjOk X.prog X.w (upd H s.heap.objs.size (.tup [.int (i : Nat), x])) h'' s.heap.objs.size (.tup [.int (i : Nat), x]) :=
      ⟨by show 2 ≤ sizeLine; decide, [.int i tk, u], .cons ⟨_, rfl⟩ (.cons ru .nil), ⟨_, hT2, rfl, _, rfl⟩⟩
    have I1 : Inv X pins σ (upd H s.heap.objs.size (.tup [.int (i : Nat), x])) { s with heap := h'', toks := tk + 1 } :=
      I.turnedNew (ch := [e, it]) (fun b ob hb q => (sb.2 b (fun z => hb (by simp [z]))).trans (hk b ob (fun z => hb (by simp [z])) (fun z => hb (by simp [z])) q)) hf (Nat.le_refl _) new
    refine ⟨.ref s.heap.objs.size, _, I1, rfl, ⟨_, x, rfl, I.hok.fresh (Nat.le_refl _), rfl, fun ys hy => by rw [I.tuple_inj hy hq]; exact hx⟩, ⟨⟨u, ?_⟩, hst.1.at fun o q => (sb.2 it (Ne.symm hne)).trans q, hne⟩, fun b hb => ?_⟩
    · rw [show ((i + 1 : Nat) : Int) = (i : Int) + 1 by omega]
      exact he'
    · have hb' : b < s.heap.objs.size := by
        rcases (show b = e ∨ b = it by simpa using hb) with rfl | rfl
        · exact hel
        · exact hitl
      rw [upd_ne (Nat.ne_of_lt hb')]
      exact (hf b hb).1
  done := by
    intro X hP hw hK hc i pins s σ H E I hf st hg
    subst hP hw hK
    obtain ⟨⟨old, he⟩, hit, hne⟩ := st
    obtain ⟨xs, hq, hx⟩ := hg
    obtain ⟨its, rv, p, hz⟩ := I.tuple hq
    obtain ⟨f0, f1, f2, f3, f4, f5⟩ := hf it (by simp)
    have hlen := rv.length
    have hae : e ≠ a := fun z => by
      obtain ⟨oo, h1, h2, _⟩ := p
      rw [← z, he] at h1
      cases h1
      injection h2 with q
      exact absurd q (by decide)
    have hia : it ≠ a := fun z => by
      obtain ⟨oo, h1, h2, _⟩ := p
      obtain ⟨o2, h3, h4, _⟩ := hit
      rw [← z, h3] at h1
      cases h1
      rw [h4] at h2
      injection h2 with q
      exact absurd q (by decide)
    have D := Draws.tuple (prog := X.prog) (w := X.w) (A := X.A.in1) (I.ok.hd hc) it a hia.symm its.toArray
    have en : its.toArray.size = i := by rw [List.size_toArray]; omega
    refine wpAny_pyNext_enum_endD D he (by rw [en]; exact ⟨hit, p⟩) fun h' eb => ⟨rfl, I.turned (t' := s.toks) (fun b o hb q => eb b o hb q) f0 f1 f3 f4 f5⟩
  self := fun A i s Q E st h => let ⟨⟨_, he⟩, _⟩ := st; wpAny_pyIter_enum he h
theorem walk_enumT {K : PySem.W.Frag} {a : Addr} {xs : List V} : Walk (IteT K a) xs.length (fun H => SqT K H a xs) (YPair (fun i => some (.int (i : Nat))) (fun i => xs[i]?)) := by
  refine ⟨fun i _ hi q => ⟨xs, xs[i], q, by simp [hi]⟩, fun _ q => ⟨xs, q, rfl⟩, fun i H v H' _ q y => ?_⟩
  obtain ⟨T, x, h1, h2, h3, h4⟩ := y
  exact ⟨T, .int (i : Nat), x, h1, h2, h3, rfl, h4 xs q⟩
/-- enumerate of a list or of a tuple -/
def iEnS (K : PySem.W.Frag) (ta : TA) : TI := fun σ H R => ta σ H fun vs H1 => ∃ a xs, vs = [.ref a] ∧ ((SqL K H1 a xs ∧ R (Ite K a) H1) ∨ (SqT K H1 a xs ∧ R (IteT K a) H1))
theorem pi_enS {X : Cx} {e : Expr} {ta : TA} {p pos tpos : Pos} {elts : List Expr} {kk : Nat} (hg : Gl X "enumerate") (hm : X.mg "enumerate" = Option.none) (ha : PA X [e] ta) (hs : starEach [e] X.env = [(false, eval e X.env)] := by rfl) :
    PI X (.Tuple elts kk tpos) (.Call (.Name "enumerate" p) [e] [] pos) (iEnS X.K ta) := by
  refine ⟨fun pins s σ H R I h => ?_⟩
  refine Call_ (ld_blt I hg hm boot_enumerate (PyProof.Rows.callWith_type1 (thn (ha.run pos pins s σ H _ I h) fun us s1 ⟨vs, H1, I1, r1, a, xs, ex, q1⟩ => ?_) hs rfl))
  subst ex
  obtain ⟨u, rfl, ru⟩ := r1.one
  obtain rfl : u = Value.ref a := ru
  have fr : ∀ b ∈ [s1.heap.objs.size + 1, s1.heap.objs.size], FpOk X pins H1 b := fun b hb => by
    have hle : s1.heap.objs.size ≤ b := by
      rcases (show b = s1.heap.objs.size + 1 ∨ b = s1.heap.objs.size by simpa using hb) with z | z <;> omega
    exact I1.fpOk hle (I1.hok.fresh hle)
  rcases q1 with ⟨hq, q⟩ | ⟨hq, q⟩
  · obtain ⟨its, rv, p', hz⟩ := I1.list hq
    exact call_enumerate_list p'.isList fun h' he hit hsz hk => wpAny_pyIter_enum he ⟨_, _, _, _, H1, rfl, I1.kept (t' := s1.toks) hk, turn_enum a (s1.heap.objs.size + 1) s1.heap.objs.size, ⟨⟨.none, he⟩, hit, Nat.succ_ne_self _⟩, fr, q⟩
  · obtain ⟨its, rv, p', hz⟩ := I1.tuple hq
    exact call_enumT p' fun h' he hit hsz hk => wpAny_pyIter_enum he ⟨_, _, _, _, H1, rfl, I1.kept (t' := s1.toks) hk, turn_enumT a (s1.heap.objs.size + 1) s1.heap.objs.size, ⟨⟨.none, he⟩, hit, Nat.succ_ne_self _⟩, fr, q⟩
end Tw

set_option Elab.async false
set_option linter.all false
set_option maxRecDepth 100000
set_option maxHeartbeats 2000000
/-! own rules: min(xs, key=lambda x: ys[x]), ys a name of the def -/
namespace Cl
open PySem PySem.Spec PyProof.Rows L2 LamX
section
variable {prog : Program} {w : World} {A : Around} {E : Value → Shared → Prop} {s : Shared}
/-- what the lambda's scope must say -/
structure LSc (scope : Scope) (x y : Str) : Prop where
  kind : scope.kind = .function
  co : scope.isCoroutine = false
  gen : scope.isGenerator = false
  nocell : ∀ z ∈ scope.names, z.2 ≠ .cell
  px : scope.names.lookup x = some .local
  fy : scope.names.lookup y = some .free
/-- lambda x: y[x], called with an int -/
theorem lam_ix {f l c' ck : Addr} {q x y : Str} {params : Arguments} {p1 p2 p3 : Pos} {scope : Scope} {cl : List (Str × Addr)} {pm ctv u : Value} {vs : List Value} {i : Int} {t : Tok} {Q : Value → Shared → Prop}
    (S : LSc scope x y) (hd : A.depth < recursionLimit) (hf : s.heap.get? f = some (PySem.W.kla_obj "<lambda>" q params (.Subscript (.Name y p1) (.Name x p2) p3) scope cl pm c' ctv))
    (hbind : ∀ v : Value, bindArgs (PySem.W.kla_fn "<lambda>" q params (.Subscript (.Name y p1) (.Name x p2) p3) scope cl pm (.ref c') ctv) ⟨[v], []⟩ = pure [(x, v)])
    (hcode : ∃ (oc : Obj) (us : Array Value) (tk : Tok), s.heap.get? c' = some oc ∧ oc.data = .fields us ∧ us[1]? = some (.str q tk)) (hlim : s.heap.NoLimit)
    (hck : cl.lookup y = some ck) (hcell : s.heap.IsCell ck (some (.ref l))) (hl : s.heap.IsList l vs.toArray) (h0 : 0 ≤ i) (h1 : i < 2 ^ 63) (hi : vs[i.toNat]? = some u)
    (hdx : (x == ("__debug__" : Str)) = false) (hdy : (y == ("__debug__" : Str)) = false) (hcy : (y == ("__classdict__" : Str)) = false)
    (h : ∀ h' tk, s.toks ≤ tk → (∀ b o, s.heap.get? b = some o → h'.get? b = some o) → Q u { s with heap := h', toks := tk }) : wpAny (model prog w) A (call (.ref f) [.int i t]) Q E s := by
  obtain ⟨oc, us, tq, hoc, hdc, hvc⟩ := hcode
  refine wpAny_call (PySem.W.kla_callFunE hd hf rfl S.co S.gen rfl ⟨c', oc, us, tq, rfl, hoc, hdc, hvc⟩ ?_)
  rw [hbind]
  refine wpAny_pure (wpAny_newFunctionEnv S.nocell (fun z hz => by rw [List.mem_singleton.mp hz]; exact S.px) (fun h₁ hns hsb => ⟨hlim.fresh _ hsb, ?_⟩) S.kind)
  have kp : ∀ b o, s.heap.get? b = some o → h₁.get? b = some o := fun b o e => hsb.extBut b o (Nat.ne_of_lt (Heap.lt_size e)) (Heap.get?_push_of_some _ e)
  refine PySem.W.kla_codeExpr ?_
  refine wpAny_Subscript_Name list_getitem_lookup ?_
  refine wpAny_Name (wpAny_loadName_free S.kind S.fy hck (hcell.keeps kp) ?_ hcy) hdy
  refine wpAny_Name (wpAny_loadName_local S.kind S.px hns (v := .int i t) ?_ ?_) hdx
  · simp [List.lookup]
  · have hl' : h₁.IsList l vs.toArray := hl.at fun o e => kp _ _ e
    refine ⟨hl'.typeIs, wpAny_getItem_list hl' h0 h1 (by simpa using hi) ?_⟩
    exact h h₁ _ (by show s.toks ≤ s.toks + _; omega) kp
/-- what a lambda x: y[x] is, and what it reads -/
structure LamAt (h : Heap) (f : Addr) (x y : Str) (q : Str) (params : Arguments) (p1 p2 p3 : Pos) (scope : Scope) (cl : List (Str × Addr)) (pm ctv : Value) (c' ck l : Addr) (us : List Value) : Prop where
  fn : h.get? f = some (PySem.W.kla_obj "<lambda>" q params (.Subscript (.Name y p1) (.Name x p2) p3) scope cl pm c' ctv)
  code : ∃ (oc : Obj) (us : Array Value) (tk : Tok), h.get? c' = some oc ∧ oc.data = .fields us ∧ us[1]? = some (.str q tk)
  lim : h.NoLimit
  hck : cl.lookup y = some ck
  cell : h.IsCell ck (some (.ref l))
  lst : h.IsList l us.toArray
theorem LamAt.keeps {h h' : Heap} {f : Addr} {x y : Str} {q : Str} {params : Arguments} {p1 p2 p3 : Pos} {scope : Scope} {cl : List (Str × Addr)} {pm ctv : Value} {c' ck l : Addr} {us : List Value}
    (L : LamAt h f x y q params p1 p2 p3 scope cl pm ctv c' ck l us) (k : ∀ b o, h.get? b = some o → h'.get? b = some o) : LamAt h' f x y q params p1 p2 p3 scope cl pm ctv c' ck l us :=
  ⟨k _ _ L.fn, let ⟨oc, us, tk, a, b, c⟩ := L.code; ⟨oc, us, tk, k _ _ a, b, c⟩, L.lim.keeps k, L.hck, L.cell.keeps k, L.lst.at fun o e => k _ _ e⟩
theorem min_lam {f a l c' ck : Addr} {q x y : Str} {params : Arguments} {p1 p2 p3 : Pos} {scope : Scope} {cl : List (Str × Addr)} {pm ctv : Value} {cs us : List Value} {ns : Nat → Int} {kf : Nat → Int} {Q : Value → Shared → Prop}
    (hh : A.handled = none) (S : LSc scope x y) (hd : A.depth < recursionLimit) (L : LamAt s.heap f x y q params p1 p2 p3 scope cl pm ctv c' ck l us)
    (hbind : ∀ v : Value, bindArgs (PySem.W.kla_fn "<lambda>" q params (.Subscript (.Name y p1) (.Name x p2) p3) scope cl pm (.ref c') ctv) ⟨[v], []⟩ = pure [(x, v)])
    (hdx : (x == ("__debug__" : Str)) = false) (hdy : (y == ("__debug__" : Str)) = false) (hcy : (y == ("__classdict__" : Str)) = false)
    (ht : s.heap.IsTuple a cs.toArray) (hc : ∀ i, i < cs.length → ∃ t, cs[i]? = some (.int (ns i) t)) (hne : 0 < cs.length)
    (hk : ∀ i, i < cs.length → 0 ≤ ns i ∧ ns i < 2 ^ 63 ∧ ∃ t, us[(ns i).toNat]? = some (.int (kf i) t))
    (h : ∀ v h' tk, cs[argBest (fun i j => decide (kf i < kf j)) (cs.length - 1)]? = some v → (∀ b o, s.heap.get? b = some o → h'.get? b = some o) → Q v { s with heap := h', toks := tk }) :
    wpAny (model prog w) A (call (.builtin "min") [.ref a] [(Str.ofString "key", .ref f)]) Q E s := by
  have hd1 : A.in1.depth < recursionLimit := hd
  refine call_min_walkK (PySem.W.iter_tupleW (A := A.in1) hh ht fun s₂ e2 W st hfp hfr kp2 => ?_)
  have sz2 : s.heap.objs.size < s₂.heap.objs.size := hfp _ List.mem_cons_self
  have old : ∀ {s' : Shared}, Moved [s₂.heap.objs.size, s.heap.objs.size] (fun a b => b = a) s₂ s' → ∀ b o, s.heap.get? b = some o → s'.heap.get? b = some o := fun {s'} m b o e => by
    have lt := Heap.lt_size e
    refine m.heap b o (fun hm => ?_) (kp2 b o e)
    rcases List.mem_cons.mp hm with z | hm
    · rw [z] at lt
      exact Nat.lt_irrefl _ (Nat.lt_trans lt sz2)
    · rw [List.mem_singleton.mp hm] at lt
      exact Nat.lt_irrefl _ lt
  have szc : cs.toArray.size = cs.length := by simp
  refine ⟨s.heap.objs.size, [s.heap.objs.size, a], [s.heap.objs.size], (fun a b => b = a), cs.toArray.size, _, _, fun s' => Moved [s₂.heap.objs.size, s.heap.objs.size] (fun a b => b = a) s₂ s', fun i k _ => ∃ t, k = .int (kf i) t, fun i j => decide (kf i < kf j), rfl, W, st, hfp, by rw [szc]; exact hne, ⟨?_, ?_, ?_, ?_⟩, Moved.refl fun _ => rfl, ?_⟩
  · exact fun s1 s' J m => J.trans (fun _ _ _ h1 h2 => h2.trans h1) m
  · exact fun i k s1 s' v _ => v
  · intro i v s1 o Q' E' hi hP J stI hS cont
    rw [szc] at hi
    obtain ⟨t, ec⟩ := hc i hi
    have ev : v = .int (ns i) t := by
      have hP' : cs[i]? = some v := by simpa using hP
      rw [ec] at hP'
      exact (Option.some.inj hP').symm
    subst ev
    obtain ⟨h0, h1, tk, eu⟩ := hk i hi
    have L1 := L.keeps (old J)
    refine lam_ix S hd1 L1.fn hbind L1.code L1.lim L1.hck L1.cell L1.lst h0 h1 eu hdx hdy hcy fun h' tk' hle kp => ?_
    exact cont _ _ (J.then_heap hle fun b o _ e => kp b o e) (W.frame _ s1 h' tk' stI hle fun b _ o e => kp b o e) (kp _ _ hS) ⟨_, rfl⟩ fun j k' z => z
  · intro i j ki kj s1 Q' E' J vi vj q
    exact CmpOf.ints_lt (prog := prog) (w := w) (A := A.in1) (P := fun i v => ∃ t, v = .int (kf i) t) kf (fun i v h => h) i j ki kj s1 Q' E' vi vj q
  · intro v s' hP J
    rw [szc] at hP
    have hP' : cs[argBest (fun i j => decide (kf i < kf j)) (cs.length - 1)]? = some v := by simpa using hP
    have e : s' = { s with heap := s'.heap, toks := s'.toks } := by
      obtain ⟨hp, g, d, tk, os⟩ := s'
      subst e2
      have h1 : g = s.gens := J.gens
      have h2 : d = s.drawn := J.drawn
      have h3 : os = s.os := J.os
      subst h1 h2 h3
      rfl
    rw [e]
    exact h v s'.heap s'.toks hP' (old J)
end
/-- the first of the least -/
def FirstLeast (kf : Nat → Int) (n j : Nat) : Prop := j < n ∧ (∀ i, i < n → kf j ≤ kf i) ∧ ∀ i, i < j → kf j < kf i
theorem best_is (kf : Nat → Int) : ∀ n, FirstLeast kf (n + 1) (argBest (fun i j => decide (kf i < kf j)) n)
  | 0 => ⟨Nat.zero_lt_one, fun i h => by rw [Nat.lt_one_iff.mp h]; exact Int.le_refl _, fun i h => nomatch h⟩
  | n + 1 => by
    obtain ⟨a, b, c⟩ := best_is kf n
    show FirstLeast kf (n + 2) (if decide (kf (n + 1) < kf (argBest (fun i j => decide (kf i < kf j)) n)) = true then n + 1 else argBest (fun i j => decide (kf i < kf j)) n)
    by_cases h : kf (n + 1) < kf (argBest (fun i j => decide (kf i < kf j)) n)
    · rw [if_pos (decide_eq_true h)]
      refine ⟨by omega, fun i hi => ?_, fun i hi => ?_⟩
      · by_cases e : i = n + 1
        · rw [e]
          exact Int.le_refl _
        · have := b i (by omega)
          omega
      · have := b i (by omega)
        omega
    · rw [if_neg (fun z => h (of_decide_eq_true z))]
      refine ⟨by omega, fun i hi => ?_, c⟩
      by_cases e : i = n + 1
      · rw [e]
        omega
      · exact b i (by omega)
theorem first_one {kf : Nat → Int} {n i j : Nat} (a : FirstLeast kf n i) (b : FirstLeast kf n j) : i = j := by
  rcases Nat.lt_trichotomy i j with h | h | h
  · have h1 := b.2.2 i h
    have h2 := a.2.1 j b.1
    omega
  · exact h
  · have h1 := a.2.2 j h
    have h2 := b.2.1 i a.1
    omega
/-- the item of ns whose key in ks is the least, the first such one -/
def LeastAt (ks ns : List Int) (m : Int) : Prop := ∃ j, FirstLeast (fun i => ks.getD (ns.getD i 0).toNat 0) ns.length j ∧ m = ns.getD j 0
theorem _root_.LamX.ExtN.rd {H H' : Hp} (e : ExtN H H') {a : Addr} {u : HO} (n : ∀ ps, u ≠ .tbl ps) (h : Rd H a u) : Rd H' a u := by
  rcases h with h | ⟨o, h⟩
  · exact .inl (e _ _ h n)
  · exact .inr ⟨o, e _ _ h fun ps z => nomatch z⟩
theorem _root_.LamX.ExtN.sqL {K : PySem.W.Frag} {H H' : Hp} (e : ExtN H H') {a : Addr} {xs : List V} (h : SqL K H a xs) : SqL K H' a xs := h.elim (fun h => .inl (e.rd (fun ps z => nomatch z) h)) .inr
theorem _root_.LamX.ExtN.sqT {K : PySem.W.Frag} {H H' : Hp} (e : ExtN H H') {a : Addr} {xs : List V} (h : SqT K H a xs) : SqT K H' a xs := h.elim (fun h => .inl (e.rd (fun ps z => nomatch z) h)) .inr
section
variable {X : Cx}
def tMinLam (K : PySem.W.Frag) (T : List (Addr × Str)) (j : Nat) (te : TE) : TE := fun σ H Q => te σ H fun v H1 => ∃ (a l : Addr) (ns ks : List Int), v = .ref a ∧ SqT K H1 a (ns.map V.int) ∧ σ[j]? = some (some (.ref l)) ∧ SqL K H1 l (ks.map V.int) ∧ 0 < ns.length ∧ (∀ n ∈ ns, 0 ≤ n ∧ n < ks.length) ∧
  Tabs T H1 ∧ ∀ (m : Int) (H2 : Hp), ExtN H1 H2 → Tabs T H2 → LeastAt ks ns m → Q (.int m) H2
/-- min(e, key=lambda x: y[x]), y a name of the def that it shares with the lambda -/
theorem pe_minlam {T : List (Addr × Str)} {c P : Addr} {p p1 p2 p3 lpos kpos pos : Pos} {e : Expr} {te : TE} {x y : Str} {j : Nat} {params : Arguments} {scope : Scope}
    (hg : Gl X "min") (hm : X.mg "min" = none) (he : PE X e te) (hd : X.A.depth < recursionLimit) (hh : X.A.handled = none) (TB : TabB X.base X.mg c P) (hcode : X.env.code = .ref c) (hmT : (P, X.env.qual ++ "<lambda>") ∈ T)
    (hu : ∀ q ∈ T, q.1 = P → q.2 = X.env.qual ++ "<lambda>") (S : LSc scope x y) (hfy : X.env.scope.names.lookup y = some .cell) (hfr : ∀ z ∈ scope.names, z.2 = .free → z.1 = y) (hN : X.N[j]? = some y) (hdef : defaultsOf params X.env = ([], []))
    (hbind : ∀ (q : Str) (cl : List (Str × Addr)) (pm cv ctv v : Value), bindArgs (PySem.W.kla_fn "<lambda>" q params (.Subscript (.Name y p1) (.Name x p2) p3) scope cl pm cv ctv) ⟨[v], []⟩ = pure [(x, v)])
    (hs : starEach [e] X.env = (false, eval e X.env) :: starEach [] X.env := by rfl)
    (hdx : (x == ("__debug__" : Str)) = false := by decide) (hdy : (y == ("__debug__" : Str)) = false := by decide) (hcy : (y == ("__classdict__" : Str)) = false := by decide) :
    PE X (.Call (.Name "min" p) [e] [⟨some "key", .Lambda params (.Subscript (.Name y p1) (.Name x p2) p3) scope lpos, kpos⟩] pos) (tMinLam X.K T j te) := by
  refine ⟨fun pins s σ H Q I h => ?_⟩
  have hfree : ∀ z ∈ scope.names, z.2 = .free → ∃ c, X.env.cells.lookup z.1 = some c := fun z hz e => I.ok.has _ (.inl (by rw [hfr z hz e]; exact hfy))
  refine wpAny_Call_Name_kw (ld_blt I hg hm (u := .builtin "min") (by decide +kernel) ?_)
  refine PyProof.Rows.callWith_kw ?_ (by rw [hs]; rfl) (by rw [hs]; rfl) (by rfl) (by rfl)
  rw [hs]
  show wpAny _ _ (spliced ((false, eval e X.env) :: backTo pos (starEach [] X.env))) _ _ s
  refine Calls.spliced_cons (thn (he.run pins s σ H _ I h) fun u s1 ⟨v, H1, I1, r1, a, l, ns, ks, ev, ht, hσ, hl, hne, hin, hT, q⟩ => Calls.spliced_nil ?_)
  subst ev
  obtain rfl : u = Value.ref a := r1
  show wpAny _ _ (evalAll ((do let v ← eval (.Lambda params (.Subscript (.Name y p1) (.Name x p2) p3) scope lpos) X.env; standAt pos; pure v) :: [])) _ _ s1
  refine wpAny_evalAll_cons (wpAny_bind (lam_make2 I1 TB hcode hmT hu hT hdef hfree fun f c' pm ctv H2 s2 I2 eN T2 hf hfn hff hco => wpAny_bind (wpAny_standAt (wpAny_pure (wpAny_evalAll_nil ?_)))))
  show wpAny _ _ (call (.builtin "min") [.ref a] [(Str.ofString "key", .ref f)]) _ _ s2
  obtain ⟨cs, rc, tc, _⟩ := I2.tuple (eN.sqT ht)
  obtain ⟨us, ru, pl, hz2⟩ := I2.list (eN.sqL hl)
  obtain ⟨m, _, look⟩ := I2.loc
  obtain ⟨u0, r0, lk⟩ := look j y _ hN hσ (.inr (.inl hfy))
  obtain rfl : u0 = Value.ref l := r0
  have cellAt : ∃ ck, X.env.cells.lookup y = some ck ∧ s2.heap.IsCell ck (some (.ref l)) := by
    rcases lk with ⟨k, _⟩ | ⟨_, ck, e1, e2⟩
    · rw [show X.env.kindOf y = some .cell from hfy] at k
      cases k
    · exact ⟨ck, e1, e2⟩
  obtain ⟨ck, eck, hcell⟩ := cellAt
  obtain ⟨⟨oc, vs, tk, o1, o2, o3⟩, _, _⟩ := I2.hok c' _ hco
  have lc : cs.length = ns.length := by rw [← rc.length, List.length_map]
  have lu : us.length = ks.length := by rw [← ru.length, List.length_map]
  have nsAt : ∀ i, i < ns.length → ∃ t, cs[i]? = some (.int (ns.getD i 0) t) := fun i hi => by
    obtain ⟨z, ez, rz⟩ := rc.get (i := i) (x := V.int (ns.getD i 0)) (by rw [List.getElem?_map, List.getD_eq_getElem?_getD, List.getElem?_eq_getElem hi]; rfl)
    obtain ⟨t, rfl⟩ := rz
    exact ⟨t, ez⟩
  refine min_lam (ns := fun i => ns.getD i 0) (kf := fun i => ks.getD (ns.getD i 0).toNat 0) hh S hd ⟨hf, ⟨oc, vs, tk, o1, o2, o3⟩, I2.nolimit, NdefX.clo_has hfree (PySem.mem_of_lookup S.fy) eck, hcell, pl.isList⟩ (fun v => hbind _ _ _ _ _ v) hdx hdy hcy tc (fun i hi => nsAt i (by omega)) (by omega)
    (fun i hi => ?_) fun v h' tk2 hv kp => ?_
  · have hi' : i < ns.length := by omega
    have hmem : ns.getD i 0 ∈ ns := by rw [List.getD_eq_getElem?_getD, List.getElem?_eq_getElem hi']; exact List.getElem_mem hi'
    obtain ⟨b0, b1⟩ := hin _ hmem
    have hs63 := line63
    rw [List.length_map] at hz2
    have hk' : (ns.getD i 0).toNat < ks.length := by omega
    obtain ⟨z, ez, rz⟩ := ru.get (i := (ns.getD i 0).toNat) (x := V.int (ks.getD (ns.getD i 0).toNat 0)) (by rw [List.getElem?_map, List.getD_eq_getElem?_getD (l := ks), List.getElem?_eq_getElem hk']; rfl)
    obtain ⟨t, rfl⟩ := rz
    exact ⟨b0, by omega, t, ez⟩
  · obtain ⟨n, en⟩ : ∃ n, ns.length = n + 1 := ⟨ns.length - 1, by omega⟩
    have fl := best_is (fun i => ks.getD (ns.getD i 0).toNat 0) n
    rw [← en] at fl
    rw [lc, show ns.length - 1 = n by omega] at hv
    obtain ⟨t, et⟩ := nsAt _ fl.1
    rw [et] at hv
    cases hv
    exact ⟨.int _, H2, I2.kept kp, ⟨t, rfl⟩, q _ H2 eN T2 ⟨_, fl, rfl⟩⟩
end
end Cl

set_option Elab.async false
set_option linter.all false
set_option maxRecDepth 100000
set_option maxHeartbeats 2000000
/-! own rule: list(o), o an instance with an __iter__ over its tuple and a __len__ -/
namespace Tw
open PySem PySem.Spec PyProof.Rows L2
def rListO (K : PySem.W.Frag) (C : Addr) (fld : Str) (sp : Sp) (E : XK) : List V → Hp → VK → Prop := fun xs H Q => ∃ (a dx : Addr) (fs : List (Str × V)) (t : Addr) (zs : List V), xs = [.ref a] ∧ H a = some (.ins C dx fs) ∧ fs.lookup fld = some (.ref t) ∧ SqT K H t zs ∧ zs.length ≤ 900 ∧
  sp [.ref a] H (fun v H' => ∃ n : Nat, v = .int n ∧ n < 1000 ∧ H' = H) E ∧ ∀ q, H q = none → Q (.ref q) (upd H q (.lst zs))
theorem ty_ne {a b : String} (h : Value.type a = Value.type b) (n : decide (a = b) = false) : False := by
  injection h with h
  exact of_decide_eq_false n h
theorem if_yes {α : Type} {M : Model} {A : Around} {E : Value → Shared → Prop} {s : Shared} {c : Bool} {a b : Sem α} {Q : α → Shared → Prop} (hc : c = true) (h : wpAny M A a Q E s) : wpAny M A (if c = true then a else b) Q E s := by
  rw [hc, if_pos rfl]
  exact h
section
variable {X : Cx} {k : Nat} {f : Addr} {fd : FuncData} {ps : List Str} {sp : Sp} {A1 : Around} {pins : List (Addr × Obj)} {σ : L2.St} {H : Hp} {s : Shared} {Q : VK}
/-- a def that raises nothing, called within a built-in -/
theorem run_sub0 {us : List Value} {vs : List V} {R : Value → Shared → Prop} (F : FnOk X.prog X.w X.K X.mg X.base CX0 k f fd ps sp) (sb : Sub X k A1) (hb : L2.Binds X.K fd ps []) (I : Inv X pins σ H s) (r : Vals vs us) (h : sp vs H Q E0) :
    wpAny (model X.prog X.w) A1 (call (.ref f) us) (EP X pins σ Q) R s := by
  have hl : us.length = ps.length := by rw [← r.length]; exact F.len _ _ _ _ h
  have hb1 : BindsTo s fd ⟨us, []⟩ (ps.zip us) := by
    have z := hb s us I.kIn (by rw [List.append_nil]; exact hl)
    rw [List.append_nil] at z
    exact z
  refine wpAny_call (codeAny_mono (F.run A1 X.stack s H ⟨us, []⟩ us vs Q E0 sb.room (Sub.env0 sb I) hb1 r h) fun z s' hq => ?_)
  match z, hq with
  | .error e, hq => exact False.elim hq
  | .ok (.ret u), hq => exact I.after hq
  | .ok .next, hq => exact False.elim hq
  | .ok .brk, hq => exact False.elim hq
  | .ok .cont, hq => exact False.elim hq
end
section
variable {X : Cx} {kI k : Nat} {fi fl C : Addr} {fdI fdL : FuncData} {psL : List Str} {spL : Sp} {fld : Str}
theorem call_listO (hdI : Dn X.K C "__iter__" fi) (FI : FnIt X.prog X.w X.K X.mg X.base k fi fdI ["self"] (spIter X.K C fld)) (bI : L2.Binds X.K fdI ["self"] [])
    (hdL : Dn X.K C "__len__" fl) (FL : FnOk X.prog X.w X.K X.mg X.base CX0 k fl fdL psL spL) (bL : L2.Binds X.K fdL psL []) (hr : Room (k + 3) X.A) : CallR X (.type "list") (rListO X.K C fld spL E0) := by
  intro pins s σ H xs us Q I rv h
  obtain ⟨a, dx, fs, t, zs, rfl, ha, hf, ht, hz, hlen, q⟩ := h
  obtain ⟨u, rfl, ru⟩ := rv.one
  cases ru
  have sb1 : Sub X (k + 1) X.A.in1.in1 := Sub.in1 (Sub.in1 (⟨hr, rfl⟩ : Sub X (k + 3) X.A))
  have sb : Sub X k X.A.in1.in1 := sb1.mono (Nat.le_succ k)
  refine callType_codes (Q₁ := fun obj s₁ => obj = .ref s.heap.objs.size ∧ s₁ = { s with heap := s.heap.push { cls := .type "list", data := .seq #[] } }) PySem.F.called_list (PySem.F.typeCall_list_1 _) PySem.F.entry_list_init
    (code_list_new _ ⟨rfl, rfl⟩) fun obj s₁ h₁ => ?_
  obtain ⟨rfl, rfl⟩ := h₁
  have hS : (s.heap.push { cls := .type "list", data := .seq #[] }).get? s.heap.objs.size = some { cls := .type "list", data := .seq #[] } := Heap.get?_push_size _ rfl
  refine ⟨⟨_, hS, rfl⟩, PySem.F.args_list_init_2 _ _, ?_⟩
  have nS : H s.heap.objs.size = none := I.hok.fresh (Nat.le_refl _)
  have fS : FpOk X pins H s.heap.objs.size := I.fpOk (Nat.le_refl _) nS
  have I1 : Inv X pins σ H { s with heap := s.heap.push { cls := .type "list", data := .seq #[] } } := I.kept (t' := s.toks) fun b u e => Heap.get?_push_of_some _ e
  show wpAny _ _ (do let old ← Builtin.List.listItems (.ref s.heap.objs.size); Builtin.List.listUpdate (.ref s.heap.objs.size) (fun _ => #[]); letGo old.toList.reverse; Builtin.List.listExtendWith (.ref s.heap.objs.size) (.ref a) .none) _ _ _
  refine wpAny_bind ?_
  unfold Builtin.List.listItems
  refine wpAny_bind (wpAny_seqItems hS rfl (wpAny_pure ?_))
  show wpAny _ _ (updateSeq s.heap.objs.size (fun _ => #[]) >>= fun _ => letGo (#[] : Array Value).toList.reverse >>= fun _ => Builtin.List.listExtendWith (.ref s.heap.objs.size) (.ref a) .none) _ _ _
  refine wpAny_bind (wpAny_updateSeq hS rfl ?_)
  have hS2 := Heap.get?_update_self (h := s.heap.push { cls := .type "list", data := .seq #[] }) (f := Obj.mapSeq fun _ => #[]) hS rfl
  have I2 := I1.turnedL (h' := (s.heap.push { cls := .type "list", data := .seq #[] }).update s.heap.objs.size (Obj.mapSeq fun _ => #[])) (t' := s.toks) (ch := [s.heap.objs.size]) (fun b o hb e => (Heap.get?_update_other _ _ (fun z => hb (by simp [z]))).trans e) (fun b hb => by rw [List.mem_singleton.mp hb]; exact fS)
  refine wpAny_bind (wpAny_letGo ?_)
  generalize hSa : s.heap.objs.size = S at *
  generalize hh2 : (s.heap.push { cls := .type "list", data := .seq #[] }).update S (Obj.mapSeq fun _ => #[]) = h2 at *
  have szS : S < h2.objs.size := Heap.lt_size hS2
  obtain ⟨mA, O, rr, _, _, _⟩ := ins_get I2.hok ha
  obtain ⟨od, J, hl⟩ := O.look
  obtain ⟨m0, hF⟩ := I2.fr
  have hne : S ≠ a := fun z => by rw [← z] at ha; rw [nS] at ha; cases ha
  have h1 : Builtin.List.listSameRef (.ref S) (.ref a) = false := by simp [Builtin.List.listSameRef, hne]
  unfold Builtin.List.listExtendWith
  refine wpAny_bind (J.type.here ?_)
  have n2 : (Value.ref C == Value.type "list") = false := rfl
  have n3 : (Value.ref C == Value.type "tuple") = false := rfl
  simp only [h1, n2, n3, Bool.or_false, Bool.false_eq_true, if_false]
  have I2p := I2.pinned (fp := [S]) (fun b hb => by rw [List.mem_singleton.mp hb]; exact fS) (fun b hb => by rw [List.mem_singleton.mp hb]; exact ⟨_, hS2, fun v z => nomatch z⟩)
  refine wpAny_bind (PySem.W.owit_iter hF I2.ok.mod.kin J hdI.at_ hdI.fn (thn (run_iter FI sb bI I2p ha hf ht) fun r s3 ⟨it, er, hn, h0, I3⟩ => ?_))
  subst er
  have e2 : upd H it (ItT t it 0) it = some (ItT t it 0) := upd_same
  have g : s3.heap.get? it = some (itTup t 0) := (I3.hok it _ e2).1
  have hS3 := (I3.pin (S, _) (List.mem_append_right _ (List.mem_append_right _ (mem_pinsAt (List.mem_singleton.mpr rfl) hS2)))).1
  have hTy : s3.TypeIs (.ref it) "tuple_iterator" := ⟨_, g, rfl⟩
  have fIt := ItX.inv_fp I3 e2 (Nat.le_trans I2.sz hn)
  have I4 := ItX.inv_drop I3 e2
  rw [ItX.dropH_upd h0] at I4 fIt
  unfold PySem.W.OwitIt
  refine wpAny_specialOf (name := Str.ofString "__next__") hTy PySem.F.slot_tuple_iterator_next.lookup ?_
  have I5 := I4.pinned (fp := [it]) (fun b hb => by rw [List.mem_singleton.mp hb]; exact fIt) (fun b hb => by rw [List.mem_singleton.mp hb]; exact ⟨_, g, fun v z => nomatch z⟩)
  show wpAny _ X.A.in1.in1 (holding [.ref it] (Builtin.List.listLengthHint (.ref a)) >>= _) _ _ s3
  obtain ⟨mA5, O5, rr5, _, _, _⟩ := ins_get I5.hok ha
  obtain ⟨od5, J5, hl5⟩ := O5.look
  obtain ⟨m5, hF5⟩ := I5.fr
  refine wpAny_bind (wpAny_holding ?_)
  have lenOk : ∀ {R : Value → Shared → Prop}, wpAny (model X.prog X.w) X.A.in1.in1 (call (.builtin "len") [.ref a]) (fun r s' => ∃ (n : Nat) (tk : Tok), r = .int n tk ∧ n < 1000 ∧ Inv X (pins ++ pinsAt [S] h2 ++ pinsAt [it] s3.heap) σ H s') R s3 := by
    intro R
    refine PySem.W.len_K hF5 I5.ok.mod.kin J5 hdL.at_ hdL.fn (thn (run_sub0 FL (Sub.in1 (Sub.mono sb1 (Nat.le_refl _))) bL I5 (.cons (relR a) .nil) hlen) fun r s' ⟨z, H', I', rz, n, ez, hn, eH⟩ => ?_)
    subst ez
    rw [eH] at I'
    obtain ⟨tk, rfl⟩ := rz
    exact ⟨⟨by omega, by omega⟩, n, _, rfl, hn, I'.tok _⟩
  unfold Builtin.List.listLengthHint
  refine wpAny_bind (wpAny_bind (J5.type.here ((PySem.W.looks_findIn I5.kIn hdL.at_).here ?_)))
  refine PySem.W.KFB.if_not rfl ?_
  refine if_yes rfl ?_
  refine wpAny_bind (wpAny_rule ?_)
  refine wpAny_bind (wpAny_attempt (thn lenOk fun r s6 ⟨n, tk, er, hn6, I6⟩ => ?_))
  subst er
  refine wpAny_bind (wpAny_of_eq (a := some ((n : Nat) : Int)) (by rfl) ?_)
  refine PySem.W.KFB.if_not (by unfold Builtin.List.listTooLong; exact decide_eq_false (by rw [sizeLine_eq, Int.toNat_natCast]; omega)) ?_
  refine wpAny_pure ?_
  -- the loop
  have I7 : Inv X pins σ H s6 := I6.unpinned.unpinned
  have hS6 := (I6.pin (S, _) (List.mem_append_right _ (List.mem_append_left _ (List.mem_append_right _ (mem_pinsAt (List.mem_singleton.mpr rfl) hS2))))).1
  have g6 := (I6.pin (it, _) (List.mem_append_right _ (List.mem_append_right _ (mem_pinsAt (List.mem_singleton.mpr rfl) g)))).1
  have fIt2 : FpOk X pins H it := ⟨fIt.1, fIt.2.1, fIt.2.2.1, fIt.2.2.2.1, fIt.2.2.2.2.1, fun p hp => fIt.2.2.2.2.2 p ((List.mem_append.mp hp).elim (fun z => List.mem_append_left _ z) fun z => List.mem_append_right _ (List.mem_append_left _ z))⟩
  have Sne' : S ≠ it := fun z => by
    rw [z, g6] at hS6
    exact ty_ne (show Value.type "tuple_iterator" = Value.type "list" from congrArg Obj.cls (Option.some.inj hS6)) (by decide +kernel)
  have loop : ∀ (s7 : Shared) (c : Nat), Inv X pins σ H s7 → s7.heap.get? S = some { cls := .type "list", data := .seq #[] c } → s7.heap.get? it = some (itTup t 0) →
      codeAny (model X.prog X.w) X.A.in1 (.builtin "list.extend.loop" ⟨[.ref S, .ref it, .none], []⟩) (wants (fun r s₂ => r = .none ∧ EP X pins σ Q (.ref S) s₂) X.xe) s7 := by
    intro s7 c J7 hS7 g7
    obtain ⟨its, rz, pl, hz2⟩ := J7.tuple ht
    have tne : t ≠ it := fun z => by
      obtain ⟨o, e1, e2, _⟩ := pl
      rw [z, g7] at e1
      rw [← Option.some.inj e1] at e2
      exact ty_ne (show Value.type "tuple_iterator" = Value.type "tuple" from e2) (by decide +kernel)
    have Sne : S ≠ it := fun z => by
      rw [z, g7] at hS7
      exact ty_ne (show Value.type "tuple_iterator" = Value.type "list" from congrArg Obj.cls (Option.some.inj hS7)) (by decide +kernel)
    have St : S ≠ t := fun z => by
      obtain ⟨o, e1, e2, _⟩ := pl
      rw [← z, hS7] at e1
      rw [← Option.some.inj e1] at e2
      exact ty_ne (show Value.type "list" = Value.type "tuple" from e2) (by decide +kernel)
    have li : its.length = zs.length := rz.length.symm
    have W := (PySem.Walks.tuple (prog := X.prog) (w := X.w) (A := X.A.in1.in1) sb1.room.hd it t tne its.toArray).toS
    refine PySem.codeAny_extend_loopS (A := X.A.in1) W (by rw [List.size_toArray, sizeLine_eq]; omega) S (fun z => ?_) .none _ 0 s7 #[] c rfl (Nat.zero_le _) ⟨⟨_, g7, rfl, rfl⟩, pl⟩ hS7 (PySem.ItemsOf.nil _) fun s8 acc c8 m hS8 hit => ?_
    · rcases List.mem_cons.mp z with z | z
      · exact Sne z
      · exact St (List.mem_singleton.mp z)
    have eacc : acc = its.toArray := by
      refine Array.ext_getElem? fun j => ?_
      by_cases hj : j < acc.size
      · rw [Array.getElem?_eq_getElem hj]
        exact (hit.2 j _ (Array.getElem?_eq_getElem hj)).symm
      · rw [Array.getElem?_eq_none (by omega), Array.getElem?_eq_none (by rw [← hit.1]; omega)]
    subst eacc
    have J8 := J7.turnedL (h' := s8.heap) (t' := s8.toks) (ch := [S, it]) (fun b o hb e => m.heap b o hb e) (fun b hb => by
      rcases List.mem_cons.mp hb with z | z
      · rw [z]; exact fS
      · rw [List.mem_singleton.mp z]; exact fIt2)
    have J9 := J8.take (h' := s8.heap) (t' := s8.toks) (it := S) (o := .lst zs) (fun _ _ _ e => e) fS ⟨by rw [sizeLine_eq]; omega, its, c8, rz, hS8⟩
    have e8 : s8 = { s7 with heap := s8.heap, toks := s8.toks } := Moved.eq_with m
    rw [e8]
    exact ⟨rfl, .ref S, _, J9, rfl, q S nS⟩
  refine wpAny_ite_split (fun _ => ?_) (fun _ => wpAny_pure ⟨plainId_quiet PySem.F.plain_extend_loop _, loop s6 _ I7 hS6 g6⟩)
  refine wpAny_bind (wpAny_rule ?_)
  refine wpAny_bind ?_
  show wpAny _ _ (updateSeq S (·.push .none) >>= fun _ => updateSeq S (·.pop)) _ _ _
  refine wpAny_bind (wpAny_updateSeq hS6 rfl ?_)
  have e9 := Heap.get?_update_self (h := s6.heap) (f := Obj.mapSeq (·.push Value.none)) hS6 rfl
  refine wpAny_updateSeq e9 rfl ?_ (by show 1 ≤ sizeLine; rw [sizeLine_eq]; decide) (by show 0 ≤ sizeLine + 1; exact Nat.zero_le _)
  have e10 := Heap.get?_update_self (h := s6.heap.update S (Obj.mapSeq (·.push Value.none))) (f := Obj.mapSeq (·.pop)) e9 rfl
  have J := I7.turnedL (h' := (s6.heap.update S (Obj.mapSeq (·.push Value.none))).update S (Obj.mapSeq (·.pop))) (t' := s6.toks) (ch := [S]) (fun b o hb e => (Heap.get?_update_other _ _ (fun z => hb (by simp [z]))).trans ((Heap.get?_update_other _ _ (fun z => hb (by simp [z]))).trans e)) (fun b hb => by rw [List.mem_singleton.mp hb]; exact fS)
  refine wpAny_pure ⟨plainId_quiet PySem.F.plain_extend_loop _, loop _ _ J e10 ?_⟩
  exact (Heap.get?_update_other _ _ Sne').trans ((Heap.get?_update_other _ _ Sne').trans g6)
end
end Tw

set_option Elab.async false
set_option linter.all false
set_option maxRecDepth 100000
set_option maxHeartbeats 2000000
/-! own rule: sorted(t), t a tuple of whole numbers -/
namespace Tw
open PySem PySem.Spec PyProof.Rows L2
section
variable {prog : Program} {w : World} {A : Around} {E : Value → Shared → Prop} {s : Shared}
/-- a tuple's items, gathered: they are met as a list's are -/
theorem gather_tup {t : Addr} {vs : List Value} {Q : List Value → Shared → Prop} (ht : s.heap.IsTuple t vs.toArray)
    (h : Q vs { s with heap := (s.heap.push (seqObj "list" #[] 0)).update s.heap.objs.size (Obj.mapSeq (· ++ vs.toArray)) }) (hz : vs.length ≤ sizeLine) :
    wpAny (model prog w) A (collect (.ref t)) Q E s := by
  obtain ⟨o, ho, hc, n, hd⟩ := ht
  unfold collect
  refine wpAny_bind (wpAny_runValue (codeAny_builtin entry_proto_collect' ?_))
  show wpAny _ _ (do again (.builtin "list.__iadd__" ⟨[← newList [], .ref t], []⟩)) _ _ s
  refine wpAny_bind (wpAny_newList (wpAny_pure ⟨Code.quiet_builtin _ (by decide +kernel), codeAny_builtin entry_list_iadd' ?_⟩))
  show wpAny _ _ (Builtin.List.listExtendWith (.ref s.heap.objs.size) (.ref t) (.ref s.heap.objs.size)) _ _ { s with heap := s.heap.push (seqObj "list" #[] 0) }
  have ho2 : (s.heap.push (seqObj "list" #[] 0)).get? t = some o := Heap.get?_push_of_some _ ho
  unfold Builtin.List.listExtendWith
  refine wpAny_bind (wpAny_typeOf (T := "tuple") ⟨o, ho2, hc⟩ ?_)
  have tt : (Value.type "tuple" == Value.type "tuple") = true := by rfl
  rw [if_pos (by rw [tt]; simp)]
  refine wpAny_bind (listItems_at ho2 hd ?_)
  refine wpAny_bind (listItems_at (xs := #[]) (n := 0) (Heap.get?_push_size _ rfl) rfl ?_)
  rw [if_neg (by simp)]
  refine wpAny_bind (listUpdate_at (xs := #[]) (n := 0) (Heap.get?_push_size _ rfl) rfl ?_ (Nat.zero_le _) (by show (#[] ++ vs.toArray).size ≤ sizeLine + 1; simp only [Array.size_append, List.size_toArray, List.length_nil]; omega))
  refine wpAny_pure ?_
  refine wpAny_bind (wpAny_load (get?_update_seq (Heap.get?_push_size _ rfl) _) ?_)
  show wpAny _ _ (pure ((#[] : Array Value) ++ vs.toArray).toList) Q E _
  rw [show ((#[] : Array Value) ++ vs.toArray).toList = vs by simp]
  exact wpAny_pure h
end
def rSortedTu (K : PySem.W.Frag) : List V → Hp → VK → Prop := fun vs H Q => ∃ (a : Addr) (ns : List Int), vs = [V.ref a] ∧ SqT K H a (ns.map V.int) ∧
  ∀ (ns' : List Int) (p : Addr), ns'.Perm ns → ns'.Pairwise (· ≤ ·) → H p = none → Q (.ref p) (upd H p (.lst (ns'.map V.int)))
section
variable {X : Cx}
theorem cr_sortedTu : CallR X (.builtin "sorted") (rSortedTu X.K) := by
  intro pins s σ H vs us Q I r h
  obtain ⟨a, ns, rfl, hs, q⟩ := h
  obtain ⟨its, rv, hl, hz⟩ := I.tuple hs
  rw [Vals.ref1 r]
  have hi := rv.ints
  have hzi : its.length ≤ sizeLine := by rw [← rv.length]; exact hz
  refine Calls.call_function_entry kind_sorted plain_sorted entry_sorted (args_sorted1 _) ?_
  unfold Builtin.«sorted»
  refine wpAny_bind (m := checkCount "sorted" 1 1 _) (wpAny_pure ?_)
  refine wpAny_bind (gather_tup hl ?_ hzi)
  refine wpAny_bind (wpAny_newList ?_ hzi)
  have hsz : ((s.heap.push (seqObj "list" #[] 0)).update s.heap.objs.size (Obj.mapSeq (· ++ its.toArray))).objs.size = s.heap.objs.size + 1 := by
    rw [Heap.size_update, size_push']
  have hoL : (((s.heap.push (seqObj "list" #[] 0)).update s.heap.objs.size (Obj.mapSeq (· ++ its.toArray))).push (seqObj "list" its.toArray 0)).get? (s.heap.objs.size + 1) = some (seqObj "list" its.toArray 0) := by
    rw [← hsz]
    exact Heap.get?_push_size _ rfl
  show wpAny _ _ _ _ _ { s with heap := ((s.heap.push (seqObj "list" #[] 0)).update s.heap.objs.size (Obj.mapSeq (· ++ its.toArray))).push (seqObj "list" its.toArray 0) }
  rw [hsz]
  refine wpAny_bind (wpAny_holding (wpAny_call_entry slot_list_sort ⟨_, hoL, rfl⟩ entry_list_sort (SrtO.list_sort_ord SrtO.swo_int hoL hzi (fun h2 => SrtO.ints_sortable hi h2) fun out h1 h2 => ⟨_, rfl, ?_⟩) (args_list_sort _)))
  refine wpAny_pure ⟨_, rfl, ?_⟩
  obtain ⟨k1, k2, k3⟩ := SrtO.ints_out hi h1 h2
  obtain ⟨ep, he'⟩ := PyProof.Rows.sortedAll_at s.heap its out.toArray
  have hlen : ((out.map SrtO.iv).map V.int).length ≤ sizeLine := by
    rw [List.length_map, k2.length_eq]
    rw [List.length_map] at hz
    exact hz
  exact ⟨.ref _, upd H (s.heap.objs.size + 1) (.lst ((out.map SrtO.iv).map V.int)), I.laid (t' := s.toks) (fun _ _ => PyProof.Rows.sortedAll_old) (Nat.le_succ _) ⟨hlen, out, ep, vals_of_ints k1, he'⟩, rfl, q _ _ k2 k3 (I.hok.fresh (Nat.le_succ _))⟩
end
end Tw

set_option Elab.async false
set_option linter.all false
set_option maxRecDepth 100000
set_option maxHeartbeats 1000000
/-! != of two tuples of two things, equal ones in turn -/
namespace Cq
open PySem PySem.SeqAt
open AutoSeq1 (wpAny_loadPart')
open MeetsSeq MeetsSeq2 MeetsSeq3 SeqRoads2
theorem pairs_ne {prog : Program} {w : World} {A : Around} {R : Result → Shared → Prop} {p q : Addr} {a b c e : Value} {k k2 : Nat} {u u2 : Option Addr} {z z2 : Array (Option Value)} {s : Shared}
    (hp : s.heap.get? p = some { cls := .type "tuple", dict := u, data := .seq #[a, b] k, slots := z }) (hq : s.heap.get? q = some { cls := .type "tuple", dict := u2, data := .seq #[c, e] k2, slots := z2 })
    (h : wpAny (model prog w) A.in1 (eqBool a c) (fun r s1 => r = true ∧ wpAny (model prog w) A.in1 (eqBool b e) (fun r s2 => r = true ∧ R (.ok (.ret (.bool false))) s2) (fun x s2 => R (.error x) s2) s1) (fun x s1 => R (.error x) s1) s) :
    wpAny (model prog w) A.in1 (Builtin.«tuple.__ne__» ⟨[.ref p, .ref q], []⟩) (GQ.FinOf prog w A R) (fun x s1 => R (.error x) s1) s := by
  have sub2 := AutoSeq1.sub_tuple_tuple
  obtain ⟨hh, gg, dd, tk, os⟩ := s
  wp_walk using wpAny_loadPart' hp, wpAny_loadPart' hq, wpAny_forIn_list _ (fun rest t s1 => t.1 = none ∧ ((rest = [(a, c), (b, e)] ∧ wpAny (model prog w) A.in1 (eqBool a c) (fun r s1 => r = true ∧ wpAny (model prog w) A.in1 (eqBool b e) (fun r s2 => r = true ∧ R (.ok (.ret (.bool false))) s2) (fun x s2 => R (.error x) s2) s1) (fun x s1 => R (.error x) s1) s1) ∨
    (rest = [(b, e)] ∧ wpAny (model prog w) A.in1 (eqBool b e) (fun r s2 => r = true ∧ R (.ok (.ret (.bool false))) s2) (fun x s2 => R (.error x) s2) s1) ∨ (rest = [] ∧ R (.ok (.ret (.bool false))) s1))) _
  case turn =>
    rintro ⟨y, x⟩ rest t s1 ⟨ht, ⟨e1, h1⟩ | ⟨e1, h1⟩ | ⟨e1, _⟩⟩
    · injection e1 with e1 e2
      injection e1 with e3 e4
      subst e3 e4 e2
      refine wpAny_bind (wpAny_mono h1 (fun r s2 g => ?_) fun _ _ g => g)
      obtain ⟨rfl, g⟩ := g
      wp_walk
      exact ⟨rfl, .inr (.inl ⟨rfl, g⟩)⟩
    · injection e1 with e1 e2
      injection e1 with e3 e4
      subst e3 e4 e2
      refine wpAny_bind (wpAny_mono h1 (fun r s2 g => ?_) fun _ _ g => g)
      obtain ⟨rfl, g⟩ := g
      wp_walk
      exact ⟨rfl, .inr (.inr ⟨rfl, g⟩)⟩
    · cases e1
  case fin =>
    rintro ⟨t1, t2⟩ s1 ⟨ht, ⟨e1, _⟩ | ⟨e1, _⟩ | ⟨_, h1⟩⟩
    · cases e1
    · cases e1
    · simp only at ht
      subst ht
      wp_walk
      simpa [Builtin.Tuple.tupleCompareSizes] using h1
  case h => exact ⟨rfl, .inl ⟨rfl, h⟩⟩
end Cq
namespace L2
open PySem PySem.Spec PyProof.Rows
theorem vals_two {a b : V} {l : List Value} (r : Vals [a, b] l) : ∃ x y, l = [x, y] ∧ RelV a x ∧ RelV b y := by
  cases r with
  | cons ra r =>
    cases r with
    | cons rb r =>
      cases r
      exact ⟨_, _, rfl, ra, rb⟩
def DPair (K : PySem.W.Frag) (D1 D2 : Eqv) : Eqv := fun x y H => ∃ (p q : Addr) (a b c e : V), x = .ref p ∧ y = .ref q ∧ SqT K H p [a, b] ∧ SqT K H q [c, e] ∧ D1 a c H ∧ D2 b e H
def rNeP (D : Eqv) : R2 := fun x y H Q => D x y H ∧ ∀ H', Ext H H' → Q (.bl false) H'
theorem op_neP {X : Cx} {n : Nat} {D1 D2 : Eqv} (g1 : EqG X n D1) (g2 : EqG X n D2) (m2 : Mon D2) (hr : Room (n + 1) X.A) : OpR X (compareOp .NotEq) (rNeP (DPair X.K D1 D2)) := by
  intro pins s σ H x y v u Q I rx ry ⟨⟨p, q, a, b, c, e, ex, ey, hp, hq, d1, d2⟩, k⟩
  subst ex ey
  cases rx
  cases ry
  have sb : Sub X (n + 1) X.A := ⟨hr, rfl⟩
  obtain ⟨its, r, e1, _⟩ := I.tuple hp
  obtain ⟨its2, r2, e2, _⟩ := I.tuple hq
  obtain ⟨va, vb, ei, ra, rb⟩ := vals_two r
  obtain ⟨vc, ve, ei2, rc, re⟩ := vals_two r2
  subst ei ei2
  obtain ⟨⟨cl, u1, da, z1⟩, o1, c1, n1, w1⟩ := id e1
  obtain ⟨⟨cl2, u2, da2, z2⟩, o2, c2, n2, w2⟩ := id e2
  dsimp only at c1 w1 c2 w2
  subst c1 w1 c2 w2
  show wpAny (model X.prog X.w) X.A (richCompare .NotEq (.ref p) (.ref q)) (EP X pins σ Q) X.xe s
  refine wpAny_richCompare_same_room (op := .NotEq) ⟨_, o1, rfl⟩ ⟨_, o2, rfl⟩ F.slot_tuple_ne (GQ.call_here F.slot_tuple_ne ⟨_, o1, rfl⟩ F.entry_tuple_ne (F.args_tuple_ne_2 _ _) ?_) hr.units0
  refine Cq.pairs_ne (R := wants (fun v s' => v ≠ .notImplemented ∧ EP X pins σ Q v s') X.xe) o1 o2 ?_
  refine wpAny_mono (g1 X.A.in1 pins s σ H _ _ va vc sb.in1 I ra rc d1) (fun t s1 ⟨ht, H1, I1, x1⟩ => ⟨ht, ?_⟩) fun _ _ g => g
  refine wpAny_mono (g2 X.A.in1 pins s1 σ H1 _ _ vb ve sb.in1 I1 rb re (m2 _ _ _ _ x1 d2)) (fun t s2 ⟨ht, H2, I2, x2⟩ => ⟨ht, ?_⟩) fun _ _ g => g
  exact ⟨(fun g => nomatch g), .bl false, H2, I2, rfl, k H2 (x1.trans x2)⟩
end L2


set_option Elab.async false
set_option linter.all false
set_option maxRecDepth 100000
set_option maxHeartbeats 4000000
/-! set(xs), xs a list of ints, as a value -/
namespace L2
open PySem PySem.Spec PyProof.Rows
section
variable {P : Program} {w : World} {A : Around} {E : Value → Shared → Prop}
/-- the set that is there at first -/
abbrev eS (w : World) : Obj := { cls := .type "set", dict := none, data := .set #[] 0 (.fresh 0 0 (!w.params.followText "set-order")) }
theorem init_over {z : Shared} {D l : Addr} {items : Array Value} {ns : List Int} {R : Result → Shared → Prop} (hh : A.handled = none) (hD : z.heap.get? D = some (eS w)) (hl : z.heap.IsList l items) (hit : IntsAre items.toList ns) (hb : ns.length + 1 < scanBound) (hne : l ≠ D)
    (q : ∀ (h' : Heap) (tk c : Nat), SetR w h' D (fun j => decide (j ∈ ns)) c → c ≤ ns.length → (∀ b o, b ≠ D → z.heap.get? b = some o → h'.get? b = some o) → R (.ok (.ret .none)) { z with heap := h', toks := tk }) :
    codeAny (model P w) A (.call (.builtin "set.__init__") ⟨[.ref D, .ref l], []⟩) R z := by
  have hn : items.size = ns.length := by
    have e := IntsAre.length hit
    rw [Array.length_toList] at e
    exact e
  have hT : Shared.TypeIs z (.ref D) "set" := ⟨_, hD, rfl⟩
  have lD : D < z.heap.objs.size := Heap.lt_size hD
  obtain ⟨⟨oc, od, oa, os⟩, hol, hcl, nl, hdl⟩ := id hl
  have ll : l < z.heap.objs.size := Heap.lt_size hol
  dsimp only at hcl hdl
  subst hcl hdl
  have no1 := F.sub_list_set
  have no2 := F.sub_list_frozenset
  have no3 : (Value.type "list" == Value.type "dict") = false := by decide
  refine codeAny_call_builtin F.called_set.init.plain F.entry_set_init (check_set_init_1 hT ?_)
  unfold Builtin.«set.__init__» noKeywords Builtin.Frozenset.updateFrom
  generalize hPI : pyIter = PI
  wp_walk
  subst hPI
  refine wpAny_pyIter_list hl ?_
  refine wpAny_bind (wpAny_runValue ?_)
  have free3 : A.in1.in1.handled = none := by simp [hh]
  have apart : l ≠ z.heap.objs.size := Nat.ne_of_lt ll
  have offS : D ∉ [z.heap.objs.size, l] := fun m => by
    rcases List.mem_cons.mp m with y | y
    · exact absurd y (Nat.ne_of_lt lD)
    · exact hne (List.mem_singleton.mp y).symm
  have each : ∀ (i : Nat) (v : Value), items[i]? = some v → ∃ k t, ns[i]? = some k ∧ v = .int k t := fun i v e => by
    have hi : i < ns.length := hn ▸ (Array.getElem?_eq_some_iff.mp e).1
    obtain ⟨t, e2⟩ := IntsAre.int_at hit i v (by rw [Array.getElem?_toList]; exact e)
    exact ⟨ns[i], t, List.getElem?_eq_getElem hi, by rw [e2, List.getD_eq_getElem?_getD, List.getElem?_eq_getElem hi]; rfl⟩
  refine set_update_ints ((Walks.list free3 _ l apart items).toS) D offS ns hn hb each (items.size - 0) 0 _ (by omega) (Nat.zero_le _) ?_ ⟨0, Nat.le_refl 0, ?_⟩ ?_
  · exact ⟨⟨_, Heap.get?_push_size _ rfl, rfl, rfl⟩, hl.push _⟩
  · exact setR_new_at (Heap.get?_push_of_some _ hD)
  rintro ⟨h', gens', drawn', tk', os'⟩ c moved hc new
  obtain rfl : gens' = z.gens := moved.gens
  obtain rfl : drawn' = z.drawn := moved.drawn
  obtain rfl : os' = z.os := moved.os
  show wpAny _ _ _ _ _ _
  refine wpAny_pure ?_
  show wpAny _ _ (ret Value.none) _ _ _
  refine wpAny_pure (q h' tk' c new (by omega) fun b o hbD e => ?_)
  have lb : b < z.heap.objs.size := Heap.lt_size e
  refine moved.heap b o (fun m => ?_) (Heap.get?_push_of_some _ e)
  rcases List.mem_cons.mp m with y | y
  · exact hbD y
  · exact absurd (List.mem_singleton.mp y) (Nat.ne_of_lt lb)
theorem set_over {z : Shared} {l : Addr} {items : Array Value} {ns : List Int} {Q : Value → Shared → Prop} (hh : A.handled = none) (hl : z.heap.IsList l items) (hit : IntsAre items.toList ns) (hb : ns.length + 1 < scanBound)
    (q : ∀ (h' : Heap) (tk c : Nat), SetR w h' z.heap.objs.size (fun j => decide (j ∈ ns)) c → c ≤ ns.length → (∀ b o, z.heap.get? b = some o → h'.get? b = some o) → Q (.ref z.heap.objs.size) { z with heap := h', toks := tk }) :
    wpAny (model P w) A (call (.type "set") [.ref l]) Q E z := by
  obtain ⟨c0, t0, mro0⟩ := F.called_set.mro
  have m1 := F.called_set.made
  have m2 := F.called_set.sub
  have m3 := F.called_set.notType
  have m4 := F.called_set.canCreate
  have m5 := F.typeCall_set_1 (.ref l)
  have ll : l < z.heap.objs.size := by
    obtain ⟨o, ho, _⟩ := id hl
    exact Heap.lt_size ho
  refine wpAny_call (codeAny_of_tree ?_)
  show wpAny _ _ (callAny (.type "set") _) _ _ _
  refine wpAny_pure ⟨Code.quiet_builtin _ (by decide +kernel), codeAny_builtin F.entry_type_call ?_⟩
  rw [Around.under_plain (weight_type_call_type "set" [.ref l] []) rfl]
  repeat any_goals first | assumption | wp_step
  have new1 : (z.heap.push (eS w)).get? z.heap.objs.size = some (eS w) := Heap.get?_push_size _ rfl
  refine codeAny_mono (code_set_led1 (.ref l) (E := E) (Q₁ := fun v y => v = .ref z.heap.objs.size ∧ y = { z with heap := z.heap.push (eS w) }) ⟨rfl, rfl⟩) fun r y hr => ?_
  cases r with
  | error e => exact hr
  | ok fl =>
    cases fl with
    | ret v =>
      obtain ⟨rfl, rfl⟩ := hr
      have hT : Shared.TypeIs { z with heap := z.heap.push (eS w) } (.ref z.heap.objs.size) "set" := ⟨_, new1, rfl⟩
      have i1 := F.called_set.init.lookup
      have i2 := F.called_set.init.bind (.ref z.heap.objs.size)
      repeat any_goals first | assumption | wp_step
      refine init_over (A := A.in1) (z := { z with heap := z.heap.push (eS w) }) (D := z.heap.objs.size) (by simp [hh]) new1 (hl.push _) hit hb (Nat.ne_of_lt ll) fun h' tk c S hc k => ?_
      show wpAny _ _ (pure (some Value.none)) _ _ _
      repeat any_goals first | assumption | wp_step
      exact q h' tk c S hc fun b o e => k b o (Nat.ne_of_lt (Heap.lt_size e)) (Heap.get?_push_of_some _ e)
    | _ => exact hr.elim
end
section
variable {X : Cx}
/-- set(xs) -/
def rSetLI (K : PySem.W.Frag) (w : World) : List V → Hp → VK → Prop := fun xs H Q => ∃ (l : Addr) (ns : List Int), xs = [V.ref l] ∧ SqL K H l (ns.map V.int) ∧ ns.length ≤ 1000 ∧ ∀ p n, n ≤ ns.length → H p = none → Q (.ref p) (upd H p (SetO w p (fun j => decide (j ∈ ns)) n))
theorem cr_setLI (hc : X.calm = true) : CallR X (.type "set") (rSetLI X.K X.w) := by
  intro pins s σ H xs us Q I r h
  obtain ⟨l, ns, rfl, hl, h1, q⟩ := h
  obtain ⟨its, rv, pl, _⟩ := I.list hl
  rw [Vals.ref1 r]
  refine set_over (I.ok.hd hc) pl.isList (ns := ns) (by simpa using rv.ints) (by unfold scanBound; omega) fun h' tk c R hc k => ?_
  exact ⟨.ref _, upd H s.heap.objs.size (SetO X.w s.heap.objs.size (fun j => decide (j ∈ ns)) c), I.laid (t' := tk) k (Nat.le_refl _) (setO_new R), rfl, q _ c hc (I.hok.fresh (Nat.le_refl _))⟩
end
end L2

set_option Elab.async false
set_option linter.all false
set_option maxRecDepth 100000
set_option maxHeartbeats 4000000
/-! sorted(xs), xs a list of tuples of ints, as long as a list may be -/
namespace L2
open PySem PySem.Spec PyProof.Rows PySem.W
abbrev tupE (ns : List Int) : PyData := .tuple (ns.map .int)
theorem tupE_le : dataLe false tupE = fun p q => decide (p ≤ q) := by
  funext p q
  show (!dataLt (.tuple (q.map .int)) (.tuple (p.map .int))) = _
  rw [dataLt_tuple]
  show (!rowLt (q.map .int) (p.map .int)) = _
  rw [dataLt_ints]
  by_cases h : q < p
  · have h' : ¬ p ≤ q := fun r => List.not_lt.mpr r h
    simp [h, h']
  · have h' : p ≤ q := List.not_lt.mp h
    simp [h, h']
section
variable {X : Cx} {pins : List (Addr × Obj)} {σ : St} {H : Hp} {s : Shared}
abbrev TupV (K : PySem.W.Frag) (H : Hp) (u : Value) (ns : List Int) : Prop := ∃ t, u = .ref t ∧ SqT K H t (ns.map V.int)
theorem tupV_of : ∀ {xs : List V} {bs : List (List Int)} {us : List Value}, Paired (TupI X.K H) xs bs → Vals xs us → EachIs (TupV X.K H) us bs
  | _, _, _, .nil, .nil => .nil
  | _, _, _, .cons ⟨t, e, h⟩ p, .cons r v => by
    subst e
    cases r
    exact .cons ⟨t, rfl, h⟩ (tupV_of p v)
theorem tupV_to : ∀ {bs : List (List Int)} {us : List Value}, EachIs (TupV X.K H) us bs → Paired (TupI X.K H) (us.map bkV) bs ∧ ∀ u ∈ us, ∃ a, u = Value.ref a
  | _, _, .nil => ⟨.nil, fun u hu => absurd hu (by simp)⟩
  | _, _, .cons ⟨t, e, h⟩ p => by
    subst e
    obtain ⟨h1, h2⟩ := tupV_to p
    refine ⟨.cons ⟨t, rfl, h⟩ h1, fun u hu => ?_⟩
    rcases List.mem_cons.mp hu with e | hu
    · exact ⟨t, e⟩
    · exact h2 u hu
theorem tupV_reads (I : Inv X pins σ H s) {u : Value} {ns : List Int} (h : TupV X.K H u ns) : ∃ as, Reads s.heap u (tupE ns) as := by
  obtain ⟨t, rfl, ht⟩ := h
  obtain ⟨its, rv, hT, _⟩ := I.tuple ht
  exact ⟨_, reads_tuple_ints hT (by simpa using rv.ints)⟩
/-- sorted(xs): the items ascending as tuples are -/
def rSortTA (K : PySem.W.Frag) : List V → Hp → VK → Prop := fun vs H Q => ∃ (a : Addr) (xs : List V) (bs : List (List Int)), vs = [V.ref a] ∧ SqL K H a xs ∧ Paired (TupI K H) xs bs ∧ (∀ b ∈ bs, b ≠ []) ∧
  ∀ (ys : List V) (p : Addr), Paired (TupI K H) ys (bs.mergeSort fun p q => decide (p ≤ q)) → H p = none → Q (.ref p) (upd H p (.lst ys))
theorem cr_sortTA (hu : X.A.units + 65 < cLine) : CallR X (.builtin "sorted") (rSortTA X.K) := by
  intro pins s σ H vs us Q I r h
  obtain ⟨a, xs, bs, rfl, hs, hp, hne, q⟩ := h
  obtain ⟨its, rv, hl, hz⟩ := I.list hs
  rw [Vals.ref1 r]
  have e0 : EachIs (TupV X.K H) its bs := tupV_of hp rv
  have hlen : bs.length = xs.length := (Paired.length hp).symm
  refine sorted_data (A := X.A) (R := TupV X.K H) (enc := tupE) hl.isList e0 (e0.mono fun u ns h => tupV_reads I h) (AllAlike.of fun b b' => by simp [alike, alike_ints]) (.inl fun d hd => ?_) (by rw [hlen]; exact hz) (fun b _ => ?_) fun out ho eo => ?_
  · obtain ⟨b, hb, rfl⟩ := List.mem_map.mp hd
    match b, hne b hb with
    | x :: r, _ => exact ⟨_, _, rfl⟩
  · have : (tupE b).depth ≤ 1 := by simp [PyData.depth, depth_ints]
    omega
  · rw [tupE_le] at eo
    obtain ⟨e1, e2⟩ := tupV_to eo
    obtain ⟨ep, he'⟩ := PyProof.Rows.sortedAll_at s.heap its out.toArray
    have hz2 : (out.map bkV).length ≤ sizeLine := by
      rw [List.length_map, ho, hlen]
      exact hz
    exact ⟨.ref _, upd H (s.heap.objs.size + 1) (.lst (out.map bkV)), I.laid (t' := s.toks) (fun _ _ => PyProof.Rows.sortedAll_old) (Nat.le_succ _) ⟨hz2, out, ep, bkV_vals e2, he'⟩, rfl, q _ _ e1 (I.hok.fresh (Nat.le_succ _))⟩
end
end L2

set_option Elab.async false
set_option linter.all false
set_option maxRecDepth 100000
set_option maxHeartbeats 4000000
/-! sorted(xs), xs a list of one item at most, whatever it is -/
namespace L2
open PySem PySem.Spec PyProof.Rows PySem.W
section
variable {X : Cx}
def rSort1 (K : PySem.W.Frag) : List V → Hp → VK → Prop := fun vs H Q => ∃ (a : Addr) (xs : List V), vs = [V.ref a] ∧ SqL K H a xs ∧ xs.length ≤ 1 ∧
  ∀ p : Addr, H p = none → Q (.ref p) (upd H p (.lst xs))
theorem cr_sort1 : CallR X (.builtin "sorted") (rSort1 X.K) := by
  intro pins s σ H vs us Q I r h
  obtain ⟨a, xs, rfl, hs, h1, q⟩ := h
  obtain ⟨its, rv, hl, hz⟩ := I.list hs
  rw [Vals.ref1 r]
  have hlen : xs.length = its.length := rv.length
  refine Srt.sorted_any hl.isList (by omega) (fun h2 => by omega) fun out hp => ?_
  have e : out = its := by
    match its, hlen with
    | [], _ => exact List.Perm.eq_nil hp
    | [x], _ => exact List.perm_singleton.mp hp
    | _ :: _ :: _, hl => simp only [List.length_cons] at hl; omega
  subst e
  obtain ⟨ep, he'⟩ := PyProof.Rows.sortedAll_at s.heap out out.toArray
  exact ⟨.ref _, upd H (s.heap.objs.size + 1) (.lst xs), I.laid (t' := s.toks) (fun _ _ => PyProof.Rows.sortedAll_old) (Nat.le_succ _) ⟨hz, out, ep, rv, he'⟩, rfl, q _ (I.hok.fresh (Nat.le_succ _))⟩
end
end L2

set_option Elab.async false
set_option linter.all false
set_option maxRecDepth 100000
set_option maxHeartbeats 4000000
/-! xs.extend(t), t a tuple -/
namespace PySem
open PySem PySem.W PySem.AutoSeq1
theorem ext_tup {l b : Addr} {items items2 : Array Value} {n n2 : Nat} {dc : Option Addr} {sl : Array (Option Value)} (hs0 : ¬(!items.isEmpty && Builtin.List.listTooLong (items.size + items2.size)) = true) (hs1 : items.size ≤ sizeLine) (hs2 : items.size + items2.size ≤ sizeLine + 1) :
    Meets (Builtin.«list.extend» ⟨[.ref l, .ref b], []⟩) (fun _ R s => s.heap.get? l = some { cls := .type "list", dict := none, data := .seq items n, slots := #[] } ∧ s.heap.get? b = some { cls := .type "tuple", dict := dc, data := .seq items2 n2, slots := sl } ∧
      R (.ok (.ret Value.none)) { s with heap := s.heap.update l (Obj.mapSeq fun x => x ++ items2), toks := s.toks }) :=
  .of_wp fun prog w A R s h => by
    obtain ⟨hp, g, d, tk, os⟩ := s
    obtain ⟨hl, hb, h⟩ := h
    have f1 := idx_int
    have f2 := sub_tuple_tuple
    have f3 := sub_list_list
    have f4 := sub_tuple_list
    have f5 := sub_list_tuple
    have hz' : (items ++ items2).size ≤ sizeLine + 1 := by rw [Array.size_append]; exact hs2
    wp_walk using (wpAny_updateSeq hl rfl (hz := hs1) (_hz' := hz')), wpAny_loadPart' hl, wpAny_loadPart' hb
    exact ⟨_, rfl, h⟩
end PySem
namespace L2
open PySem PySem.Spec PyProof.Rows PySem.W
section
variable {X : Cx}
def rExtT (K : PySem.W.Frag) : V → List V → Hp → VK → Prop := fun x vs H Q => ∃ (l b : Addr) (xs zs : List V), x = .ref l ∧ vs = [.ref b] ∧ H l = some (.lst xs) ∧ SqT K H b zs ∧ xs.length + zs.length ≤ sizeLine ∧
  Q .non (upd H l (.lst (xs ++ zs)))
theorem mt_extendT : MtM X "list.extend" (rExtT X.K) := by
  intro pins s σ H x vs v us Q I rx rv h
  obtain ⟨l, b, xs, zs, rfl, rfl, hH, hB, hz, q⟩ := h
  cases rx
  obtain ⟨u, rfl, ru⟩ := rv.one
  cases ru
  obtain ⟨z, its, n, r, hl, e⟩ := I.lstM hH
  obtain ⟨its2, r2, ⟨ob, eb, hc, n2, hd⟩, hl2⟩ := I.tuple hB
  obtain ⟨cls, dc, data, sl⟩ := ob
  dsimp only at hc hd
  subst hc hd
  have h1 := r.length
  have h2 := r2.length
  have hsz : its.toArray.size + its2.toArray.size ≤ sizeLine := by rw [List.size_toArray, List.size_toArray]; omega
  have hlong : ¬ (!its.toArray.isEmpty && Builtin.List.listTooLong (its.toArray.size + its2.toArray.size)) = true := by
    rw [notLongL hsz, Bool.and_false]
    exact Bool.false_ne_true
  refine call_meets F.slot_list_extend ⟨_, e, rfl⟩ F.entry_list_extend (F.args_list_extend_2 _ _) (PySem.ext_tup hlong (by rw [List.size_toArray]; omega) (by omega)) ⟨e, eb, ?_⟩
  refine ⟨.non, _, I.lset (its' := its ++ its2) hH e (by simp) (r.append r2) ?_, rfl, q⟩
  rw [List.length_append]
  omega
end
end L2

set_option Elab.async false
set_option linter.all false
set_option maxRecDepth 100000
set_option maxHeartbeats 2000000
namespace Tw
open PySem PySem.Spec PyProof.Rows L2
def topS (i : Nat) : Stmt := PySem.Challenge.pw_heaprows_k61_whole_replacement.main.body.getD i (.Pass ⟨0, 0, 0, 0⟩)
abbrev s_is_integer : Stmt := topS 10
theorem sc_is_integer : FnScope ["thing"] ["thing"] (defScope s_is_integer) := ⟨rfl, rfl, rfl, by decide +kernel, rfl, by decide +kernel, by decide +kernel⟩
abbrev s_is_integer_from : Stmt := topS 11
theorem sc_is_integer_from : FnScope ["thing", "least", "greatest"] ["thing", "least", "greatest"] (defScope s_is_integer_from) := ⟨rfl, rfl, rfl, by decide +kernel, rfl, by decide +kernel, by decide +kernel⟩
abbrev s_is_key : Stmt := topS 12
theorem sc_is_key : FnScope ["thing"] ["thing"] (defScope s_is_key) := ⟨rfl, rfl, rfl, by decide +kernel, rfl, by decide +kernel, by decide +kernel⟩
abbrev s_check_room : Stmt := topS 13
theorem sc_check_room : FnScope ["room"] ["room"] (defScope s_check_room) := ⟨rfl, rfl, rfl, by decide +kernel, rfl, by decide +kernel, by decide +kernel⟩
abbrev s_row_of : Stmt := topS 14
theorem sc_row_of : FnScope ["row", "index", "key"] ["row"] (defScope s_row_of) := ⟨rfl, rfl, rfl, by decide +kernel, rfl, by decide +kernel, by decide +kernel⟩
abbrev s_check_different : Stmt := topS 15
theorem sc_check_different : FnScope ["keys", "place", "key"] ["keys"] (defScope s_check_different) := ⟨rfl, rfl, rfl, by decide +kernel, rfl, by decide +kernel, by decide +kernel⟩
abbrev s_input_of : Stmt := topS 20
theorem sc_input_of : FnScope ["row", "given"] ["row"] (defScope s_input_of) := ⟨rfl, rfl, rfl, by decide +kernel, rfl, by decide +kernel, by decide +kernel⟩
abbrev s_runs_in : Stmt := topS 23
theorem sc_runs_in : FnScope ["written", "runs", "key"] ["written"] (defScope s_runs_in) := ⟨rfl, rfl, rfl, by decide +kernel, rfl, by decide +kernel, by decide +kernel⟩
abbrev s_written_by_replacement : Stmt := topS 21
theorem sc_written_by_replacement : FnScope ["room", "given", "held", "written", "at", "fitting", "key"] ["room", "given"] (defScope s_written_by_replacement) := ⟨rfl, rfl, rfl, by decide +kernel, rfl, by decide +kernel, by decide +kernel⟩
abbrev s_is_way : Stmt := topS 22
theorem sc_is_way : FnScope ["thing", "room", "given", "held", "at", "key"] ["thing", "room", "given"] (defScope s_is_way) := ⟨rfl, rfl, rfl, by decide +kernel, rfl, by decide +kernel, by decide +kernel⟩
abbrev s_runs_of : Stmt := topS 19
theorem sc_runs_of : FnScope ["room", "row", "written"] ["room", "row", "written"] (defScope s_runs_of) := ⟨rfl, rfl, rfl, by decide +kernel, rfl, by decide +kernel, by decide +kernel⟩
abbrev s_by_replacement : Stmt := topS 17
theorem sc_by_replacement : FnScope ["room", "row"] ["room", "row"] (defScope s_by_replacement) := ⟨rfl, rfl, rfl, by decide +kernel, rfl, by decide +kernel, by decide +kernel⟩
abbrev s_fewest_runs : Stmt := topS 18
theorem sc_fewest_runs : FnScope ["room", "row"] ["room", "row"] (defScope s_fewest_runs) := ⟨rfl, rfl, rfl, by decide +kernel, rfl, by decide +kernel, by decide +kernel⟩
abbrev s__law_number : Stmt := topS 25
theorem sc__law_number : FnScope ["script", "index", "cells", "cell", "low", "high", "total", "blend"] ["script", "index"] (defScope s__law_number) := ⟨rfl, rfl, rfl, by decide +kernel, rfl, by decide +kernel, by decide +kernel⟩
abbrev s__law_input : Stmt := topS 26
theorem sc__law_input : FnScope ["script", "at", "many", "found", "turn", "key"] ["script", "at", "many"] (defScope s__law_input) := ⟨rfl, rfl, rfl, by decide +kernel, rfl, by decide +kernel, by decide +kernel⟩
abbrev s__law_cut : Stmt := topS 27
theorem sc__law_cut : FnScope ["written", "found", "key"] ["written"] (defScope s__law_cut) := ⟨rfl, rfl, rfl, by decide +kernel, rfl, by decide +kernel, by decide +kernel⟩
abbrev s__law_written : Stmt := topS 28
theorem sc__law_written : FnScope ["room", "given", "held", "rest", "written", "key", "able"] ["room", "given"] (defScope s__law_written) := ⟨rfl, rfl, rfl, by decide +kernel, rfl, by decide +kernel, by decide +kernel⟩
abbrev s_law : Stmt := topS 29
theorem sc_law : FnScope ["script", "seed", "given", "room", "due", "found", "one"] ["script"] (defScope s_law) := ⟨rfl, rfl, rfl, by decide +kernel, rfl, by decide +kernel, by decide +kernel⟩
/-- where the text's defs stand -/
structure Ad where
  f_is_integer : Addr
  d_is_integer : FuncData
  f_is_integer_from : Addr
  d_is_integer_from : FuncData
  f_is_key : Addr
  d_is_key : FuncData
  f_check_room : Addr
  d_check_room : FuncData
  f_row_of : Addr
  d_row_of : FuncData
  f_check_different : Addr
  d_check_different : FuncData
  f_input_of : Addr
  d_input_of : FuncData
  f_runs_in : Addr
  d_runs_in : FuncData
  f_written_by_replacement : Addr
  d_written_by_replacement : FuncData
  f_is_way : Addr
  d_is_way : FuncData
  f_runs_of : Addr
  d_runs_of : FuncData
  f_by_replacement : Addr
  d_by_replacement : FuncData
  f_fewest_runs : Addr
  d_fewest_runs : FuncData
  f__law_number : Addr
  d__law_number : FuncData
  f__law_input : Addr
  d__law_input : FuncData
  f__law_cut : Addr
  d__law_cut : FuncData
  f__law_written : Addr
  d__law_written : FuncData
  f_law : Addr
  d_law : FuncData
/-- what the top has written -/
structure Tx (K : PySem.W.Frag) (mg : Str → Option Value) (A : Ad) : Prop where
  F_is_integer : Fun K "is_integer" "is_integer" s_is_integer A.f_is_integer A.d_is_integer
  m_is_integer : mg "is_integer" = some (.ref A.f_is_integer)
  F_is_integer_from : Fun K "is_integer_from" "is_integer_from" s_is_integer_from A.f_is_integer_from A.d_is_integer_from
  m_is_integer_from : mg "is_integer_from" = some (.ref A.f_is_integer_from)
  F_is_key : Fun K "is_key" "is_key" s_is_key A.f_is_key A.d_is_key
  m_is_key : mg "is_key" = some (.ref A.f_is_key)
  F_check_room : Fun K "check_room" "check_room" s_check_room A.f_check_room A.d_check_room
  m_check_room : mg "check_room" = some (.ref A.f_check_room)
  F_row_of : Fun K "row_of" "row_of" s_row_of A.f_row_of A.d_row_of
  m_row_of : mg "row_of" = some (.ref A.f_row_of)
  F_check_different : Fun K "check_different" "check_different" s_check_different A.f_check_different A.d_check_different
  m_check_different : mg "check_different" = some (.ref A.f_check_different)
  F_input_of : Fun K "input_of" "input_of" s_input_of A.f_input_of A.d_input_of
  m_input_of : mg "input_of" = some (.ref A.f_input_of)
  F_runs_in : Fun K "runs_in" "runs_in" s_runs_in A.f_runs_in A.d_runs_in
  m_runs_in : mg "runs_in" = some (.ref A.f_runs_in)
  F_written_by_replacement : Fun K "written_by_replacement" "written_by_replacement" s_written_by_replacement A.f_written_by_replacement A.d_written_by_replacement
  m_written_by_replacement : mg "written_by_replacement" = some (.ref A.f_written_by_replacement)
  F_is_way : Fun K "is_way" "is_way" s_is_way A.f_is_way A.d_is_way
  m_is_way : mg "is_way" = some (.ref A.f_is_way)
  F_runs_of : Fun K "runs_of" "runs_of" s_runs_of A.f_runs_of A.d_runs_of
  m_runs_of : mg "runs_of" = some (.ref A.f_runs_of)
  F_by_replacement : Fun K "by_replacement" "by_replacement" s_by_replacement A.f_by_replacement A.d_by_replacement
  m_by_replacement : mg "by_replacement" = some (.ref A.f_by_replacement)
  F_fewest_runs : Fun K "fewest_runs" "fewest_runs" s_fewest_runs A.f_fewest_runs A.d_fewest_runs
  m_fewest_runs : mg "fewest_runs" = some (.ref A.f_fewest_runs)
  F__law_number : Fun K "_law_number" "_law_number" s__law_number A.f__law_number A.d__law_number
  m__law_number : mg "_law_number" = some (.ref A.f__law_number)
  F__law_input : Fun K "_law_input" "_law_input" s__law_input A.f__law_input A.d__law_input
  m__law_input : mg "_law_input" = some (.ref A.f__law_input)
  F__law_cut : Fun K "_law_cut" "_law_cut" s__law_cut A.f__law_cut A.d__law_cut
  m__law_cut : mg "_law_cut" = some (.ref A.f__law_cut)
  F__law_written : Fun K "_law_written" "_law_written" s__law_written A.f__law_written A.d__law_written
  m__law_written : mg "_law_written" = some (.ref A.f__law_written)
  F_law : Fun K "law" "law" s_law A.f_law A.d_law
  m_law : mg "law" = some (.ref A.f_law)
  c_MOST_PLACES : mg "MOST_PLACES" = some (.int 12 0) ∨ ∃ t, mg "MOST_PLACES" = some (.int 12 t)
  c_GREATEST_KEY : mg "GREATEST_KEY" = some (.int 1000000000 0) ∨ ∃ t, mg "GREATEST_KEY" = some (.int 1000000000 t)
  c_MOST_ROOM : mg "MOST_ROOM" = some (.int 12 0) ∨ ∃ t, mg "MOST_ROOM" = some (.int 12 t)
  g_isinstance : mg "isinstance" = none
  g_int : mg "int" = none
  g_bool : mg "bool" = none
  g_len : mg "len" = none
  g_tuple : mg "tuple" = none
  g_list : mg "list" = none
  g_range : mg "range" = none
  g_enumerate : mg "enumerate" = none
  g_sum : mg "sum" = none
  g_any : mg "any" = none
  g_min : mg "min" = none
  g_sorted : mg "sorted" = none
section
variable {P : Program} {w : World} {K : PySem.W.Frag} {mg : Str → Option Value} {base : Heap} {A : Ad}
theorem cst {x : Str} {n : Int} (h : mg x = some (.int n 0) ∨ ∃ t, mg x = some (.int n t)) : ∃ t, mg x = some (.int n t) := h.elim (fun e => ⟨0, e⟩) id

/-- True just for ints -/
def spIs (K : PySem.W.Frag) : Sp := fun vs H Q _ => ∃ x : V, vs = [x] ∧
  ((∃ i, x = .int i ∧ Q (.bl true) H) ∨ (∃ n b1 b2, TyX K H x (.type n) ∧ kitB n "int" = some b1 ∧ kitB n "bool" = some b2 ∧ (b1 && !b2) = false ∧ Q (.bl false) H))
theorem ok_is (T : Tx K mg A) : FnOk P w K mg base CX0 1 A.f_is_integer A.d_is_integer ["thing"] (spIs K) := by
  refine T.F_is_integer.ok sc_is_integer (fun vs H Q E h => ?_) (fun cdv B outer s H vs Q E hr h => ?_)
  · obtain ⟨x, rfl, _⟩ := h
    rfl
  · obtain ⟨x, rfl, h⟩ := h
    refine ⟨_, pss_one (ps_ret (pe_and (pe_callB call_isi (by rfl) T.g_isinstance (by decide +kernel) (pa_cons (pv 0) (pa_cons (pe_bltn (v := .ty "int") (by rfl) T.g_int (by decide +kernel) rfl) pa_nil)))
      (pe_one (pe_not (pe_callB call_isi (by rfl) T.g_isinstance (by decide +kernel) (pa_cons (pv 0) (pa_cons (pe_bltn (v := .ty "bool") (by rfl) T.g_bool (by decide +kernel) rfl) pa_nil))))))), ?_⟩
    rcases h with ⟨i, rfl, q⟩ | ⟨n, b1, b2, ty, k1, k2, hb, q⟩
    · refine ⟨_, rfl, _, _, .type "int", .type "int", true, rfl, .ty "int", .base (.int i), kit_ty (by decide +kernel), true, rfl, iteT ?_⟩
      exact ⟨_, rfl, _, _, .type "int", .type "bool", false, rfl, .ty "bool", .base (.int i), kit_ty (by decide +kernel), false, rfl, q⟩
    · refine ⟨_, rfl, _, _, .type n, .type "int", b1, rfl, .ty "int", ty, kit_ty k1, b1, rfl, ?_⟩
      cases b1 with
      | false => exact iteF q
      | true =>
        cases b2 with
        | false => cases hb
        | true => exact iteT ⟨_, rfl, _, _, .type n, .type "bool", true, rfl, .ty "bool", ty, kit_ty k2, true, rfl, q⟩
theorem b_is (T : Tx K mg A) : L2.Binds K A.d_is_integer ["thing"] [] := T.F_is_integer.binds fun _ _ _ _ _ _ us hl => match us, hl with | [_], _ => rfl
/-- True just for ints within; other things by their class -/
def spII (K : PySem.W.Frag) : Sp := fun vs H Q _ => ∃ (x : V) (a b : Int), vs = [x, .int a, .int b] ∧
  ((∃ i, x = .int i ∧ Q (.bl (decide (a ≤ i ∧ i ≤ b))) H) ∨ (∃ n b1 b2, TyX K H x (.type n) ∧ kitB n "int" = some b1 ∧ kitB n "bool" = some b2 ∧ (b1 && !b2) = false ∧ Q (.bl false) H))
theorem ok_ii (T : Tx K mg A) : FnOk P w K mg base CX0 2 A.f_is_integer_from A.d_is_integer_from ["thing", "least", "greatest"] (spII K) := by
  refine T.F_is_integer_from.ok sc_is_integer_from (fun vs H Q E h => ?_) (fun cdv B outer s H vs Q E hr h => ?_)
  · obtain ⟨x, a, b, rfl, _⟩ := h
    rfl
  · obtain ⟨x, a, b, rfl, h⟩ := h
    refine ⟨_, pss_one (ps_ret (pe_and (pe_call (ok_is T) hr (by rfl) T.m_is_integer T.F_is_integer.kp (b_is T) .nil pass0 (pa_cons (pv 0) pa_nil))
        (pe_one (pe_chain op_le op_le (pv 1) (pv 0) (pv 2))))), ?_⟩
    rcases h with ⟨i, rfl, q⟩ | h
    · refine ⟨_, rfl, _, rfl, .inl ⟨i, rfl, true, rfl, iteT ?_⟩⟩
      refine ⟨_, rfl, _, rfl, _, _, rfl, rfl, _, rfl, ?_⟩
      by_cases h1 : a ≤ i
      · rw [decide_eq_true h1]
        refine iteT ⟨_, rfl, _, _, rfl, rfl, ?_⟩
        have e : decide (a ≤ i ∧ i ≤ b) = decide (i ≤ b) := by simp [h1]
        rw [e] at q
        exact q
      · rw [decide_eq_false h1]
        have e : decide (a ≤ i ∧ i ≤ b) = false := by simp [h1]
        rw [e] at q
        exact iteF q
    · obtain ⟨n, b1, b2, ty, k1, k2, hb, q⟩ := h
      exact ⟨_, rfl, _, rfl, .inr ⟨n, b1, b2, ty, k1, k2, hb, false, rfl, iteF q⟩⟩
theorem b_ii (T : Tx K mg A) : L2.Binds K A.d_is_integer_from ["thing", "least", "greatest"] [] := T.F_is_integer_from.binds fun _ _ _ _ _ _ us hl => match us, hl with | [_, _, _], _ => rfl

/-- is_key of an int -/
def spKey : Sp := fun vs H Q _ => ∃ i : Int, vs = [.int i] ∧ Q (.bl (decide (-1000000000 ≤ i ∧ i ≤ 1000000000))) H
theorem ok_key (T : Tx K mg A) : FnOk P w K mg base CX0 3 A.f_is_key A.d_is_key ["thing"] spKey := by
  refine T.F_is_key.ok sc_is_key (fun vs H Q E h => ?_) (fun cdv B outer s H vs Q E hr h => ?_)
  · obtain ⟨i, rfl, _⟩ := h
    rfl
  · obtain ⟨i, rfl, q⟩ := h
    obtain ⟨t, hg⟩ := cst T.c_GREATEST_KEY
    refine ⟨_, pss_one (ps_ret (pe_call (ok_ii T) hr (by rfl) T.m_is_integer_from T.F_is_integer_from.kp (b_ii T) .nil pass0
      (pa_cons (pv 0) (pa_cons (pe_un un_neg (pe_glob (by rfl) hg (relI _ _))) (pa_cons (pe_glob (by rfl) hg (relI _ _)) pa_nil))))), ?_⟩
    exact ⟨_, rfl, _, rfl, _, _, _, rfl, .inl ⟨i, rfl, q⟩⟩
theorem b_key (T : Tx K mg A) : L2.Binds K A.d_is_key ["thing"] [] := T.F_is_key.binds fun _ _ _ _ _ _ us hl => match us, hl with | [_], _ => rfl
/-- a list or a tuple -/
def Sq (H : Hp) (a : Addr) (xs : List V) : Prop := H a = some (.lst xs) ∨ H a = some (.tup xs)
theorem Sq.same {H H' : Hp} {a : Addr} {xs : List V} (h : Sq H a xs) (s : Same H H') : Sq H' a xs := h.elim (fun e => .inl (s _ _ e)) fun e => .inr (s _ _ e)
theorem Sq.len {K : PySem.W.Frag} {H : Hp} {a : Addr} {xs : List V} (h : Sq H a xs) : SqL K H a xs ∨ SqT K H a xs := h.elim (fun e => .inl (SqL.of e)) fun e => .inr (SqT.of e)
/-- keys go in, a tuple of them comes out -/
def spRow (K : PySem.W.Frag) : Sp := fun vs H Q _ => ∃ (a : Addr) (ns : List Int), vs = [.ref a] ∧ Sq H a (ns.map V.int) ∧ ns.length ≤ 12 ∧ (∀ n ∈ ns, -1000000000 ≤ n ∧ n ≤ 1000000000) ∧
  ∀ H' p, Same H H' → H' p = some (.tup (ns.map V.int)) → Q (.ref p) H'
theorem ok_row (T : Tx K mg A) : FnOk P w K mg base CX0 4 A.f_row_of A.d_row_of ["row"] (spRow K) := by
  refine T.F_row_of.ok sc_row_of (fun vs H Q E h => ?_) (fun cdv B outer s H vs Q E hr h => ?_)
  · obtain ⟨a, ns, rfl, _⟩ := h
    rfl
  · obtain ⟨a, ns, rfl, ha, hl, hk, q⟩ := h
    obtain ⟨t, hg⟩ := cst T.c_MOST_PLACES
    refine ⟨_, pss_cons (ps_if (PW.pt (pw_or (pt_not (pt_val (pe_callB call_isiT (by rfl) T.g_isinstance (by decide +kernel) (pa_cons (pv 0) (pa_cons (pe_tup (pa_cons (pe_bltn (v := .ty "list") (by rfl) T.g_list (by decide +kernel) rfl) (pa_cons (pe_bltn (v := .ty "tuple") (by rfl) T.g_tuple (by decide +kernel) rfl) pa_nil))) pa_nil)))))
        (pw_or1 (pt_cmpR op_gt (pe_callB call_len_seq (by rfl) T.g_len PySem.boot_len (pa_cons (pv 0) pa_nil)) (pe_glob (by rfl) hg (relI _ _)) (nomark _))))) (pss_one ps_never) pss_nil)
      (C8.pss_cut (ps_for PassesOwn.never rfl (pi_enS (by rfl) T.g_enumerate (pa_cons (pv 0) pa_nil)) (pg_tup rfl (pgs_cons (pg_name (i := 1) sc_row_of.nd rfl (Or.inl rfl)) (pgs_cons (pg_name (i := 2) sc_row_of.nd rfl (Or.inl rfl)) pgs_nil)))
        (pss_one (ps_if (pt_not (pt_val (pe_call (ok_key T) hr (by rfl) T.m_is_key T.F_is_key.kp (b_key T) .nil pass0 (pa_cons (pv 2) pa_nil)))) (pss_one ps_never) pss_nil)))
      (pss_one (ps_ret (pe_callTy call_tuple_of (by rfl) T.g_tuple (by decide +kernel) (pa_cons (pv 0) pa_nil))))), ?_⟩
    refine ⟨_, rfl, by show 2 ≤ sizeLine; decide, fun tp htp => ?_⟩
    have ha1 : Sq (upd H tp (.tup [.ty "list", .ty "tuple"])) a (ns.map V.int) := ha.same (Same.up htp)
    have isi : ∃ c b1, TyX K (upd H tp (.tup [.ty "list", .ty "tuple"])) (.ref a) (.type c) ∧ PySem.W.kitOne K (.type c) (.type "list") = some b1 ∧ (b1 = false → PySem.W.kitOne K (.type c) (.type "tuple") = some true) := by
      rcases ha1 with h | h
      · exact ⟨"list", true, .base (.lst h), kit_ty (by decide +kernel), fun z => by cases z⟩
      · exact ⟨"tuple", false, .base (.tup h), kit_ty (by decide +kernel), fun _ => kit_ty (by decide +kernel)⟩
    obtain ⟨c, b1, ty, k1, k2⟩ := isi
    refine ⟨_, tp, _, .type c, [.type "list", .type "tuple"], true, rfl, upd_same, .cons (.ty _) (.cons (.ty _) .nil), ty, kitAny_cons k1 (fun z => kitAny_cons (k2 z) (fun z => by cases z) (fun _ => rfl)) (fun _ => rfl), true, rfl, ?_⟩
    refine iteF ⟨_, rfl, a, _, rfl, ha1.len, _, _, rfl, rfl, _, rfl, ite2 (fun z => ?_) (fun _ => ?_)⟩
    · exfalso
      rw [List.length_map] at z
      have := of_decide_eq_true z
      omega
    refine ⟨fun σ H' => ∃ z y, σ = [some (.ref a), z, y] ∧ Same H H', ?_, ?_⟩
    · rcases ha with ha | ha
      · refine ⟨_, rfl, a, _, rfl, .inl ⟨SqL.of ((Same.up htp) _ _ ha), for_it (walk_enum (xs := ns.map V.int)) (fun i σ H' => ∃ z y, σ = [some (.ref a), z, y] ∧ Same H H') ⟨none, none, rfl, Same.up htp⟩ (fun i σ H' _ ⟨_, _, _, s⟩ => SqL.of (s _ _ ha)) ?_ ?_⟩⟩
        · rintro i v σ H2 H3 hi ⟨z, y, rfl, s⟩ ⟨T', x, x2, rfl, hT, rfl, e1, e2⟩
          obtain ⟨hi', rfl⟩ := ints_at e2
          cases e1
          refine ⟨_, _, rfl, SqT.of upd_same, rfl, _, _, rfl, _, _, rfl, rfl, ?_⟩
          refine ⟨_, rfl, _, rfl, _, rfl, ?_⟩
          rw [decide_eq_true (hk _ (List.getElem_mem hi'))]
          exact iteF ⟨_, _, rfl, s.trans (Same.up hT)⟩
        · rintro σ H2 ⟨z, y, rfl, s⟩
          exact ⟨_, _, rfl, s⟩
      · refine ⟨_, rfl, a, _, rfl, .inr ⟨SqT.of ((Same.up htp) _ _ ha), for_it (walk_enumT (xs := ns.map V.int)) (fun i σ H' => ∃ z y, σ = [some (.ref a), z, y] ∧ Same H H') ⟨none, none, rfl, Same.up htp⟩ (fun i σ H' _ ⟨_, _, _, s⟩ => SqT.of (s _ _ ha)) ?_ ?_⟩⟩
        · rintro i v σ H2 H3 hi ⟨z, y, rfl, s⟩ ⟨T', x, x2, rfl, hT, rfl, e1, e2⟩
          obtain ⟨hi', rfl⟩ := ints_at e2
          cases e1
          refine ⟨_, _, rfl, SqT.of upd_same, rfl, _, _, rfl, _, _, rfl, rfl, ?_⟩
          refine ⟨_, rfl, _, rfl, _, rfl, ?_⟩
          rw [decide_eq_true (hk _ (List.getElem_mem hi'))]
          exact iteF ⟨_, _, rfl, s.trans (Same.up hT)⟩
        · rintro σ H2 ⟨z, y, rfl, s⟩
          exact ⟨_, _, rfl, s⟩
    · rintro σ H2 ⟨z, y, rfl, s⟩
      rcases ha with ha | ha
      · exact ⟨_, rfl, a, _, rfl, .inl ⟨SqL.of (s _ _ ha), fun p hp => q _ _ (s.trans (Same.up hp)) upd_same⟩⟩
      · exact ⟨_, rfl, a, _, rfl, .inr ⟨SqT.of (s _ _ ha), q _ _ s (s _ _ ha)⟩⟩
theorem b_row (T : Tx K mg A) : L2.Binds K A.d_row_of ["row"] [] := T.F_row_of.binds fun _ _ _ _ _ _ us hl => match us, hl with | [_], _ => rfl

end

end Tw

set_option Elab.async false
set_option linter.all false
set_option maxRecDepth 100000
set_option maxHeartbeats 2000000
namespace Tw
open PySem PySem.Spec PyProof.Rows L2
/-! writing by replacement -/
def minI : List Int → Int
  | [] => 0
  | [a] => a
  | a :: b :: l => if a ≤ minI (b :: l) then a else minI (b :: l)
theorem minI_ok : ∀ l : List Int, l ≠ [] → minI l ∈ l ∧ ∀ y ∈ l, minI l ≤ y
  | [], h => absurd rfl h
  | [a], _ => ⟨List.mem_singleton_self a, fun y hy => by rw [List.mem_singleton.mp hy]; exact Int.le_refl _⟩
  | a :: b :: l, _ => by
    obtain ⟨h1, h2⟩ := minI_ok (b :: l) (by simp)
    unfold minI
    by_cases h : a ≤ minI (b :: l)
    · rw [if_pos h]
      refine ⟨List.mem_cons_self, fun y hy => ?_⟩
      rcases List.mem_cons.mp hy with e | e
      · omega
      · have := h2 y e
        omega
    · rw [if_neg h]
      refine ⟨List.mem_cons_of_mem _ h1, fun y hy => ?_⟩
      rcases List.mem_cons.mp hy with e | e
      · omega
      · exact h2 y e
theorem minI_eq {l : List Int} {m : Int} (h1 : m ∈ l) (h2 : ∀ y ∈ l, m ≤ y) : m = minI l := by
  obtain ⟨a, b⟩ := minI_ok l (List.ne_nil_of_mem h1)
  exact Int.le_antisymm (h2 _ a) (b _ h1)
def lastI (w : List Int) : Int := w.getLastD 0
theorem last_snoc (w : List Int) (k : Int) : lastI (w ++ [k]) = k := by
  unfold lastI
  rw [List.getLastD_eq_getLast?, List.getLast?_append]
  rfl
def fitL (h w : List Int) : List Int := h.filter fun k => decide (w = []) || decide (lastI w < k)
def pickL (h w : List Int) : Int := minI (if fitL h w = [] then h else fitL h w)
theorem pick_in {h : List Int} (w : List Int) (hn : h ≠ []) : pickL h w ∈ h := by
  unfold pickL
  by_cases e : fitL h w = []
  · rw [if_pos e]
    exact (minI_ok h hn).1
  · rw [if_neg e]
    exact (List.mem_filter.mp (minI_ok _ e).1).1
def stW (r : Nat) (ns : List Int) : Nat → List Int × List Int
  | 0 => (ns.take r, [])
  | i + 1 => ((stW r ns i).1.erase (pickL (stW r ns i).1 (stW r ns i).2) ++ (ns.drop (r + i)).take 1, (stW r ns i).2 ++ [pickL (stW r ns i).1 (stW r ns i).2])
def writeL (r : Nat) (ns : List Int) : List Int := (stW r ns ns.length).2
theorem stW_len (r : Nat) (ns : List Int) : ∀ i, (stW r ns i).2.length = i
  | 0 => rfl
  | i + 1 => by
    show ((stW r ns i).2 ++ [_]).length = _
    rw [List.length_append, stW_len r ns i]
    rfl
theorem stW_perm {r : Nat} {ns : List Int} (hr : 1 ≤ r) : ∀ i, i ≤ ns.length → ((stW r ns i).2 ++ (stW r ns i).1).Perm (ns.take (r + i))
  | 0, _ => List.Perm.refl _
  | i + 1, hi => by
    have ih := stW_perm hr i (by omega) (r := r) (ns := ns)
    have hl := ih.length_eq
    rw [List.length_append, stW_len, List.length_take] at hl
    have hne : (stW r ns i).1 ≠ [] := fun z => by
      rw [z, List.length_nil] at hl
      omega
    have hk := List.perm_cons_erase (pick_in (stW r ns i).2 hne)
    show (((stW r ns i).2 ++ [pickL (stW r ns i).1 (stW r ns i).2]) ++ ((stW r ns i).1.erase (pickL (stW r ns i).1 (stW r ns i).2) ++ (ns.drop (r + i)).take 1)).Perm (ns.take (r + i + 1))
    rw [List.take_add, ← List.append_assoc, List.append_assoc (stW r ns i).2]
    exact (((hk.symm.append_left (stW r ns i).2)).trans ih).append_right _
theorem held_len {r : Nat} {ns : List Int} (hr : 1 ≤ r) {i : Nat} (hi : i ≤ ns.length) : (stW r ns i).1.length = min (r + i) ns.length - i := by
  have hl := (stW_perm hr i hi).length_eq
  rw [List.length_append, stW_len, List.length_take] at hl
  omega
theorem held_ne {r : Nat} {ns : List Int} (hr : 1 ≤ r) {i : Nat} (hi : i < ns.length) : (stW r ns i).1 ≠ [] := fun z => by
  have := held_len hr (Nat.le_of_lt hi) (ns := ns)
  rw [z, List.length_nil] at this
  omega
theorem held_sub {r : Nat} {ns : List Int} (hr : 1 ≤ r) {i : Nat} (hi : i ≤ ns.length) {x : Int} (h : x ∈ (stW r ns i).1 ∨ x ∈ (stW r ns i).2) : x ∈ ns := by
  have := (stW_perm hr i hi).mem_iff (a := x)
  refine List.mem_of_mem_take (this.mp ?_)
  rcases h with h | h
  · exact List.mem_append_right _ h
  · exact List.mem_append_left _ h
theorem st_nodup {r : Nat} {ns : List Int} (hr : 1 ≤ r) (hd : ns.Nodup) {i : Nat} (hi : i ≤ ns.length) : ((stW r ns i).2 ++ (stW r ns i).1).Nodup :=
  (stW_perm hr i hi).nodup_iff.mpr (hd.sublist (List.take_sublist _ _))
theorem write_perm {r : Nat} {ns : List Int} (hr : 1 ≤ r) : (writeL r ns).Perm ns := by
  have h := stW_perm hr ns.length (Nat.le_refl _) (r := r)
  have hl := held_len hr (Nat.le_refl ns.length) (ns := ns)
  rw [List.length_eq_zero_iff.mp (show (stW r ns ns.length).1.length = 0 by rw [hl]; omega), List.append_nil, List.take_of_length_le (by omega)] at h
  exact h
theorem write_len {r : Nat} {ns : List Int} : (writeL r ns).length = ns.length := stW_len r ns ns.length
theorem stW_take (r : Nat) (ns : List Int) : ∀ m i, i ≤ m → (stW r ns m).2.take i = (stW r ns i).2
  | 0, i, h => by
    have : i = 0 := by omega
    subst this
    rfl
  | m + 1, i, h => by
    by_cases e : i = m + 1
    · subst e
      rw [List.take_of_length_le (by rw [stW_len]; exact Nat.le_refl _)]
    · show ((stW r ns m).2 ++ [_]).take i = _
      rw [List.take_append_of_le_length (by rw [stW_len]; omega), stW_take r ns m i (by omega)]
theorem write_at {r : Nat} {ns : List Int} {i : Nat} (hi : i < ns.length) : (writeL r ns)[i]? = some (pickL (stW r ns i).1 (stW r ns i).2) := by
  have h := stW_take r ns ns.length (i + 1) hi
  have h2 : ((stW r ns ns.length).2.take (i + 1))[i]? = some (pickL (stW r ns i).1 (stW r ns i).2) := by
    rw [h]
    show ((stW r ns i).2 ++ [_])[i]? = _
    rw [List.getElem?_append_right (by rw [stW_len]; exact Nat.le_refl _), stW_len, Nat.sub_self]
    rfl
  rw [List.getElem?_take_of_lt (by omega)] at h2
  exact h2
/-! runs -/
def lastL (rs : List (List Int)) : List Int := rs.getLastD []
def stepR (rs : List (List Int)) (k : Int) : List (List Int) := if rs ≠ [] ∧ lastI (lastL rs) < k then rs.dropLast ++ [lastL rs ++ [k]] else rs ++ [[k]]
def stepC (rs : List (List Int)) (k : Int) : List (List Int) := if rs = [] ∨ k < lastI (lastL rs) then rs ++ [[k]] else rs.dropLast ++ [lastL rs ++ [k]]
def runsL (w : List Int) : List (List Int) := w.foldl stepR []
def cutL (w : List Int) : List (List Int) := w.foldl stepC []
theorem runs_snoc (w : List Int) (k : Int) : runsL (w ++ [k]) = stepR (runsL w) k := by
  unfold runsL
  rw [List.foldl_append]
  rfl
theorem cut_snoc (w : List Int) (k : Int) : cutL (w ++ [k]) = stepC (cutL w) k := by
  unfold cutL
  rw [List.foldl_append]
  rfl
theorem lastL_snoc (rs : List (List Int)) (x : List Int) : lastL (rs ++ [x]) = x := by
  unfold lastL
  rw [List.getLastD_eq_getLast?, List.getLast?_append]
  rfl
theorem step_last (rs : List (List Int)) (k : Int) : stepR rs k ≠ [] ∧ lastI (lastL (stepR rs k)) = k := by
  unfold stepR
  by_cases h : rs ≠ [] ∧ lastI (lastL rs) < k
  · rw [if_pos h, lastL_snoc, last_snoc]
    exact ⟨by simp, rfl⟩
  · rw [if_neg h, lastL_snoc]
    exact ⟨by simp, rfl⟩
theorem snoc_of {α : Type} {w : List α} {n : Nat} (h : w.length = n + 1) : ∃ v k, w = v ++ [k] ∧ v.length = n := by
  have hn : w ≠ [] := fun z => by rw [z] at h; cases h
  refine ⟨w.dropLast, w.getLast hn, (List.dropLast_concat_getLast hn).symm, ?_⟩
  rw [List.length_dropLast, h]
  rfl
theorem runs_last : ∀ (n : Nat) (w : List Int), w.length = n → w ≠ [] → runsL w ≠ [] ∧ lastI (lastL (runsL w)) = lastI w
  | 0, w, h, hn => absurd (List.length_eq_zero_iff.mp h) hn
  | n + 1, w, h, _ => by
    obtain ⟨v, k, rfl, _⟩ := snoc_of h
    rw [runs_snoc, last_snoc]
    exact step_last _ _
theorem runs_nil {w : List Int} (h : w ≠ []) : runsL w ≠ [] := (runs_last _ w rfl h).1
theorem runs_cut : ∀ (n : Nat) (w : List Int), w.length = n → w.Nodup → cutL w = runsL w
  | 0, w, h, _ => by
    rw [List.length_eq_zero_iff.mp h]
    rfl
  | n + 1, w, h, hd => by
    obtain ⟨v, k, rfl, hv⟩ := snoc_of h
    have hd2 := List.nodup_append.mp hd
    rw [runs_snoc, cut_snoc, runs_cut n v hv hd2.1]
    unfold stepR stepC
    by_cases e : v = []
    · subst e
      rfl
    · have hl := runs_last n v hv e
      have hne : lastI v ≠ k := by
        have hm : lastI v ∈ v := by
          unfold lastI
          rw [List.getLastD_eq_getLast?, List.getLast?_eq_some_getLast e]
          exact List.getLast_mem e
        exact hd2.2.2 _ hm _ (List.mem_singleton_self k)
      rw [hl.2]
      by_cases c : lastI v < k
      · rw [if_neg (fun z => by rcases z with z | z; exact hl.1 z; omega), if_pos ⟨hl.1, c⟩]
      · rw [if_pos (Or.inr (by omega)), if_neg (fun z => c z.2)]
theorem runs_len : ∀ (n : Nat) (w : List Int), w.length = n → (runsL w).length ≤ n ∧ (∀ run ∈ runsL w, run.length ≤ n)
  | 0, w, h => by
    rw [List.length_eq_zero_iff.mp h]
    exact ⟨Nat.le_refl _, fun run hr => absurd hr (by simp [runsL])⟩
  | n + 1, w, h => by
    obtain ⟨v, k, rfl, hv⟩ := snoc_of h
    obtain ⟨h1, h2⟩ := runs_len n v hv
    rw [runs_snoc]
    unfold stepR
    by_cases c : runsL v ≠ [] ∧ lastI (lastL (runsL v)) < k
    · rw [if_pos c]
      have hp := List.length_pos_iff.mpr c.1
      refine ⟨by rw [List.length_append, List.length_dropLast, List.length_singleton]; omega, fun run hr => ?_⟩
      rcases List.mem_append.mp hr with e | e
      · have := h2 run ((List.dropLast_sublist _).subset e)
        omega
      · rw [List.mem_singleton.mp e, List.length_append, List.length_singleton]
        have hm : lastL (runsL v) ∈ runsL v := by
          unfold lastL
          rw [List.getLastD_eq_getLast?, List.getLast?_eq_some_getLast c.1]
          exact List.getLast_mem c.1
        have := h2 _ hm
        omega
    · rw [if_neg c]
      refine ⟨by rw [List.length_append, List.length_singleton]; omega, fun run hr => ?_⟩
      rcases List.mem_append.mp hr with e | e
      · have := h2 run e
        omega
      · rw [List.mem_singleton.mp e]
        simp
/-! all but the last run are as long as there is room -/
theorem count_or {α : Type} {p q s : α → Bool} : ∀ l : List α, (∀ x ∈ l, p x = true → q x = true ∨ s x = true) → l.countP p ≤ l.countP q + l.countP s
  | [], _ => Nat.le_refl _
  | a :: l, h => by
    have ih := count_or l fun x hx => h x (List.mem_cons_of_mem _ hx)
    have ha := h a List.mem_cons_self
    simp only [List.countP_cons]
    cases hp : p a with
    | false => simp; omega
    | true =>
      rcases ha hp with e | e
      · simp [e]; omega
      · simp [e]; omega
theorem count_self {k : Int} {l : List Int} (hd : l.Nodup) : l.countP (fun x => decide (x = k)) ≤ 1 := by
  have : l.countP (fun x => decide (x = k)) = l.count k := by
    unfold List.count
    refine List.countP_congr fun x _ => ?_
    simp
  rw [this]
  exact List.nodup_iff_count.mp hd k
structure Long (r n i : Nat) (h w : List Int) : Prop where
  old : ∀ run ∈ (runsL w).dropLast, r ≤ run.length
  now : w ≠ [] → (lastL (runsL w)).length ≤ i ∧ min r (n - (i - (lastL (runsL w)).length)) ≤ h.countP (fun x => decide (lastI w < x)) + (lastL (runsL w)).length
theorem count_erase {k : Int} {h : List Int} : (h.erase k).countP (fun x => decide (k < x)) = h.countP (fun x => decide (k < x)) := by
  by_cases hk : k ∈ h
  · have := (List.perm_cons_erase hk).countP_eq (fun x => decide (k < x))
    rw [List.countP_cons] at this
    simp at this
    exact this.symm
  · rw [List.erase_of_not_mem hk]
theorem long_ok {r : Nat} {ns : List Int} (hr : 1 ≤ r) (hd : ns.Nodup) : ∀ i, i ≤ ns.length → Long r ns.length i (stW r ns i).1 (stW r ns i).2
  | 0, _ => ⟨fun run h => absurd h (by simp [runsL, stW]), fun h => absurd rfl h⟩
  | i + 1, hi => by
    have ih := long_ok hr hd i (by omega)
    have hne := held_ne hr (show i < ns.length by omega)
    have hnd := st_nodup hr hd (show i ≤ ns.length by omega)
    have hhl := held_len hr (show i ≤ ns.length by omega) (ns := ns)
    have hwl := stW_len r ns i
    show Long r ns.length (i + 1) ((stW r ns i).1.erase (pickL (stW r ns i).1 (stW r ns i).2) ++ (ns.drop (r + i)).take 1) ((stW r ns i).2 ++ [pickL (stW r ns i).1 (stW r ns i).2])
    generalize (stW r ns i).1 = h at *
    generalize (stW r ns i).2 = w at *
    have hdh := (List.nodup_append.mp hnd).2.1
    have hkm := pick_in w hne
    have new : ∀ c, (∀ x ∈ h, c x = true → decide (pickL h w < x) = true ∨ decide (x = pickL h w) = true) → h.countP c ≤ (h.erase (pickL h w) ++ (ns.drop (r + i)).take 1).countP (fun x => decide (pickL h w < x)) + 1 := fun c hc => by
      have a := count_or h hc
      have b := count_self (k := pickL h w) hdh
      rw [List.countP_append, count_erase]
      omega
    by_cases e : w = [] ∨ fitL h w = []
    · -- a new run
      have hall : pickL h w = minI h := by
        unfold pickL
        by_cases e2 : fitL h w = []
        · rw [if_pos e2]
        · rw [if_neg e2]
          have : fitL h w = h := by
            unfold fitL
            rw [List.filter_eq_self]
            intro x _
            rcases e with e | e
            · rw [decide_eq_true e, Bool.true_or]
            · exact absurd e e2
          rw [this]
      have hmin := (minI_ok h hne).2
      have hst : runsL (w ++ [pickL h w]) = runsL w ++ [[pickL h w]] := by
        rw [runs_snoc]
        unfold stepR
        refine if_neg fun z => ?_
        rcases e with e | e
        · exact z.1 (by rw [e]; rfl)
        · have hw : w ≠ [] := fun y => z.1 (by rw [y]; rfl)
          rw [(runs_last _ w rfl hw).2] at z
          unfold fitL at e
          have := List.filter_eq_nil_iff.mp e _ hkm
          rw [decide_eq_true z.2, Bool.or_true] at this
          exact this rfl
      have hc := new (fun _ => true) fun x hx _ => by
        have := hmin x hx
        rw [hall, decide_eq_true_eq, decide_eq_true_eq]
        omega
      rw [List.countP_true] at hc
      refine ⟨fun run hrun => ?_, fun _ => ?_⟩
      · rw [hst, List.dropLast_concat] at hrun
        by_cases hw : w = []
        · rw [hw] at hrun
          exact absurd hrun (by simp [runsL])
        · have hf := e.resolve_left hw
          have hrn := runs_nil hw
          rw [← List.dropLast_concat_getLast hrn] at hrun
          rcases List.mem_append.mp hrun with z | z
          · exact ih.old run z
          · rw [List.mem_singleton.mp z]
            obtain ⟨n1, n2⟩ := ih.now hw
            have hz : h.countP (fun x => decide (lastI w < x)) = 0 := by
              rw [List.countP_eq_zero]
              intro x hx
              unfold fitL at hf
              have := List.filter_eq_nil_iff.mp hf x hx
              rw [decide_eq_false hw, Bool.false_or] at this
              exact this
            have hg : (runsL w).getLast hrn = lastL (runsL w) := by
              unfold lastL
              rw [List.getLastD_eq_getLast?, List.getLast?_eq_some_getLast hrn]
              rfl
            rw [hg]
            omega
      · rw [hst, lastL_snoc, last_snoc, List.length_singleton]
        omega
    · -- the run goes on
      have hw : w ≠ [] := fun z => e (.inl z)
      have hf : fitL h w ≠ [] := fun z => e (.inr z)
      obtain ⟨m1, m2⟩ := minI_ok _ hf
      have hk : pickL h w = minI (fitL h w) := by
        unfold pickL
        rw [if_neg hf]
      have hlt : lastI w < pickL h w := by
        rw [hk]
        have := (List.mem_filter.mp m1).2
        rw [decide_eq_false hw, Bool.false_or, decide_eq_true_eq] at this
        exact this
      have hst : runsL (w ++ [pickL h w]) = (runsL w).dropLast ++ [lastL (runsL w) ++ [pickL h w]] := by
        rw [runs_snoc]
        unfold stepR
        refine if_pos ⟨runs_nil hw, ?_⟩
        rw [(runs_last _ w rfl hw).2]
        exact hlt
      have hc := new (fun x => decide (lastI w < x)) fun x hx hp => by
        have : x ∈ fitL h w := List.mem_filter.mpr ⟨hx, by rw [hp, Bool.or_true]⟩
        have := m2 x this
        rw [← hk] at this
        rw [decide_eq_true_eq, decide_eq_true_eq]
        omega
      obtain ⟨n1, n2⟩ := ih.now hw
      refine ⟨fun run hrun => ?_, fun _ => ?_⟩
      · rw [hst, List.dropLast_concat] at hrun
        exact ih.old run hrun
      · rw [hst, lastL_snoc, last_snoc, List.length_append, List.length_singleton]
        omega
/-! one room, and more room than keys -/
theorem one_room (ns : List Int) : ∀ i, i ≤ ns.length → stW 1 ns i = ((ns.drop i).take 1, ns.take i)
  | 0, _ => by simp [stW]
  | i + 1, hi => by
    have ih := one_room ns i (by omega)
    have hd : (ns.drop i).take 1 = [ns[i]] := by
      rw [List.drop_eq_getElem_cons (show i < ns.length by omega)]
      rfl
    have hp : pickL [ns[i]] (ns.take i) = ns[i] := by
      have := pick_in (ns.take i) (show [ns[i]] ≠ [] by simp)
      exact List.mem_singleton.mp this
    unfold stW
    rw [ih, hd, hp]
    refine Prod.ext ?_ ?_
    · show [ns[i]].erase ns[i] ++ _ = _
      rw [List.erase_cons_head, List.nil_append, Nat.add_comm]
    · show ns.take i ++ [ns[i]] = _
      rw [List.take_append_getElem]
theorem write_one (ns : List Int) : writeL 1 ns = ns := by
  unfold writeL
  rw [one_room ns _ (Nat.le_refl _)]
  exact List.take_length
theorem wide_room {r : Nat} {ns : List Int} (hr : 1 ≤ r) (hn : ns.length ≤ r) (hd : ns.Nodup) : ∀ i, i ≤ ns.length → (stW r ns i).2.Pairwise (· < ·) ∧ ∀ x ∈ (stW r ns i).2, ∀ y ∈ (stW r ns i).1, x < y
  | 0, _ => ⟨List.Pairwise.nil, fun x hx => absurd hx (by simp [stW])⟩
  | i + 1, hi => by
    obtain ⟨h1, h2⟩ := wide_room hr hn hd i (by omega)
    have hne := held_ne hr (show i < ns.length by omega)
    have hnd := st_nodup hr hd (show i ≤ ns.length by omega)
    show ((stW r ns i).2 ++ [pickL (stW r ns i).1 (stW r ns i).2]).Pairwise (· < ·) ∧ ∀ x ∈ (stW r ns i).2 ++ [pickL (stW r ns i).1 (stW r ns i).2], ∀ y ∈ (stW r ns i).1.erase (pickL (stW r ns i).1 (stW r ns i).2) ++ (ns.drop (r + i)).take 1, x < y
    rw [List.drop_of_length_le (show ns.length ≤ r + i by omega), List.take_nil, List.append_nil]
    generalize (stW r ns i).1 = h at *
    generalize (stW r ns i).2 = w at *
    have hdh := (List.nodup_append.mp hnd).2.1
    have hkm := pick_in w hne
    have hfit : fitL h w = h := by
      unfold fitL
      rw [List.filter_eq_self]
      intro x hx
      by_cases hw : w = []
      · rw [decide_eq_true hw, Bool.true_or]
      · have hm : lastI w ∈ w := by
          unfold lastI
          rw [List.getLastD_eq_getLast?, List.getLast?_eq_some_getLast hw]
          exact List.getLast_mem hw
        rw [decide_eq_true (h2 _ hm x hx), Bool.or_true]
    have hk : pickL h w = minI h := by
      unfold pickL
      rw [hfit, if_neg hne]
    have hmin := (minI_ok h hne).2
    refine ⟨?_, fun x hx y hy => ?_⟩
    · rw [List.pairwise_append]
      exact ⟨h1, List.pairwise_singleton _ _, fun a ha b hb => by rw [List.mem_singleton.mp hb]; exact h2 a ha _ hkm⟩
    · have hym := List.mem_of_mem_erase hy
      rcases List.mem_append.mp hx with z | z
      · exact h2 x z y hym
      · rw [List.mem_singleton.mp z]
        have a := hmin y hym
        have b : y ≠ pickL h w := fun c => by
          rw [c] at hy
          exact (List.Nodup.not_mem_erase hdh) hy
        rw [hk] at b ⊢
        omega
theorem runs_asc : ∀ (n : Nat) (w : List Int), w.length = n → w ≠ [] → w.Pairwise (· < ·) → runsL w = [w]
  | 0, w, h, hn, _ => absurd (List.length_eq_zero_iff.mp h) hn
  | n + 1, w, h, _, hp => by
    obtain ⟨v, k, rfl, hv⟩ := snoc_of h
    rw [runs_snoc]
    by_cases e : v = []
    · subst e
      rfl
    · rw [List.pairwise_append] at hp
      have hm : lastI v ∈ v := by
        unfold lastI
        rw [List.getLastD_eq_getLast?, List.getLast?_eq_some_getLast e]
        exact List.getLast_mem e
      have hlt := hp.2.2 _ hm k (List.mem_singleton_self k)
      have hl := (runs_last n v hv e).2
      unfold stepR
      rw [runs_asc n v hv e hp.1] at hl ⊢
      rw [if_pos ⟨by simp, by rw [hl]; exact hlt⟩]
      rfl

section
variable {P : Program} {w : World} {K : PySem.W.Frag} {mg : Str → Option Value} {base : Heap} {A : Ad}

/-! the law's own defs -/
theorem ints_dp (K : PySem.W.Frag) (H : Hp) : ∀ ns : List Int, DpAll K H (ns.map V.int) (ns.map PyData.int)
  | [] => .nil
  | n :: ns => .cons (.int n) (ints_dp K H ns)
theorem emp_eqv : ∀ ns : List Int, PyData.eqv (.list (ns.map PyData.int)) (.list []) = decide (ns = [])
  | [] => by rfl
  | n :: ns => by rfl
theorem shaped_ints (ns : List Int) : SeqAt.shaped (.list (ns.map PyData.int)) = true := by
  have h1 : ∀ ms : List Int, PyData.canLayAll0 (ms.map PyData.int) = true := fun ms => by
    induction ms with
    | nil => rfl
    | cons m ms ih => rw [List.map_cons, PyData.canLayAll0, ih]; rfl
  have h2 : ∀ ms : List Int, PyData.depthAll (ms.map PyData.int) ≤ 1 := fun ms => by
    induction ms with
    | nil => simp [PyData.depthAll]
    | cons m ms ih =>
      simp only [List.map_cons, PyData.depthAll, PyData.depth]
      omega
  have h3 : PyData.depth (.list (ns.map PyData.int)) ≤ 64 := by
    have := h2 ns
    simp only [PyData.depth]
    omega
  unfold SeqAt.shaped
  rw [decide_eq_true h3, Bool.and_true]
  simp only [PyData.canLay0]
  exact h1 ns
theorem cut63 (xs : List V) (h : xs.length ≤ 63) : cutV xs none (some 63) = xs := by
  unfold cutV
  rw [HT.sIx_none, show (63 : Int) = ((63 : Nat) : Int) from rfl, HT.sIx_nat, List.drop_zero, Nat.min_eq_right h, Nat.sub_zero, List.take_length]
def spNum (K : PySem.W.Frag) : Sp := fun vs H Q _ => ∃ (a : Addr) (ns : List Int) (i : Nat), vs = [.ref a, .int i] ∧ SqL K H a (ns.map V.int) ∧ ns.length ≤ 63 ∧ i < 1000000 ∧ ∀ H' r, Same H H' → Q (.int r) H'
theorem ok_num (T : Tx K mg A) : FnOk P w K mg base CX0 2 A.f__law_number A.d__law_number ["script", "index"] (spNum K) := by
  refine T.F__law_number.ok sc__law_number (fun vs H Q E h => ?_) (fun cdv B outer s H vs Q E hr h => ?_)
  · obtain ⟨a, ns, i, rfl, _⟩ := h
    rfl
  · obtain ⟨a, ns, i, rfl, ha, hl, hi, q⟩ := h
    have nd := sc__law_number.nd
    have hu := hr.units
    refine ⟨_, C8.pss_cut (ps_set (i := 2) nd rfl (Or.inl rfl) (pe_ifExp (pt_cmpR (op_neD hu) (pv 0) (pe_lst pa_nil) (nomark _)) (pe_slice sl_list (pv 0) po_none (po_some pe_int)) (pe_lst (pa_cons pe_int pa_nil))))
      (pss_cons (ps_set (i := 3) nd rfl (Or.inl rfl) (pe_op op_add
        (pe_ix ix_list (pv 2) (pe_op op_mod (pe_callTy call_int1 (by rfl) T.g_int (by decide +kernel) (pa_cons (pv 1) pa_nil)) (pe_callB call_len_seq (by rfl) T.g_len PySem.boot_len (pa_cons (pv 2) pa_nil))) (fun _ _ => rfl))
        (pe_op op_mul pe_int (pe_op op_fdivN (pv 1) (pe_callB call_len_seq (by rfl) T.g_len PySem.boot_len (pa_cons (pv 2) pa_nil))))))
      (pss_cons (ps_par (i := 4) (j := 5) rfl nd rfl rfl (by decide) rfl rfl (pa_cons (pe_op op_mod (pe_callTy call_int1 (by rfl) T.g_int (by decide +kernel) (pa_cons (pv 3) pa_nil)) pe_int)
          (pa_cons (pe_op op_mod (pe_callTy call_int1 (by rfl) T.g_int (by decide +kernel) (pa_cons (pe_op op_fdivN (pv 3) pe_int) pa_nil)) pe_int) pa_nil)) rfl)
      (pss_cons (ps_set (i := 6) nd rfl (Or.inl rfl) (pe_op op_mod (pe_callTy call_int1 (by rfl) T.g_int (by decide +kernel) (pa_cons (pe_callB (cr_sum rfl) (by rfl) T.g_sum (by decide +kernel) (pa_cons (pv 2) pa_nil)) pa_nil)) pe_int))
      (pss_cons (ps_set (i := 7) nd rfl (Or.inl rfl) (pe_op op_mod (pe_callTy call_int1 (by rfl) T.g_int (by decide +kernel) (pa_cons
          (pe_op op_add (pe_op op_add (pe_op op_mul (pe_op op_add (pv 4) (pe_op op_mul pe_int (pv 1))) pe_int) (pe_op op_mul pe_int (pv 5))) (pv 6)) pa_nil)) pe_int))
      (pss_one (ps_ret (pe_op op_add (pe_op op_mul (pe_op op_mod (pe_callTy call_int1 (by rfl) T.g_int (by decide +kernel) (pa_cons
          (pe_op op_mul (pv 7) (pe_op op_add (pe_op op_add (pv 7) (pe_op op_mul pe_int (pv 1))) pe_int)) pa_nil)) pe_int) pe_int) (pv 5)))))))), ?_⟩
    refine ⟨fun σ H1 => ∃ (c : Addr) (cs : List Int), σ = [some (.ref a), some (.int i), some (.ref c), none, none, none, none, none] ∧ Same H H1 ∧ H1 c = some (.lst (cs.map V.int)) ∧ 0 < cs.length ∧ cs.length ≤ 63, ?_, ?_⟩
    · refine ⟨_, rfl, Nat.zero_le _, fun l0 hl0 => ?_⟩
      have hs0 : Same H (upd H l0 (.lst [])) := Same.up hl0
      refine ⟨.list (ns.map PyData.int), .list [], .lst (hs0.seq ha) (ints_dp _ _ _), .lst (SqL.of upd_same) .nil, ?_, rfl, _, rfl, ?_⟩
      · exact shaped_ints _
      · rw [emp_eqv]
        by_cases e : ns = []
        · rw [decide_eq_true e]
          refine iteF ⟨by show 1 ≤ sizeLine; decide, fun l1 hl1 => ⟨l1, [5], rfl, hs0.trans (Same.up hl1), upd_same, by decide, by decide⟩⟩
        · rw [decide_eq_false e]
          refine iteT ⟨_, rfl, _, rfl, a, _, rfl, hs0.seq ha, fun l1 hl1 => ⟨l1, ns, rfl, hs0.trans (Same.up hl1), ?_, ?_, hl⟩⟩
          · rw [upd_same]
            exact congrArg (fun z => some (HO.lst z)) (cut63 _ (by rw [List.length_map]; exact hl))
          · exact List.length_pos_iff.mpr e
    · rintro σ H1 ⟨c, cs, rfl, s1, hc, h0, h63⟩
      have hq := SqL.of (K := K) hc
      have hL : ((cs.map V.int).length : Int) = (cs.length : Int) := by rw [List.length_map]
      have hm0 : 0 ≤ (i : Int) % (cs.length : Int) := Int.emod_nonneg _ (by omega)
      have hm1 : (i : Int) % (cs.length : Int) < (cs.length : Int) := Int.emod_lt_of_pos _ (by omega)
      obtain ⟨j, hj⟩ : ∃ j : Nat, (i : Int) % (cs.length : Int) = (j : Int) := ⟨_, (Int.toNat_of_nonneg hm0).symm⟩
      have hjl : j < cs.length := by omega
      have hat : atI (cs.map V.int) ((i : Int) % ((cs.map V.int).length : Int)) = some (V.int cs[j]) := by
        rw [hL, hj]
        exact atI_nat (by rw [List.getElem?_map, List.getElem?_eq_getElem hjl]; rfl)
      refine ⟨_, rfl, _, rfl, .inl ⟨_, rfl, _, rfl, c, _, rfl, .inl hq, _, _, rfl, rfl, ?_, c, _, _, _, rfl, rfl, hq, hat, _, rfl, _, rfl, c, _, rfl, .inl hq, _, _, rfl, rfl, ⟨?_, ?_⟩, _, _, rfl, rfl, .inl ⟨by decide, by decide⟩, _, _, rfl, rfl, ?_⟩⟩
      · show (0 : Int) < ((cs.map V.int).length : Int)
        omega
      · omega
      · omega
      · refine ⟨_, rfl, .inl ⟨_, rfl, _, _, rfl, rfl, by show (0 : Int) < 1000003; decide, ?_⟩⟩
        refine ⟨_, rfl, _, _, rfl, rfl, ⟨by decide, by decide⟩, .inl ⟨_, rfl, _, _, rfl, rfl, by show (0 : Int) < 999983; decide, _, _, rfl, ?_⟩⟩
        refine ⟨_, rfl, c, cs, rfl, hq, .inl ⟨_, rfl, _, _, rfl, rfl, by show (0 : Int) < 65521; decide, ?_⟩⟩
        refine ⟨_, rfl, _, rfl, _, _, rfl, rfl, .inl ⟨by decide, by decide⟩, _, _, rfl, rfl, _, _, rfl, rfl, .inr ⟨by decide, by decide⟩, ?_⟩
        refine ⟨_, rfl, _, _, rfl, rfl, .inl ⟨by decide, by decide⟩, _, _, rfl, rfl, _, rfl, _, _, rfl, rfl, .inl ⟨_, rfl, _, _, rfl, rfl, by show (0 : Int) < 2147483647; decide, ?_⟩⟩
        refine ⟨_, rfl, _, rfl, _, rfl, _, _, rfl, rfl, .inl ⟨by decide, by decide⟩, _, _, rfl, rfl, _, _, rfl, rfl, _, _, rfl, rfl, .inl ⟨?_, ?_⟩, .inl ⟨_, rfl, _, _, rfl, rfl, by show (0 : Int) < 2147483629; decide, ?_⟩⟩
        · have := Int.emod_nonneg ((((cs[j] + 13 * Int.fdiv (i : Int) ((cs.map V.int).length : Int)) % 1000003 + 977 * (i : Int)) * 48271 + 31 * (Int.fdiv (cs[j] + 13 * Int.fdiv (i : Int) ((cs.map V.int).length : Int)) 1000003 % 999983)) + cs.sum % 65521) (show (2147483647 : Int) ≠ 0 by decide)
          omega
        · have := Int.emod_lt_of_pos ((((cs[j] + 13 * Int.fdiv (i : Int) ((cs.map V.int).length : Int)) % 1000003 + 977 * (i : Int)) * 48271 + 31 * (Int.fdiv (cs[j] + 13 * Int.fdiv (i : Int) ((cs.map V.int).length : Int)) 1000003 % 999983)) + cs.sum % 65521) (show (0 : Int) < 2147483647 by decide)
          omega
        · exact ⟨_, _, rfl, rfl, .inr ⟨by decide, by decide⟩, _, rfl, _, _, rfl, rfl, q _ _ s1⟩
theorem b_num (T : Tx K mg A) : L2.Binds K A.d__law_number ["script", "index"] [] := T.F__law_number.binds fun _ _ _ _ _ _ us hl => match us, hl with | [_, _], _ => rfl

theorem sorted_one {xs ys : List Int} (hp : xs.Perm ys) (h1 : xs.Pairwise (· ≤ ·)) (h2 : ys.Pairwise (· ≤ ·)) : xs = ys := List.Perm.eq_of_pairwise (fun x y _ _ h1 h2 => Int.le_antisymm h1 h2) h1 h2 hp
theorem cr_or {X : Cx} {f : Value} {r1 r2 : List V → Hp → VK → Prop} (h1 : CallR X f r1) (h2 : CallR X f r2) : CallR X f (fun vs H Q => r1 vs H Q ∨ r2 vs H Q) := by
  intro pins s σ H vs us Q I rv h
  rcases h with h | h
  · exact h1 pins s σ H vs us Q I rv h
  · exact h2 pins s σ H vs us Q I rv h
theorem pos_of_mem {u : Int} : ∀ {l : List Int}, u ∈ l → ∃ j, l[j]? = some u ∧ (∀ m : Nat, m < j → l[m]? ≠ some u) ∧ l.eraseIdx j = l.erase u
  | [], h => nomatch h
  | a :: l, h => by
    by_cases e : a = u
    · subst e
      exact ⟨0, rfl, fun m hm => absurd hm (Nat.not_lt_zero _), (List.erase_cons_head ..).symm⟩
    · have hm : u ∈ l := by
        rcases List.mem_cons.mp h with y | y
        · exact absurd y.symm e
        · exact y
      obtain ⟨j, h1, h2, h3⟩ := pos_of_mem hm
      refine ⟨j + 1, h1, fun m hm => ?_, ?_⟩
      · cases m with
        | zero =>
          intro z
          exact e (Option.some.inj z)
        | succ m => exact h2 m (by omega)
      · rw [List.erase_cons_tail (by simpa using e), ← h3]
        rfl
theorem sort_sq {K : PySem.W.Frag} {H : Hp} {r : Addr} {ks : List Int} {Q : VK} (h : Sq H r (ks.map V.int)) (q : ∀ (ns' : List Int) (p : Addr), ns'.Perm ks → ns'.Pairwise (· ≤ ·) → H p = none → Q (.ref p) (upd H p (.lst (ns'.map V.int)))) : rSortedI K [.ref r] H Q ∨ rSortedTu K [.ref r] H Q := by
  rcases h with h | h
  · exact .inl ⟨r, ks, rfl, SqL.of h, q⟩
  · exact .inr ⟨r, ks, rfl, SqT.of h, q⟩
theorem refl_of {d : PyData} (h : SeqAt.shaped d = true) : PyData.eqv d d = true := PySem.SeqAt.eqv_refl d (SeqAt.canLay_of_shaped h)
/-- a tuple of keys at an address -/
def RowAt (H : Hp) (v : V) (l : List Int) : Prop := ∃ t, v = .ref t ∧ H t = some (.tup (l.map V.int))
abbrev RowsAt (H : Hp) : List V → List (List Int) → Prop := Paired (RowAt H)
theorem RowsAt.same {H H' : Hp} {xs : List V} {ls : List (List Int)} (h : RowsAt H xs ls) (s : Same H H') : RowsAt H' xs ls := L2.Paired.mapP h fun _ _ ⟨t, e, z⟩ => ⟨t, e, s _ _ z⟩
theorem RowsAt.push {H : Hp} {x : V} {l : List Int} (hp : RowAt H x l) : ∀ {xs : List V} {ls : List (List Int)}, RowsAt H xs ls → RowsAt H (xs ++ [x]) (ls ++ [l])
  | _, _, .nil => .cons hp .nil
  | _, _, .cons a b => .cons a (RowsAt.push hp b)
theorem RowsAt.put {H : Hp} {D : Addr} {xs zs ys : List V} {ls : List (List Int)} (hD : H D = some (.lst zs)) (h : RowsAt H xs ls) : RowsAt (upd H D (.lst ys)) xs ls :=
  L2.Paired.mapP h fun _ _ ⟨t, e, z⟩ => ⟨t, e, by rw [upd_ne (ne_of z hD (by intro q; cases q))]; exact z⟩
theorem RowsAt.get {H : Hp} : ∀ {xs : List V} {ls : List (List Int)} {i : Nat} {x : V}, RowsAt H xs ls → xs[i]? = some x → ∃ hi : i < ls.length, RowAt H x ls[i]
  | _, _, 0, _, .cons a _, e => ⟨Nat.succ_pos _, by rw [← Option.some.inj e]; exact a⟩
  | _, _, i + 1, _, .cons _ b, e => by
    obtain ⟨hi, r⟩ := RowsAt.get b (by simpa using e)
    exact ⟨Nat.succ_lt_succ hi, r⟩
structure AccR (H1 : Hp) (D : Addr) (ls : List (List Int)) (H : Hp) : Prop where
  s : Same H1 H
  n : H1 D = Option.none
  a : ∃ xs, H D = some (.lst xs) ∧ RowsAt H xs ls
theorem AccR.start {H1 : Hp} {D : Addr} (n : H1 D = none) : AccR H1 D [] (upd H1 D (.lst [])) := ⟨Same.up n, n, [], upd_same, .nil⟩
theorem AccR.same {H1 H H' : Hp} {D : Addr} {ls : List (List Int)} (h : AccR H1 D ls H) (s : Same H H') : AccR H1 D ls H' := ⟨h.s.trans s, h.n, let ⟨xs, e, z⟩ := h.a; ⟨xs, s _ _ e, z.same s⟩⟩
theorem AccR.push {H1 H : Hp} {D : Addr} {ls : List (List Int)} {x : V} {l : List Int} (h : AccR H1 D ls H) (hp : RowAt H x l) (hl : ls.length < sizeLine) :
    ∃ acc, H D = some (.lst acc) ∧ acc.length < sizeLine ∧ AccR H1 D (ls ++ [l]) (upd H D (.lst (acc ++ [x]))) := by
  obtain ⟨xs, e, z⟩ := h.a
  refine ⟨xs, e, by rw [z.length]; exact hl, fun b o k => ?_, h.n, xs ++ [x], upd_same, (RowsAt.push hp z).put e⟩
  rw [upd_ne (ne_of_none k h.n)]
  exact h.s b o k
theorem era_map : ∀ (l : List Int) (i : Nat), (l.map V.int).eraseIdx i = (l.eraseIdx i).map V.int
  | [], _ => rfl
  | _ :: _, 0 => rfl
  | a :: l, i + 1 => by
    rw [List.map_cons, List.eraseIdx_cons_succ, List.eraseIdx_cons_succ, List.map_cons, era_map l i]
theorem RowsAt.app {H : Hp} : ∀ {xs ys : List V} {ls ms : List (List Int)}, RowsAt H xs ls → RowsAt H ys ms → RowsAt H (xs ++ ys) (ls ++ ms)
  | _, _, _, _, .nil, h => h
  | _, _, _, _, .cons a b, h => .cons a (RowsAt.app b h)
theorem map_one (l : List Int) (x : Int) : l.map V.int ++ [V.int x] = (l ++ [x]).map V.int := by rw [List.map_append]; rfl
theorem ints_tup (K : PySem.W.Frag) {H : Hp} {a : Addr} {ks : List Int} (h : H a = some (.tup (ks.map V.int))) : Dp K H (.ref a) (.tuple (ks.map PyData.int)) := .tup (SqT.of h) (ints_dp K H ks)
theorem ints_shT (ks : List Int) : SeqAt.shaped (.tuple (ks.map PyData.int)) = true := by
  have h := shaped_ints ks
  unfold SeqAt.shaped at h ⊢
  simp only [PyData.canLay0, PyData.depth] at h ⊢
  exact h
theorem ints_all : ∀ ks ms : List Int, PyData.eqvAll (ks.map PyData.int) (ms.map PyData.int) = decide (ks = ms)
  | [], [] => by simp [PyData.eqvAll]
  | [], m :: ms => by simp [PyData.eqvAll]
  | k :: ks, [] => by simp [PyData.eqvAll]
  | k :: ks, m :: ms => by
    simp only [List.map_cons, PyData.eqvAll, ints_all ks ms, PyData.eqv]
    by_cases h1 : k = m
    · by_cases h2 : ks = ms <;> simp [h1, h2]
    · simp [h1]
/-- tuples of keys as data -/
abbrev rowD (r : List Int) : PyData := .tuple (r.map .int)
theorem rowD_dp {H : Hp} {v : V} {r : List Int} (h : RowAt H v r) : Dp K H v (rowD r) := by
  obtain ⟨t, rfl, e⟩ := h
  exact ints_tup K e
theorem rowsD_dp {H : Hp} : ∀ {xs : List V} {ls : List (List Int)}, RowsAt H xs ls → DpAll K H xs (ls.map rowD)
  | _, _, .nil => .nil
  | _, _, .cons a b => .cons (rowD_dp a) (rowsD_dp b)
theorem rowD_eqv (r q : List Int) : PyData.eqv (rowD r) (rowD q) = decide (r = q) := by
  rw [← ints_all]
  simp [PyData.eqv]
theorem rowsD_lay : ∀ ls : List (List Int), PyData.canLayAll0 (ls.map rowD) = true
  | [] => rfl
  | r :: ls => by
    have h := SeqAt.canLay_of_shaped (ints_shT r)
    rw [List.map_cons, PyData.canLayAll0, rowsD_lay ls, Bool.and_true]
    exact h
theorem rowsD_deep : ∀ ls : List (List Int), PyData.depthAll (ls.map rowD) ≤ 3
  | [] => by simp [PyData.depthAll]
  | r :: ls => by
    have := rowsD_deep ls
    have hp : PyData.depth (rowD r) ≤ 3 := by simp [rowD, PyData.depth, PySem.W.depth_ints]
    simp only [List.map_cons, PyData.depthAll]
    omega
theorem rowsD_shaped (ls : List (List Int)) : SeqAt.shaped (.list (ls.map rowD)) = true := by
  have := rowsD_deep ls
  unfold SeqAt.shaped
  rw [Bool.and_eq_true]
  refine ⟨?_, decide_eq_true ?_⟩
  · simp only [PyData.canLay0]
    exact rowsD_lay ls
  · simp only [PyData.depth]
    omega
theorem rowsD_all : ∀ ls ms : List (List Int), PyData.eqvAll (ls.map rowD) (ms.map rowD) = decide (ls = ms)
  | [], [] => by simp [PyData.eqvAll]
  | [], q :: qs => by simp [PyData.eqvAll]
  | p :: ps, [] => by simp [PyData.eqvAll]
  | p :: ps, q :: qs => by
    simp only [List.map_cons, PyData.eqvAll, rowsD_all ps qs]
    rw [rowD_eqv]
    by_cases h1 : p = q
    · by_cases h2 : ps = qs <;> simp [h1, h2]
    · simp [h1]
theorem rowsL_eqv (ls ms : List (List Int)) : PyData.eqv (.list (ls.map rowD)) (.list (ms.map rowD)) = decide (ls = ms) := by
  rw [← rowsD_all]
  simp [PyData.eqv]
theorem pi_or {X : Cx} {tg e : Expr} {w1 w2 : TI} (h1 : PI X tg e w1) (h2 : PI X tg e w2) : PI X tg e (fun σ H R => w1 σ H R ∨ w2 σ H R) :=
  ⟨fun pins s σ H R I h => h.elim (h1.run pins s σ H R I) (h2.run pins s σ H R I)⟩
abbrev rLn (K : PySem.W.Frag) : List V → Hp → VK → Prop := fun xs H Q => ∃ p ys, xs = [.ref p] ∧ (SqL K H p ys ∨ SqT K H p ys) ∧ Q (.int ys.length) H
theorem repl_all (n : Nat) : (List.replicate n true).all id = true := by
  rw [List.all_eq_true]
  intro x hx
  rw [(List.mem_replicate.mp hx).2]
  rfl
theorem seq_isi {K : PySem.W.Frag} {H : Hp} {a : Addr} {xs : List V} (h : Sq H a xs) : ∃ c b1, TyX K H (.ref a) (.type c) ∧ PySem.W.kitOne K (.type c) (.type "list") = some b1 ∧ (b1 = false → PySem.W.kitOne K (.type c) (.type "tuple") = some true) := by
  rcases h with h | h
  · exact ⟨"list", true, .base (.lst h), kit_ty (by decide +kernel), fun z => by cases z⟩
  · exact ⟨"tuple", false, .base (.tup h), kit_ty (by decide +kernel), fun _ => kit_ty (by decide +kernel)⟩
def muL (L : Addr) (H : Hp) : Nat := match H L with
  | some (.lst xs) => xs.length
  | _ => 0
theorem muL_at {L : Addr} {H : Hp} {xs : List V} (h : H L = some (.lst xs)) : muL L H = xs.length := by
  unfold muL
  rw [h]
theorem at_last {xs : List V} (h : 0 < xs.length) : atI xs (-1) = some xs[xs.length - 1] := by
  unfold atI ixN
  rw [if_neg (by omega), if_pos (by omega), show ((-1 : Int) + (xs.length : Nat)).toNat = xs.length - 1 by omega]
  exact List.getElem?_eq_getElem (by omega)
end
end Tw

set_option Elab.async false
set_option linter.all false
set_option maxRecDepth 100000
set_option maxHeartbeats 2000000
namespace Tw
open PySem PySem.Spec PyProof.Rows L2
section
variable {P : Program} {w : World} {K : PySem.W.Frag} {mg : Str → Option Value} {base : Heap} {A : Ad}
/-! the program's own defs -/
def tTruK (K : PySem.W.Frag) (ta : TE) : TT := fun σ H Q => ta σ H fun x H' => ∃ k, TruV K x H' k ∧ Q k H'
theorem pt_truK {X : Cx} {K : PySem.W.Frag} {a : Expr} {ta : TE} (hK : X.K = K) (ha : PE X a ta) (he : ∀ whole, isTrue a X.env whole = (do let v ← whole; standAt a.pos; holding [v] (truthy v))) : PT X a (tTruK K ta) := by
  subst hK
  exact pt_truth ha he
def spCr : Sp := fun vs H Q _ => ∃ r : Nat, vs = [.int r] ∧ (1 ≤ r ∧ r ≤ 12) ∧ Q .non H
theorem ok_cr (T : Tx K mg A) : FnOk P w K mg base CX0 3 A.f_check_room A.d_check_room ["room"] spCr := by
  refine T.F_check_room.ok sc_check_room (fun vs H Q E h => ?_) (fun cdv B outer s H vs Q E hr h => ?_)
  · obtain ⟨r, rfl, _⟩ := h
    rfl
  · obtain ⟨r, rfl, hi, q⟩ := h
    obtain ⟨t, hg⟩ := cst T.c_MOST_ROOM
    refine ⟨_, (pss_one (ps_if (pt_not (pt_val (pe_call (ok_ii T) (hr.mono (by decide)) (by rfl) T.m_is_integer_from T.F_is_integer_from.kp (b_ii T) .nil pass0 (pa_cons (pv 0) (pa_cons pe_int (pa_cons (pe_glob (by rfl) hg (relI _ _)) pa_nil)))))) (pss_one ps_never) pss_nil)), ?_⟩
    refine ⟨_, rfl, _, _, _, rfl, .inl ⟨r, rfl, _, rfl, ?_⟩⟩
    rw [decide_eq_true (show (1 : Int) ≤ (r : Nat) ∧ ((r : Nat) : Int) ≤ 12 by omega)]
    exact iteF q
theorem b_cr (T : Tx K mg A) : L2.Binds K A.d_check_room ["room"] [] := T.F_check_room.binds fun _ _ _ _ _ _ us hl => match us, hl with | [_], _ => rfl
theorem ints_flat : ∀ p : List Int, (p.map V.int).all flatV = true
  | [] => rfl
  | a :: p => by
    show (flatV (V.int a) && (p.map V.int).all flatV) = true
    rw [ints_flat p]
    rfl
theorem inV_ints (m : Int) : ∀ p : List Int, inV (V.int m) (p.map V.int) = decide (m ∈ p)
  | [] => by simp [inV]
  | a :: p => by
    have ih := inV_ints m p
    unfold inV at ih ⊢
    show (eqV (V.int a) (V.int m) || (p.map V.int).any fun y => eqV y (V.int m)) = _
    rw [ih]
    by_cases h : m = a
    · subst h
      rw [show eqV (V.int m) (V.int m) = true from decide_eq_true rfl, Bool.true_or, decide_eq_true List.mem_cons_self]
    · rw [show eqV (V.int a) (V.int m) = false from decide_eq_false (fun z => h z.symm), Bool.false_or]
      exact decide_eq_decide.mpr ⟨fun z => List.mem_cons_of_mem _ z, fun z => (List.mem_cons.mp z).resolve_left h⟩
theorem icut (p : List Int) (i : Nat) : cutV (p.map V.int) none (some (i : Int)) = (p.take i).map V.int := by
  unfold cutV
  rw [HT.sIx_none, HT.sIx_nat, List.drop_zero, Nat.sub_zero, List.length_map, List.map_take]
  by_cases h : i ≤ p.length
  · rw [Nat.min_eq_left h]
  · rw [List.take_of_length_le (show (p.map V.int).length ≤ min i p.length by rw [List.length_map]; omega), List.take_of_length_le (show (p.map V.int).length ≤ i by rw [List.length_map]; omega)]
theorem icut2 (p : List Int) (i j : Nat) (h : i ≤ j) : cutV (p.map V.int) (some (i : Int)) (some (j : Int)) = ((p.drop i).take (j - i)).map V.int := by
  unfold cutV
  rw [HT.sIx_nat, HT.sIx_nat, List.length_map]
  by_cases h1 : i ≤ p.length
  · rw [Nat.min_eq_left h1, List.map_take, List.map_drop]
    by_cases h2 : j ≤ p.length
    · rw [Nat.min_eq_left h2]
    · rw [Nat.min_eq_right (by omega), List.take_of_length_le (by rw [List.length_drop, List.length_map]; exact Nat.le_refl _), List.take_of_length_le (by rw [List.length_drop, List.length_map]; omega)]
  · rw [show (p.map V.int).drop (min i p.length) = [] from List.drop_of_length_le (by rw [List.length_map]; omega), List.drop_of_length_le (show p.length ≤ i by omega)]
    simp
def spCd : Sp := fun vs H Q _ => ∃ (a : Addr) (ns : List Int), vs = [.ref a] ∧ H a = some (.tup (ns.map V.int)) ∧ ns.Nodup ∧ ∀ H', Same H H' → Q .non H'
theorem ok_cd (T : Tx K mg A) : FnOk P w K mg base CX0 1 A.f_check_different A.d_check_different ["keys"] spCd := by
  refine T.F_check_different.ok sc_check_different (fun vs H Q E h => ?_) (fun cdv B outer s H vs Q E hr h => ?_)
  · obtain ⟨a, ns, rfl, _⟩ := h
    rfl
  · obtain ⟨a, ns, rfl, ha, hd, q⟩ := h
    have nd := sc_check_different.nd
    refine ⟨_, (pss_one (ps_for PassesOwn.never rfl (pi_enS (by rfl) T.g_enumerate (pa_cons (pv 0) pa_nil)) (pg_tup rfl (pgs_cons (pg_name (i := 1) nd rfl (Or.inl rfl)) (pgs_cons (pg_name (i := 2) nd rfl (Or.inl rfl)) pgs_nil))) (pss_one (ps_if (pt_cmpR (r := L2.rIn K false) op_in_seq (pv 2) (pe_slice (r := rSlT K) sl_tup (pv 0) po_none (po_some (pv 1))) (by rfl)) (pss_one ps_never) pss_nil)))), ?_⟩
    refine ⟨_, rfl, a, _, rfl, .inr ⟨SqT.of ha, for_it (walk_enumT (xs := ns.map V.int)) (fun i σ H' => ∃ z y, σ = [some (.ref a), z, y] ∧ Same H H') ⟨none, none, rfl, Same.refl _⟩ (fun i σ H' _ ⟨_, _, _, s⟩ => SqT.of (s _ _ ha)) ?_ ?_⟩⟩
    · rintro i v σ H2 H3 hi ⟨z, y, rfl, s⟩ ⟨T', x, x2, rfl, hT, rfl, e1, e2⟩
      obtain ⟨hi', rfl⟩ := ints_at e2
      cases e1
      have s3 := s.trans (Same.up (o := .tup [V.int (i : Nat), V.int ns[i]]) hT)
      refine ⟨_, _, rfl, SqT.of upd_same, rfl, _, _, rfl, _, _, rfl, rfl, ?_⟩
      generalize upd H2 T' (.tup [V.int (i : Nat), V.int ns[i]]) = G at s3
      refine ⟨_, rfl, _, rfl, _, rfl, _, rfl, a, _, rfl, SqT.of (s3 _ _ ha), (fun z => by have z2 := z.2; rw [HT.sIx_nat, List.length_map] at z2; omega), fun p2 hp2 => ?_⟩
      rw [icut]
      refine ⟨p2, _, rfl, .inr (SqT.of upd_same), rfl, ints_flat _, _, rfl, ?_⟩
      rw [if_neg Bool.false_ne_true, inV_ints]
      have hn : ns[i] ∉ ns.take i := fun hm => by
        have := hd
        rw [← List.take_append_drop i ns, List.drop_eq_getElem_cons hi'] at this
        exact (List.nodup_append.mp this).2.2 _ hm _ List.mem_cons_self rfl
      rw [decide_eq_false hn]
      exact iteF ⟨_, _, rfl, s3.trans (Same.up hp2)⟩
    · rintro σ H2 ⟨z, y, rfl, s⟩
      exact q _ s
theorem b_cd (T : Tx K mg A) : L2.Binds K A.d_check_different ["keys"] [] := T.F_check_different.binds fun _ _ _ _ _ _ us hl => match us, hl with | [_], _ => rfl
def KeysIn (ns : List Int) : Prop := ns.length ≤ 12 ∧ (∀ n ∈ ns, -1000000000 ≤ n ∧ n ≤ 1000000000) ∧ ns.Nodup
def spIo (K : PySem.W.Frag) : Sp := fun vs H Q _ => ∃ (a : Addr) (ns : List Int), vs = [.ref a] ∧ Sq H a (ns.map V.int) ∧ KeysIn ns ∧ ∀ H' p, Same H H' → H' p = some (.tup (ns.map V.int)) → Q (.ref p) H'
theorem ok_io (T : Tx K mg A) : FnOk P w K mg base CX0 5 A.f_input_of A.d_input_of ["row"] (spIo K) := by
  refine T.F_input_of.ok sc_input_of (fun vs H Q E h => ?_) (fun cdv B outer s H vs Q E hr h => ?_)
  · obtain ⟨a, ns, rfl, _⟩ := h
    rfl
  · obtain ⟨a, ns, rfl, ha, ⟨h12, hb, hd⟩, q⟩ := h
    have nd := sc_input_of.nd
    refine ⟨_, (pss_cons (ps_set (i := 1) nd rfl (Or.inl rfl) (pe_call (ok_row T) (hr.mono (by decide)) (by rfl) T.m_row_of T.F_row_of.kp (b_row T) .nil pass0 (pa_cons (pv 0) pa_nil)))
      (pss_cons (ps_expr (pe_call (ok_cd T) (hr.mono (by decide)) (by rfl) T.m_check_different T.F_check_different.kp (b_cd T) .nil pass0 (pa_cons (pv 1) pa_nil)))
      (pss_one (ps_ret (pv 1))))), ?_⟩
    refine ⟨_, rfl, a, ns, rfl, ha, h12, hb, fun H1 p s1 ep => ?_⟩
    exact ⟨_, rfl, p, ns, rfl, ep, hd, fun H2 s2 => ⟨_, rfl, q _ p (s1.trans s2) (s2 _ _ ep)⟩⟩
theorem b_io (T : Tx K mg A) : L2.Binds K A.d_input_of ["row"] [] := T.F_input_of.binds fun _ _ _ _ _ _ us hl => match us, hl with | [_], _ => rfl

end
end Tw

set_option Elab.async false
set_option linter.all false
set_option maxRecDepth 100000
set_option maxHeartbeats 2000000
namespace Tw
open PySem PySem.Spec PyProof.Rows L2
section
variable {P : Program} {w : World} {K : PySem.W.Frag} {mg : Str → Option Value} {base : Heap} {A : Ad}
theorem ix_lst {K : PySem.W.Frag} {H : Hp} {q : Addr} {xs : List V} (h : H q = some (.lst xs)) (hn : 0 < xs.length) : ∃ p ys i z, (V.ref q : V) = .ref p ∧ (V.int (-1) : V) = .int i ∧ SqL K H p ys ∧ atI ys i = some z ∧ z = xs[xs.length - 1] :=
  ⟨q, xs, -1, _, rfl, rfl, SqL.of h, at_last hn, rfl⟩
theorem rows_last {H : Hp} {xs : List V} {rs : List (List Int)} (r : RowsAt H xs rs) (hn : rs ≠ []) : ∃ (hx : 0 < xs.length) (t : Addr), xs[xs.length - 1] = .ref t ∧ H t = some (.tup ((lastL rs).map V.int)) := by
  have hl := Paired.length r
  have hp := List.length_pos_iff.mpr hn
  have hx : 0 < xs.length := by omega
  obtain ⟨hi, t, e1, e2⟩ := RowsAt.get r (List.getElem?_eq_getElem (show xs.length - 1 < xs.length by omega))
  refine ⟨hx, t, e1, ?_⟩
  have : rs[xs.length - 1] = lastL rs := by
    unfold lastL
    rw [List.getLastD_eq_getLast?, List.getLast?_eq_some_getLast hn, List.getLast_eq_getElem]
    simp only [hl]
    rfl
  rw [← this]
  exact e2
theorem lastI_at {l : List Int} (hn : l ≠ []) : atI (l.map V.int) (-1) = some (V.int (lastI l)) := by
  have hp := List.length_pos_iff.mpr hn
  rw [at_last (by rw [List.length_map]; exact hp)]
  congr 1
  rw [List.getElem_map]
  congr 1
  unfold lastI
  rw [List.getLastD_eq_getLast?, List.getLast?_eq_some_getLast hn, List.getLast_eq_getElem]
  simp only [List.length_map]
  rfl
/-- no run is empty -/
theorem runs_pos : ∀ (n : Nat) (w : List Int), w.length = n → ∀ run ∈ runsL w, run ≠ []
  | 0, w, h, run, hr => by
    rw [List.length_eq_zero_iff.mp h] at hr
    exact absurd hr (by simp [runsL])
  | n + 1, w, h, run, hr => by
    obtain ⟨v, k, rfl, hv⟩ := snoc_of h
    rw [runs_snoc] at hr
    unfold stepR at hr
    by_cases c : runsL v ≠ [] ∧ lastI (lastL (runsL v)) < k
    · rw [if_pos c] at hr
      rcases List.mem_append.mp hr with e | e
      · exact runs_pos n v hv run ((List.dropLast_sublist _).subset e)
      · rw [List.mem_singleton.mp e]
        simp
    · rw [if_neg c] at hr
      rcases List.mem_append.mp hr with e | e
      · exact runs_pos n v hv run e
      · rw [List.mem_singleton.mp e]
        simp
theorem lastL_mem {rs : List (List Int)} (h : rs ≠ []) : lastL rs ∈ rs := by
  unfold lastL
  rw [List.getLastD_eq_getLast?, List.getLast?_eq_some_getLast h]
  exact List.getLast_mem h
/-- the last run with one key more -/
theorem grow_last {H G : Hp} {D c : Addr} {xs : List V} {rs : List (List Int)} {l : List Int} (r : RowsAt H xs rs) (hn : rs ≠ []) (eD : H D = some (.lst xs)) (s : Same H G) (ec : G c = some (.tup (l.map V.int))) :
    RowsAt (upd G D (.lst (xs.set (xs.length - 1) (.ref c)))) (xs.set (xs.length - 1) (.ref c)) (rs.dropLast ++ [l]) := by
  have hl := Paired.length r
  have hp := List.length_pos_iff.mpr hn
  have hx : xs = xs.dropLast ++ [xs[xs.length - 1]] := by
    have hne : xs ≠ [] := fun z => by rw [z] at hl; exact absurd hl (by simp; omega)
    have := (List.dropLast_concat_getLast hne).symm
    rw [List.getLast_eq_getElem] at this
    exact this
  have h1 : xs.set (xs.length - 1) (.ref c) = xs.dropLast ++ [V.ref c] := by
    rw [List.set_eq_take_append_cons_drop, if_pos (by omega), List.dropLast_eq_take, List.drop_of_length_le (by omega)]
  have h2 : RowsAt H xs.dropLast rs.dropLast := by
    have : ∀ {ys : List V} {ms : List (List Int)}, RowsAt H ys ms → RowsAt H ys.dropLast ms.dropLast := fun {ys ms} h => by
      induction h with
      | nil => exact .nil
      | cons a b ih =>
        cases b with
        | nil => exact .nil
        | cons c d => exact .cons a ih
    exact this r
  rw [h1]
  refine RowsAt.put (zs := xs) (s _ _ eD) (RowsAt.push ⟨c, rfl, ec⟩ (RowsAt.same h2 s))
def spRi : Sp := fun vs H Q _ => ∃ (a : Addr) (ws : List Int), vs = [.ref a] ∧ Sq H a (ws.map V.int) ∧ ws.length ≤ 12 ∧ ∀ (H' : Hp) (q : Addr) (xs : List V), Same H H' → H q = none → H' q = some (.lst xs) → RowsAt H' xs (runsL ws) → Q (.ref q) H'
theorem ok_ri (T : Tx K mg A) : FnOk P w K mg base CX0 1 A.f_runs_in A.d_runs_in ["written"] spRi := by
  refine T.F_runs_in.ok sc_runs_in (fun vs H Q E h => ?_) (fun cdv B outer s H vs Q E hr h => ?_)
  · obtain ⟨a, ws, rfl, _⟩ := h
    rfl
  · obtain ⟨a, ws, rfl, ha, h12, q⟩ := h
    have nd := sc_runs_in.nd
    refine ⟨_, (pss_cons (ps_set (i := 1) nd rfl (Or.inl rfl) (pe_lst pa_nil))
      (C8.pss_cut (ps_for PassesOwn.never rfl (pi_or (pi_list (pv 0)) (pi_tup (pv 0))) (pg_name (i := 2) nd rfl (Or.inl rfl)) (pss_one (ps_if (PW.pt (pw_and (pt_truK (K := K) rfl (pv 1) (fun _ => rfl)) (pw_and1 (pt_cmpR op_gt (pv 2) (pe_ix (r := rIxT K) ix_tup (pe_ix (r := rIxL K) ix_list (pv 1) (pe_un un_neg pe_int) (fun _ _ => rfl)) (pe_un un_neg pe_int) (fun _ _ => rfl)) (nomark _))))) (pss_one (ps_asg (pe_op (r := rCatA K) op_catA (pe_ix (r := rIxL K) ix_list (pv 1) (pe_un un_neg pe_int) (fun _ _ => rfl)) (pe_tup (pa_cons (pv 2) pa_nil))) (pg_sub (pv 1) (pe_un un_neg pe_int) set_list))) (pss_one (ps_expr (pe_bm PySem.F.plainAttrs_list PySem.F.slot_list_append PySem.F.type_list_append mt_append (pv 1) (pa_cons (pe_tup (pa_cons (pv 2) pa_nil)) pa_nil)))))))
      (pss_one (ps_ret (pv 1))))), ?_⟩
    refine ⟨Nat.zero_le _, fun D nD => ?_⟩
    have s0 := Same.up (o := .lst []) nD
    refine ⟨fun σ' H' => ∃ (x2 : Option V) (xs : List V), σ' = [some (.ref a), some (.ref D), x2] ∧ Same H H' ∧ H' D = some (.lst xs) ∧ RowsAt H' xs (runsL ws), ?_, ?_⟩
    · rcases id (ha.same s0) with h1 | h1
      · refine Or.inl ⟨_, rfl, a, rfl, ⟨_, SqL.of h1⟩, ?_⟩
        have h0 : H a = some (.lst (ws.map V.int)) := by
          rcases ha with z | z
          · rw [s0 _ _ z] at h1
            exact z.trans h1
          · rw [s0 _ _ z] at h1
            exact z.trans h1
        refine for_it (walk_list (xs := ws.map V.int)) (fun i σ' H' => ∃ (x2 : Option V) (xs : List V), σ' = [some (.ref a), some (.ref D), x2] ∧ Same H H' ∧ H' D = some (.lst xs) ∧ RowsAt H' xs (runsL (ws.take i))) ⟨none, [], rfl, s0, upd_same, .nil⟩ (fun i σ' H' _ ⟨_, _, _, s, _⟩ => SqL.of (s _ _ h0)) ?_ ?_
        · rintro i x σ' H2 H3 hi ⟨x2, xs, rfl, s2, eD, rr⟩ ⟨rfl, hx⟩
          obtain ⟨hi2, rfl⟩ := ints_at hx
          have hlen := runs_len _ (ws.take i) rfl
          have hxl := Paired.length rr
          have htl : (ws.take i).length ≤ 12 := by rw [List.length_take]; omega
          rw [← List.take_append_getElem hi2, runs_snoc]
          refine ⟨_, rfl, !xs.isEmpty, .inl ⟨_, SqL.of eD, rfl⟩, ?_⟩
          have new : ¬ (runsL (ws.take i) ≠ [] ∧ lastI (lastL (runsL (ws.take i))) < ws[i]) → ∀ (c : Addr) (G : Hp), Same H3 G → G c = some (.tup [V.int ws[i]]) → ∃ acc, G D = some (.lst acc) ∧ acc.length < sizeLine ∧
              ∃ (x2 : Option V) (xs : List V), [some (V.ref a), some (V.ref D), some (V.int ws[i])] = [some (V.ref a), some (V.ref D), x2] ∧ Same H (upd G D (.lst (acc ++ [V.ref c]))) ∧ upd G D (.lst (acc ++ [V.ref c])) D = some (.lst xs) ∧ RowsAt (upd G D (.lst (acc ++ [V.ref c]))) xs (stepR (runsL (ws.take i)) ws[i]) := fun hc c G s ec => by
            refine ⟨xs, s _ _ eD, by rw [hxl, sizeLine_eq]; omega, _, _, rfl, fun b o e => ?_, upd_same, ?_⟩
            · rw [upd_ne (ne_of_none e nD)]
              exact s _ _ (s2 _ _ e)
            · unfold stepR
              rw [if_neg hc]
              exact RowsAt.put (s _ _ eD) (RowsAt.push ⟨c, rfl, ec⟩ (RowsAt.same rr s))
          by_cases hn : runsL (ws.take i) = []
          · have hx0 : xs = [] := List.length_eq_zero_iff.mp (by rw [hxl, hn]; rfl)
            rw [show (!xs.isEmpty) = false by rw [hx0]; rfl]
            refine iteF (iteF ?_)
            refine ⟨_, rfl, .inl ⟨rfl, _, SqL.of eD⟩, _, rfl, by show 1 ≤ sizeLine; decide, fun c nc => ?_⟩
            obtain ⟨acc, a1, a2, a3⟩ := new (fun z => z.1 hn) c _ (Same.up nc) upd_same
            exact ⟨D, _, _, rfl, rfl, a1, a2, a3⟩
          · obtain ⟨hxp, t, e1, et⟩ := rows_last rr hn
            have hlp := runs_pos _ _ rfl _ (lastL_mem hn)
            rw [show (!xs.isEmpty) = true by cases xs with | nil => exact absurd hxp (by simp) | cons _ _ => rfl]
            refine iteT ?_
            refine ⟨_, rfl, _, rfl, _, rfl, D, _, _, _, rfl, rfl, SqL.of eD, at_last hxp, _, rfl, t, _, _, _, e1, rfl, SqT.of et, lastI_at hlp, _, _, rfl, rfl, _, rfl, ?_⟩
            by_cases hc : lastI (lastL (runsL (ws.take i))) < ws[i]
            · rw [decide_eq_true hc]
              refine iteT ?_
              refine ⟨_, rfl, _, rfl, D, _, _, _, rfl, rfl, SqL.of eD, at_last hxp, _, rfl, by show 1 ≤ sizeLine; decide, fun u nu => ?_⟩
              have su := Same.up (o := .tup [V.int ws[i]]) nu
              have hll := hlen.2 _ (lastL_mem hn)
              refine ⟨t, u, _, _, e1, rfl, SqT.of (su _ _ et), SqT.of upd_same, Nat.le_of_lt (small1000 (by rw [List.length_map, List.length_singleton]; omega)), fun hz => absurd (List.map_eq_nil_iff.mp hz) hlp, fun _ y => (nomatch y), fun _ _ c nc => ?_⟩
              have sG := su.trans (Same.up (o := .tup ((lastL (runsL (ws.take i))).map V.int ++ [V.int ws[i]])) nc)
              have ec := upd_same (H := upd H3 u (.tup [V.int ws[i]])) (a := c) (o := .tup ((lastL (runsL (ws.take i))).map V.int ++ [V.int ws[i]]))
              rw [map_one] at ec sG ⊢
              refine ⟨_, rfl, _, rfl, D, xs, -1, xs.length - 1, rfl, rfl, sG _ _ eD, ?_, _, _, rfl, fun b o e => ?_, upd_same, ?_⟩
              · unfold ixN
                rw [if_neg (by decide), if_pos (by omega)]
                congr 1
                omega
              · rw [upd_ne (ne_of_none e nD)]
                exact sG _ _ (s2 _ _ e)
              · unfold stepR
                rw [if_pos ⟨hn, hc⟩]
                exact grow_last rr hn eD sG ec
            · rw [decide_eq_false hc]
              refine iteF ?_
              refine ⟨_, rfl, .inl ⟨rfl, _, SqL.of eD⟩, _, rfl, by show 1 ≤ sizeLine; decide, fun c nc => ?_⟩
              obtain ⟨acc, a1, a2, a3⟩ := new (fun z => hc z.2) c _ (Same.up nc) upd_same
              exact ⟨D, _, _, rfl, rfl, a1, a2, a3⟩
        · rintro σ' H2 ⟨x2, xs, rfl, s2, eD, rr⟩
          rw [List.length_map, List.take_length] at rr
          exact ⟨x2, xs, rfl, s2, eD, rr⟩
      · refine Or.inr ⟨_, rfl, a, rfl, ⟨_, SqT.of h1⟩, ?_⟩
        have h0 : H a = some (.tup (ws.map V.int)) := by
          rcases ha with z | z
          · rw [s0 _ _ z] at h1
            exact z.trans h1
          · rw [s0 _ _ z] at h1
            exact z.trans h1
        refine for_it (walk_tup (xs := ws.map V.int)) (fun i σ' H' => ∃ (x2 : Option V) (xs : List V), σ' = [some (.ref a), some (.ref D), x2] ∧ Same H H' ∧ H' D = some (.lst xs) ∧ RowsAt H' xs (runsL (ws.take i))) ⟨none, [], rfl, s0, upd_same, .nil⟩ (fun i σ' H' _ ⟨_, _, _, s, _⟩ => SqT.of (s _ _ h0)) ?_ ?_
        · rintro i x σ' H2 H3 hi ⟨x2, xs, rfl, s2, eD, rr⟩ ⟨rfl, hx⟩
          obtain ⟨hi2, rfl⟩ := ints_at hx
          have hlen := runs_len _ (ws.take i) rfl
          have hxl := Paired.length rr
          have htl : (ws.take i).length ≤ 12 := by rw [List.length_take]; omega
          rw [← List.take_append_getElem hi2, runs_snoc]
          refine ⟨_, rfl, !xs.isEmpty, .inl ⟨_, SqL.of eD, rfl⟩, ?_⟩
          have new : ¬ (runsL (ws.take i) ≠ [] ∧ lastI (lastL (runsL (ws.take i))) < ws[i]) → ∀ (c : Addr) (G : Hp), Same H3 G → G c = some (.tup [V.int ws[i]]) → ∃ acc, G D = some (.lst acc) ∧ acc.length < sizeLine ∧
              ∃ (x2 : Option V) (xs : List V), [some (V.ref a), some (V.ref D), some (V.int ws[i])] = [some (V.ref a), some (V.ref D), x2] ∧ Same H (upd G D (.lst (acc ++ [V.ref c]))) ∧ upd G D (.lst (acc ++ [V.ref c])) D = some (.lst xs) ∧ RowsAt (upd G D (.lst (acc ++ [V.ref c]))) xs (stepR (runsL (ws.take i)) ws[i]) := fun hc c G s ec => by
            refine ⟨xs, s _ _ eD, by rw [hxl, sizeLine_eq]; omega, _, _, rfl, fun b o e => ?_, upd_same, ?_⟩
            · rw [upd_ne (ne_of_none e nD)]
              exact s _ _ (s2 _ _ e)
            · unfold stepR
              rw [if_neg hc]
              exact RowsAt.put (s _ _ eD) (RowsAt.push ⟨c, rfl, ec⟩ (RowsAt.same rr s))
          by_cases hn : runsL (ws.take i) = []
          · have hx0 : xs = [] := List.length_eq_zero_iff.mp (by rw [hxl, hn]; rfl)
            rw [show (!xs.isEmpty) = false by rw [hx0]; rfl]
            refine iteF (iteF ?_)
            refine ⟨_, rfl, .inl ⟨rfl, _, SqL.of eD⟩, _, rfl, by show 1 ≤ sizeLine; decide, fun c nc => ?_⟩
            obtain ⟨acc, a1, a2, a3⟩ := new (fun z => z.1 hn) c _ (Same.up nc) upd_same
            exact ⟨D, _, _, rfl, rfl, a1, a2, a3⟩
          · obtain ⟨hxp, t, e1, et⟩ := rows_last rr hn
            have hlp := runs_pos _ _ rfl _ (lastL_mem hn)
            rw [show (!xs.isEmpty) = true by cases xs with | nil => exact absurd hxp (by simp) | cons _ _ => rfl]
            refine iteT ?_
            refine ⟨_, rfl, _, rfl, _, rfl, D, _, _, _, rfl, rfl, SqL.of eD, at_last hxp, _, rfl, t, _, _, _, e1, rfl, SqT.of et, lastI_at hlp, _, _, rfl, rfl, _, rfl, ?_⟩
            by_cases hc : lastI (lastL (runsL (ws.take i))) < ws[i]
            · rw [decide_eq_true hc]
              refine iteT ?_
              refine ⟨_, rfl, _, rfl, D, _, _, _, rfl, rfl, SqL.of eD, at_last hxp, _, rfl, by show 1 ≤ sizeLine; decide, fun u nu => ?_⟩
              have su := Same.up (o := .tup [V.int ws[i]]) nu
              have hll := hlen.2 _ (lastL_mem hn)
              refine ⟨t, u, _, _, e1, rfl, SqT.of (su _ _ et), SqT.of upd_same, Nat.le_of_lt (small1000 (by rw [List.length_map, List.length_singleton]; omega)), fun hz => absurd (List.map_eq_nil_iff.mp hz) hlp, fun _ y => (nomatch y), fun _ _ c nc => ?_⟩
              have sG := su.trans (Same.up (o := .tup ((lastL (runsL (ws.take i))).map V.int ++ [V.int ws[i]])) nc)
              have ec := upd_same (H := upd H3 u (.tup [V.int ws[i]])) (a := c) (o := .tup ((lastL (runsL (ws.take i))).map V.int ++ [V.int ws[i]]))
              rw [map_one] at ec sG ⊢
              refine ⟨_, rfl, _, rfl, D, xs, -1, xs.length - 1, rfl, rfl, sG _ _ eD, ?_, _, _, rfl, fun b o e => ?_, upd_same, ?_⟩
              · unfold ixN
                rw [if_neg (by decide), if_pos (by omega)]
                congr 1
                omega
              · rw [upd_ne (ne_of_none e nD)]
                exact sG _ _ (s2 _ _ e)
              · unfold stepR
                rw [if_pos ⟨hn, hc⟩]
                exact grow_last rr hn eD sG ec
            · rw [decide_eq_false hc]
              refine iteF ?_
              refine ⟨_, rfl, .inl ⟨rfl, _, SqL.of eD⟩, _, rfl, by show 1 ≤ sizeLine; decide, fun c nc => ?_⟩
              obtain ⟨acc, a1, a2, a3⟩ := new (fun z => hc z.2) c _ (Same.up nc) upd_same
              exact ⟨D, _, _, rfl, rfl, a1, a2, a3⟩
        · rintro σ' H2 ⟨x2, xs, rfl, s2, eD, rr⟩
          rw [List.length_map, List.take_length] at rr
          exact ⟨x2, xs, rfl, s2, eD, rr⟩
    · rintro σ' H2 ⟨x2, xs, rfl, s2, eD, rr⟩
      exact ⟨_, rfl, q _ D xs s2 nD eD rr⟩
theorem b_ri (T : Tx K mg A) : L2.Binds K A.d_runs_in ["written"] [] := T.F_runs_in.binds fun _ _ _ _ _ _ us hl => match us, hl with | [_], _ => rfl

end
end Tw

set_option Elab.async false
set_option linter.all false
set_option maxRecDepth 100000
set_option maxHeartbeats 2000000
namespace Tw
open PySem PySem.Spec PyProof.Rows L2
section
variable {P : Program} {w : World} {K : PySem.W.Frag} {mg : Str → Option Value} {base : Heap} {A : Ad}
theorem pickI_map (l : List Int) (b : Int → Bool) : (l.filterMap fun z => if b z = true then some (V.int z) else none) = (l.filter b).map V.int := by
  induction l with
  | nil => rfl
  | cons a l ih =>
    by_cases h : b a = true
    · rw [List.filterMap_cons, if_pos h, List.filter_cons_of_pos h, List.map_cons, ih]
    · rw [List.filterMap_cons, if_neg h, List.filter_cons_of_neg h, ih]
theorem cut_next (ns : List Int) (r i : Nat) : cutV (ns.map V.int) (some ((r : Int) + (i : Int))) (some ((r : Int) + (i : Int) + 1)) = ((ns.drop (r + i)).take 1).map V.int := by
  rw [show ((r : Int) + (i : Int)) = ((r + i : Nat) : Int) by omega, show (((r + i : Nat) : Int) + 1) = ((r + i + 1 : Nat) : Int) by omega, icut2 _ _ _ (by omega), show r + i + 1 - (r + i) = 1 by omega]
theorem not_whole {ns : List Int} {r i : Nat} {hi : Option Int} (hr : 1 ≤ r) (hl : 0 < ns.length) : ¬ (HT.sIx (ns.map V.int).length 0 (some ((r : Int) + (i : Int))) = 0 ∧ HT.sIx (ns.map V.int).length (ns.map V.int).length hi = (ns.map V.int).length) := fun z => by
  have z1 := z.1
  rw [show ((r : Int) + (i : Int)) = ((r + i : Nat) : Int) by omega, HT.sIx_nat, List.length_map] at z1
  omega
theorem whole_take {ns : List Int} {r : Nat} (z : HT.sIx (ns.map V.int).length 0 none = 0 ∧ HT.sIx (ns.map V.int).length (ns.map V.int).length (some (r : Int)) = (ns.map V.int).length) : ns.take r = ns := by
  have z2 := z.2
  rw [HT.sIx_nat, List.length_map] at z2
  exact List.take_of_length_le (by omega)
theorem empB (l : List Int) : (!(l.map V.int).isEmpty) = !decide (l = []) := by
  cases l with
  | nil => rfl
  | cons a l => rfl
def spWr : Sp := fun vs H Q _ => ∃ (r g : Nat) (ns : List Int), vs = [.int r, .ref g] ∧ 1 ≤ r ∧ H g = some (.tup (ns.map V.int)) ∧ ns.length ≤ 12 ∧ r ≤ 12 ∧ ∀ (H' : Hp) (t : Addr), Same H H' → H' t = some (.tup ((writeL r ns).map V.int)) → Q (.ref t) H'
theorem ok_wr (T : Tx K mg A) : FnOk P w K mg base CX0 1 A.f_written_by_replacement A.d_written_by_replacement ["room", "given"] spWr := by
  refine T.F_written_by_replacement.ok sc_written_by_replacement (fun vs H Q E h => ?_) (fun cdv B outer s H vs Q E hr h => ?_)
  · obtain ⟨r, g, ns, rfl, _⟩ := h
    rfl
  · obtain ⟨r, g, ns, rfl, hr1, hg, h12, hr12, q⟩ := h
    have nd := sc_written_by_replacement.nd
    refine ⟨_, (C8.pss_cut (ps_set (i := 2) nd rfl (Or.inl rfl) (pe_callTy call_list_of (by rfl) T.g_list (by decide +kernel) (pa_cons (pe_slice (r := rSlA K) sl_tupA (pv 1) po_none (po_some (pv 0))) pa_nil)))
      (pss_cons (ps_set (i := 3) nd rfl (Or.inr rfl) (pe_lst pa_nil))
      (C8.pss_cut (ps_for PassesOwn.never rfl (pi_range1 rfl T.g_range (pa_cons (pe_callB call_len_seq (by rfl) T.g_len PySem.boot_len (pa_cons (pv 1) pa_nil)) pa_nil)) (pg_name (i := 4) nd rfl (Or.inl rfl)) (C8.pss_cut (ps_setLc (i := 5) (own := [("key", 6)]) (g := gName 6) rfl nd rfl rfl (sw_true rfl rfl rfl (by decide +kernel)) (pi_list (pv 2)) (blkOk_by (own := [("key", 6)]) (N := ["room", "given", "held", "written", "at", "fitting", "key"]) (sc := (defScope s_written_by_replacement)) (by decide +kernel)) (fun _ _ _ _ _ => pg_name (i := 6) nd rfl (Or.inl rfl)) (fun _ _ _ _ _ => pts_one (PW.pt (pw_or (pt_not (pt_truK (K := K) rfl (pv 3) (fun _ => rfl))) (pw_or1 (pt_cmpR op_gt (pv 6) (pe_ix (r := rIxL K) ix_list (pv 3) (pe_un un_neg pe_int) (fun _ _ => rfl)) (nomark _)))))) (fun _ _ _ _ _ => (pv 6)))
      (C8.pss_cut (ps_expr (pe_bm PySem.F.plainAttrs_list PySem.F.slot_list_append PySem.F.type_list_append mt_append (pv 3) (pa_cons (pe_callB (cr_min rfl) (by rfl) T.g_min (by decide +kernel) (pa_cons (pe_orT (pv 5) (pe_one (pv 2))) pa_nil)) pa_nil)))
      (C8.pss_cut (ps_expr (pe_bm PySem.F.plainAttrs_list PySem.F.slot_list_remove PySem.F.type_list_remove mt_remove (pv 2) (pa_cons (pe_ix (r := rIxL K) ix_list (pv 3) (pe_un un_neg pe_int) (fun _ _ => rfl)) pa_nil)))
      (pss_one (ps_expr (pe_bm PySem.F.plainAttrs_list PySem.F.slot_list_extend PySem.F.type_list_extend mt_extend (pv 2) (pa_cons (pe_callTy call_list_of (by rfl) T.g_list (by decide +kernel) (pa_cons (pe_slice (r := rSlT K) sl_tup (pv 1) (po_some (pe_op op_add (pv 0) (pv 4))) (po_some (pe_op op_add (pe_op op_add (pv 0) (pv 4)) pe_int))) pa_nil)) pa_nil))))))))
      (pss_one (ps_ret (pe_callTy call_tuple_of (by rfl) T.g_tuple (by decide +kernel) (pa_cons (pv 3) pa_nil))))))), ?_⟩
    refine ⟨fun σ' H' => ∃ h : Addr, σ' = [some (.int r), some (.ref g), some (.ref h), none, none, none, none] ∧ Same H H' ∧ H h = none ∧ H' h = some (.lst ((ns.take r).map V.int)), ?_, ?_⟩
    · refine ⟨_, rfl, _, rfl, _, rfl, g, _, rfl, SqT.of hg, fun z => ?_, fun z p np => ?_⟩
      · refine ⟨g, _, rfl, .inr (SqT.of hg), fun h nh => ⟨h, rfl, Same.up nh, nh, ?_⟩⟩
        rw [upd_same, whole_take z]
      · rw [icut]
        refine ⟨p, _, rfl, .inr (SqT.of upd_same), fun h nh => ⟨h, rfl, (Same.up np).trans (Same.up nh), (Same.up np).free nh, upd_same⟩⟩
    rintro σ' H1 ⟨h, rfl, s1, nh, eh⟩
    refine ⟨Nat.zero_le _, fun W nW => ?_⟩
    have hWh : W ≠ h := fun z => by rw [z, eh] at nW; cases nW
    have s2 := s1.trans (Same.up (o := .lst []) nW)
    have nW0 := s1.free nW
    have eh2 : upd H1 W (.lst []) h = some (.lst ((ns.take r).map V.int)) := (Same.up nW) _ _ eh
    have eW2 : upd H1 W (.lst []) W = some (.lst []) := upd_same
    generalize upd H1 W (.lst []) = G at s2 eh2 eW2
    refine ⟨fun σ' H' => ∃ x4 x5 : Option V, σ' = [some (.int r), some (.ref g), some (.ref h), some (.ref W), x4, x5, none] ∧ Same H H' ∧ H' W = some (.lst ((writeL r ns).map V.int)), ?_, ?_⟩
    · refine ⟨_, rfl, g, _, rfl, .inr (SqT.of (s2 _ _ hg)), _, rfl, ?_⟩
      rw [List.length_map]
      refine ⟨by omega, by omega, ?_⟩
      rw [Int.toNat_natCast]
      refine for_it (walk_range (lo := 0) (n := ns.length)) (fun i σ' H' => ∃ x4 x5 : Option V, σ' = [some (.int r), some (.ref g), some (.ref h), some (.ref W), x4, x5, none] ∧ Same H H' ∧ H' h = some (.lst ((stW r ns i).1.map V.int)) ∧ H' W = some (.lst ((stW r ns i).2.map V.int)))
        ⟨none, none, rfl, s2, eh2, eW2⟩ (fun _ _ _ _ _ => trivial) ?_ ?_
      · rintro i y σ' H2 H3 hi ⟨x4, x5, rfl, s3, eh3, eW3⟩ ⟨rfl, ey⟩
        obtain rfl : y = V.int (i : Nat) := by
          rw [ey]
          show V.int (0 + (i : Int)) = _
          rw [Int.zero_add]
        have hne := held_ne hr1 hi
        have hhl := held_len hr1 (Nat.le_of_lt hi) (ns := ns) (r := r)
        have hwl := stW_len r ns i
        have e1 : (stW r ns (i + 1)).1 = (stW r ns i).1.erase (pickL (stW r ns i).1 (stW r ns i).2) ++ (ns.drop (r + i)).take 1 := rfl
        have e2 : (stW r ns (i + 1)).2 = (stW r ns i).2 ++ [pickL (stW r ns i).1 (stW r ns i).2] := rfl
        rw [e1, e2]
        have hkm := pick_in (stW r ns i).2 hne
        have hpk : pickL (stW r ns i).1 (stW r ns i).2 = minI (if fitL (stW r ns i).1 (stW r ns i).2 = [] then (stW r ns i).1 else fitL (stW r ns i).1 (stW r ns i).2) := rfl
        have hfd : fitL (stW r ns i).1 (stW r ns i).2 = (stW r ns i).1.filter fun k => decide ((stW r ns i).2 = []) || decide (lastI (stW r ns i).2 < k) := rfl
        generalize (stW r ns i).1 = hd at *
        generalize (stW r ns i).2 = wr at *
        generalize pickL hd wr = k at *
        refine ⟨fun σ' H' => ∃ F : Addr, σ' = [some (.int r), some (.ref g), some (.ref h), some (.ref W), some (.int i), some (.ref F), none] ∧ Same H H' ∧ H' h = some (.lst (hd.map V.int)) ∧ H' W = some (.lst (wr.map V.int)) ∧ H' F = some (.lst ((fitL hd wr).map V.int)), ?_, ?_⟩
        · refine ⟨_, rfl, h, rfl, ⟨_, SqL.of eh3⟩, fun D nD => ?_⟩
          refine lc_it (walk_list (xs := hd.map V.int)) (PickI H3 D hd fun z => if (decide (wr = []) || decide (lastI wr < z)) = true then some (V.int z) else none) (pick_start nD) (fun j H' _ p => SqL.of (p.s _ _ eh3)) ?_ ?_
          · rintro j x H5 H6 hj pk ⟨rfl, ex⟩
            obtain ⟨hj2, rfl⟩ := map_at ex
            by_cases hw : wr = []
            · refine ⟨rfl, _, rfl, false, .inl ⟨_, SqL.of (pk.s _ _ eW3), by rw [hw]; rfl⟩, ?_⟩
              refine iteT (iteT ⟨_, rfl, pick_yes hj2 (by omega) (by rw [decide_eq_true hw, Bool.true_or]; rfl) (Same.refl _) pk⟩)
            · refine ⟨rfl, _, rfl, true, .inl ⟨_, SqL.of (pk.s _ _ eW3), by rw [empB, decide_eq_false hw]; rfl⟩, ?_⟩
              rw [decide_eq_false hw] at pk ⊢
              refine iteF ?_
              refine ⟨_, rfl, _, rfl, _, rfl, W, _, _, _, rfl, rfl, SqL.of (pk.s _ _ eW3), lastI_at hw, _, _, rfl, rfl, _, rfl, ?_⟩
              by_cases hf : lastI wr < hd[j]
              · rw [decide_eq_true hf]
                exact iteT ⟨_, rfl, pick_yes hj2 (by omega) (by rw [decide_eq_true hf, Bool.or_true]; rfl) (Same.refl _) pk⟩
              · rw [decide_eq_false hf]
                exact iteF (pick_no hj2 (by rw [decide_eq_false hf]; rfl) (Same.refl _) pk)
          · intro H5 pk
            have aL := pick_end (by rw [List.length_map]) pk
            rw [pickI_map, ← hfd] at aL
            exact ⟨D, rfl, s3.trans aL.s, aL.s _ _ eh3, aL.s _ _ eW3, aL.a⟩
        rintro σ' H4 ⟨F, rfl, s4, eh4, eW4, eF4⟩
        have hWn : ∀ {G : Hp} {zs : List V}, Same H G → Same H (upd G W (.lst zs)) := fun s b o e => by
          rw [upd_ne (ne_of_none e nW0)]
          exact s _ _ e
        have hhn : ∀ {G : Hp} {zs : List V}, Same H G → Same H (upd G h (.lst zs)) := fun s b o e => by
          rw [upd_ne (ne_of_none e nh)]
          exact s _ _ e
        refine ⟨fun σ' H' => σ' = [some (.int r), some (.ref g), some (.ref h), some (.ref W), some (.int i), some (.ref F), none] ∧ Same H H' ∧ H' h = some (.lst (hd.map V.int)) ∧ H' W = some (.lst ((wr ++ [k]).map V.int)), ?_, ?_⟩
        · have fin : ∀ m : Int, m = k → ∃ l xs y, (V.ref W : V) = .ref l ∧ [V.int m] = [y] ∧ H4 l = some (.lst xs) ∧ xs.length < sizeLine ∧
              ([some (V.int r), some (V.ref g), some (V.ref h), some (V.ref W), some (V.int i), some (V.ref F), none] : L2.St) = [some (.int r), some (.ref g), some (.ref h), some (.ref W), some (.int i), some (.ref F), none] ∧ Same H (upd H4 l (.lst (xs ++ [y]))) ∧ upd H4 l (.lst (xs ++ [y])) h = some (.lst (hd.map V.int)) ∧ upd H4 l (.lst (xs ++ [y])) W = some (.lst ((wr ++ [k]).map V.int)) := fun m hm => by
            subst hm
            refine ⟨W, _, _, rfl, rfl, eW4, by rw [List.length_map, sizeLine_eq]; omega, rfl, hWn s4, ?_, ?_⟩
            · rw [upd_ne hWh.symm]
              exact eh4
            · rw [upd_same, map_one]
          refine ⟨_, rfl, .inl ⟨rfl, _, SqL.of eW4⟩, _, rfl, !((fitL hd wr).map V.int).isEmpty, .inl ⟨_, SqL.of eF4, rfl⟩, ?_⟩
          rw [empB]
          by_cases hz : fitL hd wr = []
          · rw [decide_eq_true hz]
            refine iteF ⟨_, rfl, h, hd, rfl, SqL.of eh4, List.length_pos_iff.mpr hne, fun m hm hle => fin m ?_⟩
            rw [hpk, if_pos hz]
            exact minI_eq hm hle
          · rw [decide_eq_false hz]
            refine iteT ⟨F, fitL hd wr, rfl, SqL.of eF4, List.length_pos_iff.mpr hz, fun m hm hle => fin m ?_⟩
            rw [hpk, if_neg hz]
            exact minI_eq hm hle
        rintro σ' H5 ⟨rfl, s5, eh5, eW5⟩
        refine ⟨fun σ' H' => σ' = [some (.int r), some (.ref g), some (.ref h), some (.ref W), some (.int i), some (.ref F), none] ∧ Same H H' ∧ H' h = some (.lst ((hd.erase k).map V.int)) ∧ H' W = some (.lst ((wr ++ [k]).map V.int)), ?_, ?_⟩
        · obtain ⟨j, j1, j2, j3⟩ := pos_of_mem hkm
          have hla := lastI_at (l := wr ++ [k]) (by simp)
          rw [last_snoc] at hla
          refine ⟨_, rfl, .inl ⟨rfl, _, SqL.of eh5⟩, _, rfl, _, rfl, W, _, _, _, rfl, rfl, SqL.of eW5, hla, h, hd, k, j, rfl, rfl, eh5, j1, j2, rfl, hhn s5, ?_, ?_⟩
          · rw [upd_same, j3]
          · rw [upd_ne hWh]
            exact eW5
        rintro σ' H6 ⟨rfl, s6, eh6, eW6⟩
        refine ⟨_, rfl, .inl ⟨rfl, _, SqL.of eh6⟩, _, rfl, _, rfl, _, rfl, _, _, rfl, rfl, _, rfl, _, rfl, _, rfl, _, _, rfl, rfl, _, _, rfl, rfl, _, rfl, g, _, rfl, SqT.of (s6 _ _ hg), not_whole hr1 (by omega), fun p np => ?_⟩
        rw [cut_next]
        have sp := Same.up (o := .tup (((ns.drop (r + i)).take 1).map V.int)) np
        have hel : (hd.erase k).length ≤ 12 := by
          have := List.length_erase_le (a := k) (l := hd)
          omega
        refine ⟨p, _, rfl, .inr (SqT.of upd_same), fun l nl => ?_⟩
        have sl := sp.trans (Same.up (o := .lst (((ns.drop (r + i)).take 1).map V.int)) nl)
        refine ⟨h, l, _, _, rfl, rfl, sl _ _ eh6, upd_same, Nat.le_of_lt (small1000 (by rw [List.length_map, List.length_map, List.length_take]; omega)), _, _, rfl, hhn (s6.trans sl), ?_, ?_⟩
        · rw [upd_same, List.map_append]
        · rw [upd_ne hWh]
          exact sl _ _ eW6
      · rintro σ' H2 ⟨x4, x5, rfl, s3, eh3, eW3⟩
        exact ⟨x4, x5, rfl, s3, eW3⟩
    · rintro σ' H2 ⟨x4, x5, rfl, s3, eW3⟩
      exact ⟨_, rfl, W, _, rfl, .inl ⟨SqL.of eW3, fun t nt => q _ t (s3.trans (Same.up nt)) upd_same⟩⟩
theorem b_wr (T : Tx K mg A) : L2.Binds K A.d_written_by_replacement ["room", "given"] [] := T.F_written_by_replacement.binds fun _ _ _ _ _ _ us hl => match us, hl with | [_, _], _ => rfl

end
end Tw

set_option Elab.async false
set_option linter.all false
set_option maxRecDepth 100000
set_option maxHeartbeats 2000000
namespace Tw
open PySem PySem.Spec PyProof.Rows L2
section
variable {P : Program} {w : World} {K : PySem.W.Frag} {mg : Str → Option Value} {base : Heap} {A : Ad}
def spIw : Sp := fun vs H Q _ => ∃ (t r g : Nat) (ns : List Int), vs = [.ref t, .int r, .ref g] ∧ 1 ≤ r ∧ r ≤ 12 ∧ H g = some (.tup (ns.map V.int)) ∧ KeysIn ns ∧ Sq H t ((writeL r ns).map V.int) ∧ ∀ H' : Hp, Same H H' → Q (.bl true) H'
theorem ok_iw (T : Tx K mg A) : FnOk P w K mg base CX0 4 A.f_is_way A.d_is_way ["thing", "room", "given"] spIw := by
  refine T.F_is_way.ok sc_is_way (fun vs H Q E h => ?_) (fun cdv B outer s H vs Q E hr h => ?_)
  · obtain ⟨t, r, g, ns, rfl, _⟩ := h
    rfl
  · obtain ⟨t, r, g, ns, rfl, hr1, hr12, hg, ⟨h12, hkb, hdn⟩, ht, q⟩ := h
    have nd := sc_is_way.nd
    refine ⟨_, (pss_cons (ps_if (PW.pt (pw_or (pt_not (pt_val (pe_callB call_isiT (by rfl) T.g_isinstance (by decide +kernel) (pa_cons (pv 0) (pa_cons (pe_tup (pa_cons (pe_bltn (v := .ty "list") (by rfl) T.g_list (by decide +kernel) rfl) (pa_cons (pe_bltn (v := .ty "tuple") (by rfl) T.g_tuple (by decide +kernel) rfl) pa_nil))) pa_nil))))) (pw_or1 (pt_cmpR op_ne (pe_callB call_len_seq (by rfl) T.g_len PySem.boot_len (pa_cons (pv 0) pa_nil)) (pe_callB call_len_seq (by rfl) T.g_len PySem.boot_len (pa_cons (pv 2) pa_nil)) (nomark _))))) (pss_one (ps_ret pe_bl)) pss_nil)
      (C8.pss_cut (ps_set (i := 3) nd rfl (Or.inl rfl) (pe_callTy call_list_of (by rfl) T.g_list (by decide +kernel) (pa_cons (pe_slice (r := rSlA K) sl_tupA (pv 2) po_none (po_some (pv 1))) pa_nil)))
      (C8.pss_cut (ps_for PassesOwn.never rfl (pi_enS (by rfl) T.g_enumerate (pa_cons (pv 0) pa_nil)) (pg_tup rfl (pgs_cons (pg_name (i := 4) nd rfl (Or.inl rfl)) (pgs_cons (pg_name (i := 5) nd rfl (Or.inl rfl)) pgs_nil))) (pss_cons (ps_if (PW.pt (pw_or (pt_not (pt_val (pe_call (ok_key T) (hr.mono (by decide)) (by rfl) T.m_is_key T.F_is_key.kp (b_key T) .nil pass0 (pa_cons (pv 5) pa_nil)))) (pw_or1 (pt_cmpR (r := L2.rIn K true) op_notIn_seq (pv 5) (pv 3) (by rfl))))) (pss_one (ps_ret pe_bl)) pss_nil)
      (C8.pss_cut (ps_expr (pe_bm PySem.F.plainAttrs_list PySem.F.slot_list_remove PySem.F.type_list_remove mt_remove (pv 3) (pa_cons (pv 5) pa_nil)))
      (pss_one (ps_expr (pe_bm PySem.F.plainAttrs_list PySem.F.slot_list_extend PySem.F.type_list_extend mt_extend (pv 3) (pa_cons (pe_callTy call_list_of (by rfl) T.g_list (by decide +kernel) (pa_cons (pe_slice (r := rSlT K) sl_tup (pv 2) (po_some (pe_op op_add (pv 1) (pv 4))) (po_some (pe_op op_add (pe_op op_add (pv 1) (pv 4)) pe_int))) pa_nil)) pa_nil)))))))
      (pss_one (ps_ret pe_bl))))), ?_⟩
    refine ⟨_, rfl, by show 2 ≤ sizeLine; decide, fun tp htp => ?_⟩
    have s1 := Same.up (o := .tup [.ty "list", .ty "tuple"]) htp
    have ht1 := ht.same s1
    have hg1 := s1 _ _ hg
    obtain ⟨c, b1, ty, k1, k2⟩ := seq_isi (K := K) ht1
    refine ⟨_, tp, _, .type c, [.type "list", .type "tuple"], true, rfl, upd_same, .cons (.ty _) (.cons (.ty _) .nil), ty, kitAny_cons k1 (fun z => kitAny_cons (k2 z) (fun z => by cases z) (fun _ => rfl)) (fun _ => rfl), true, rfl, ?_⟩
    refine iteF ⟨_, rfl, t, _, rfl, ht1.len, _, rfl, g, _, rfl, .inr (SqT.of hg1), rfl, _, rfl, ?_⟩
    rw [List.length_map, List.length_map, write_len, decide_eq_true rfl]
    refine iteF ?_
    generalize upd H tp (.tup [.ty "list", .ty "tuple"]) = G at s1 ht1 hg1
    refine ⟨fun σ' H' => ∃ h : Addr, σ' = [some (.ref t), some (.int r), some (.ref g), some (.ref h), none, none] ∧ Same G H' ∧ G h = none ∧ H' h = some (.lst ((ns.take r).map V.int)), ?_, ?_⟩
    · refine ⟨_, rfl, _, rfl, _, rfl, g, _, rfl, SqT.of hg1, fun z => ?_, fun z p np => ?_⟩
      · refine ⟨g, _, rfl, .inr (SqT.of hg1), fun h nh => ⟨h, rfl, Same.up nh, nh, ?_⟩⟩
        rw [upd_same, whole_take z]
      · rw [icut]
        refine ⟨p, _, rfl, .inr (SqT.of upd_same), fun h nh => ⟨h, rfl, (Same.up np).trans (Same.up nh), (Same.up np).free nh, upd_same⟩⟩
    rintro σ' H1 ⟨h, rfl, s2, nh, eh⟩
    refine ⟨fun σ' H' => ∃ x4 x5 : Option V, σ' = [some (.ref t), some (.int r), some (.ref g), some (.ref h), x4, x5] ∧ Same G H', ?_, ?_⟩
    · rcases id ht1 with h1 | h1
      · refine ⟨_, rfl, t, _, rfl, Or.inl ⟨SqL.of (s2 _ _ h1), for_it (walk_enum (xs := (writeL r ns).map V.int)) (fun i σ' H' => (∃ x4 x5 : Option V, σ' = [some (.ref t), some (.int r), some (.ref g), some (.ref h), x4, x5]) ∧ Same G H' ∧ H' h = some (.lst ((stW r ns i).1.map V.int))) ⟨⟨none, none, rfl⟩, s2, eh⟩ (fun i σ' H' _ ⟨_, s, _⟩ => SqL.of (s _ _ h1)) ?_ ?_⟩⟩
        · rintro i v σ' H2 H3 hi ⟨⟨x4, x5, rfl⟩, s3, e3⟩ ⟨T', x, x2, rfl, hT, rfl, e1, e2⟩
          rw [List.length_map, write_len] at hi
          obtain ⟨hi', rfl⟩ := ints_at e2
          cases e1
          have hka : (writeL r ns)[i] = pickL (stW r ns i).1 (stW r ns i).2 := by
            have := write_at (r := r) hi
            rw [List.getElem?_eq_getElem hi'] at this
            exact Option.some.inj this
          rw [hka]
          have hne := held_ne hr1 hi
          have hhl := held_len hr1 (Nat.le_of_lt hi) (ns := ns) (r := r)
          have f1 : (stW r ns (i + 1)).1 = (stW r ns i).1.erase (pickL (stW r ns i).1 (stW r ns i).2) ++ (ns.drop (r + i)).take 1 := rfl
          have hkm := pick_in (stW r ns i).2 hne
          have hbk := hkb _ (held_sub hr1 (Nat.le_of_lt hi) (.inl hkm))
          rw [f1]
          generalize (stW r ns i).1 = hd at *
          generalize pickL hd (stW r ns i).2 = k at *
          have s4 := s3.trans (Same.up (o := .tup [V.int (i : Nat), V.int k]) hT)
          have e4 := (Same.up (o := .tup [V.int (i : Nat), V.int k]) hT) _ _ e3
          refine ⟨_, _, rfl, SqT.of upd_same, rfl, _, _, rfl, _, _, rfl, rfl, ?_⟩
          generalize upd H2 T' (.tup [V.int (i : Nat), V.int k]) = G4 at s4 e4
          refine ⟨_, rfl, _, rfl, _, rfl, ?_⟩
          rw [decide_eq_true hbk]
          refine iteF ?_
          refine ⟨_, rfl, _, rfl, h, _, rfl, .inl (SqL.of e4), rfl, ints_flat _, _, rfl, ?_⟩
          rw [if_pos rfl, inV_ints, decide_eq_true hkm]
          refine iteF ?_
          have hhn : ∀ {G2 : Hp} {zs : List V}, Same G G2 → Same G (upd G2 h (.lst zs)) := fun s b o e => by
            rw [upd_ne (ne_of_none e nh)]
            exact s _ _ e
          refine ⟨fun σ' H' => σ' = [some (.ref t), some (.int r), some (.ref g), some (.ref h), some (.int i), some (.int k)] ∧ Same G H' ∧ H' h = some (.lst ((hd.erase k).map V.int)), ?_, ?_⟩
          · obtain ⟨j, j1, j2, j3⟩ := pos_of_mem hkm
            refine ⟨_, rfl, .inl ⟨rfl, _, SqL.of e4⟩, _, rfl, h, hd, k, j, rfl, rfl, e4, j1, j2, rfl, hhn s4, ?_⟩
            rw [upd_same, j3]
          rintro σ' H6 ⟨rfl, s6, eh6⟩
          refine ⟨_, rfl, .inl ⟨rfl, _, SqL.of eh6⟩, _, rfl, _, rfl, _, rfl, _, _, rfl, rfl, _, rfl, _, rfl, _, rfl, _, _, rfl, rfl, _, _, rfl, rfl, _, rfl, g, _, rfl, SqT.of (s6 _ _ hg1), not_whole hr1 (by omega), fun p np => ?_⟩
          rw [cut_next]
          have sp := Same.up (o := .tup (((ns.drop (r + i)).take 1).map V.int)) np
          have hel : (hd.erase k).length ≤ 12 := by
            have := List.length_erase_le (a := k) (l := hd)
            omega
          refine ⟨p, _, rfl, .inr (SqT.of upd_same), fun l nl => ?_⟩
          have sl := sp.trans (Same.up (o := .lst (((ns.drop (r + i)).take 1).map V.int)) nl)
          refine ⟨h, l, _, _, rfl, rfl, sl _ _ eh6, upd_same, Nat.le_of_lt (small1000 (by rw [List.length_map, List.length_map, List.length_take]; omega)), ⟨_, _, rfl⟩, hhn (s6.trans sl), ?_⟩
          rw [upd_same, List.map_append]
        · rintro σ' H2 ⟨⟨x4, x5, rfl⟩, s3, _⟩
          exact ⟨x4, x5, rfl, s3⟩
      · refine ⟨_, rfl, t, _, rfl, Or.inr ⟨SqT.of (s2 _ _ h1), for_it (walk_enumT (xs := (writeL r ns).map V.int)) (fun i σ' H' => (∃ x4 x5 : Option V, σ' = [some (.ref t), some (.int r), some (.ref g), some (.ref h), x4, x5]) ∧ Same G H' ∧ H' h = some (.lst ((stW r ns i).1.map V.int))) ⟨⟨none, none, rfl⟩, s2, eh⟩ (fun i σ' H' _ ⟨_, s, _⟩ => SqT.of (s _ _ h1)) ?_ ?_⟩⟩
        · rintro i v σ' H2 H3 hi ⟨⟨x4, x5, rfl⟩, s3, e3⟩ ⟨T', x, x2, rfl, hT, rfl, e1, e2⟩
          rw [List.length_map, write_len] at hi
          obtain ⟨hi', rfl⟩ := ints_at e2
          cases e1
          have hka : (writeL r ns)[i] = pickL (stW r ns i).1 (stW r ns i).2 := by
            have := write_at (r := r) hi
            rw [List.getElem?_eq_getElem hi'] at this
            exact Option.some.inj this
          rw [hka]
          have hne := held_ne hr1 hi
          have hhl := held_len hr1 (Nat.le_of_lt hi) (ns := ns) (r := r)
          have f1 : (stW r ns (i + 1)).1 = (stW r ns i).1.erase (pickL (stW r ns i).1 (stW r ns i).2) ++ (ns.drop (r + i)).take 1 := rfl
          have hkm := pick_in (stW r ns i).2 hne
          have hbk := hkb _ (held_sub hr1 (Nat.le_of_lt hi) (.inl hkm))
          rw [f1]
          generalize (stW r ns i).1 = hd at *
          generalize pickL hd (stW r ns i).2 = k at *
          have s4 := s3.trans (Same.up (o := .tup [V.int (i : Nat), V.int k]) hT)
          have e4 := (Same.up (o := .tup [V.int (i : Nat), V.int k]) hT) _ _ e3
          refine ⟨_, _, rfl, SqT.of upd_same, rfl, _, _, rfl, _, _, rfl, rfl, ?_⟩
          generalize upd H2 T' (.tup [V.int (i : Nat), V.int k]) = G4 at s4 e4
          refine ⟨_, rfl, _, rfl, _, rfl, ?_⟩
          rw [decide_eq_true hbk]
          refine iteF ?_
          refine ⟨_, rfl, _, rfl, h, _, rfl, .inl (SqL.of e4), rfl, ints_flat _, _, rfl, ?_⟩
          rw [if_pos rfl, inV_ints, decide_eq_true hkm]
          refine iteF ?_
          have hhn : ∀ {G2 : Hp} {zs : List V}, Same G G2 → Same G (upd G2 h (.lst zs)) := fun s b o e => by
            rw [upd_ne (ne_of_none e nh)]
            exact s _ _ e
          refine ⟨fun σ' H' => σ' = [some (.ref t), some (.int r), some (.ref g), some (.ref h), some (.int i), some (.int k)] ∧ Same G H' ∧ H' h = some (.lst ((hd.erase k).map V.int)), ?_, ?_⟩
          · obtain ⟨j, j1, j2, j3⟩ := pos_of_mem hkm
            refine ⟨_, rfl, .inl ⟨rfl, _, SqL.of e4⟩, _, rfl, h, hd, k, j, rfl, rfl, e4, j1, j2, rfl, hhn s4, ?_⟩
            rw [upd_same, j3]
          rintro σ' H6 ⟨rfl, s6, eh6⟩
          refine ⟨_, rfl, .inl ⟨rfl, _, SqL.of eh6⟩, _, rfl, _, rfl, _, rfl, _, _, rfl, rfl, _, rfl, _, rfl, _, rfl, _, _, rfl, rfl, _, _, rfl, rfl, _, rfl, g, _, rfl, SqT.of (s6 _ _ hg1), not_whole hr1 (by omega), fun p np => ?_⟩
          rw [cut_next]
          have sp := Same.up (o := .tup (((ns.drop (r + i)).take 1).map V.int)) np
          have hel : (hd.erase k).length ≤ 12 := by
            have := List.length_erase_le (a := k) (l := hd)
            omega
          refine ⟨p, _, rfl, .inr (SqT.of upd_same), fun l nl => ?_⟩
          have sl := sp.trans (Same.up (o := .lst (((ns.drop (r + i)).take 1).map V.int)) nl)
          refine ⟨h, l, _, _, rfl, rfl, sl _ _ eh6, upd_same, Nat.le_of_lt (small1000 (by rw [List.length_map, List.length_map, List.length_take]; omega)), ⟨_, _, rfl⟩, hhn (s6.trans sl), ?_⟩
          rw [upd_same, List.map_append]
        · rintro σ' H2 ⟨⟨x4, x5, rfl⟩, s3, _⟩
          exact ⟨x4, x5, rfl, s3⟩
    · rintro σ' H2 ⟨x4, x5, rfl, s3⟩
      exact q _ (s1.trans s3)
theorem b_iw (T : Tx K mg A) : L2.Binds K A.d_is_way ["thing", "room", "given"] [] := T.F_is_way.binds fun _ _ _ _ _ _ us hl => match us, hl with | [_, _, _], _ => rfl
def spRo : Sp := fun vs H Q _ => ∃ (r a t : Nat) (ns : List Int), vs = [.int r, .ref a, .ref t] ∧ 1 ≤ r ∧ r ≤ 12 ∧ Sq H a (ns.map V.int) ∧ KeysIn ns ∧ Sq H t ((writeL r ns).map V.int) ∧
  ∀ (H' : Hp) (q : Addr) (xs : List V), Same H H' → H q = none → H' q = some (.lst xs) → RowsAt H' xs (runsL (writeL r ns)) → Q (.ref q) H'
theorem ok_ro (T : Tx K mg A) : FnOk P w K mg base CX0 6 A.f_runs_of A.d_runs_of ["room", "row", "written"] spRo := by
  refine T.F_runs_of.ok sc_runs_of (fun vs H Q E h => ?_) (fun cdv B outer s H vs Q E hr h => ?_)
  · obtain ⟨r, a, t, ns, rfl, _⟩ := h
    rfl
  · obtain ⟨r, a, t, ns, rfl, hr1, hr12, ha, hk, ht, q⟩ := h
    have nd := sc_runs_of.nd
    refine ⟨_, PSs.nox (pss_cons (ps_expr (pe_call (ok_cr T) (hr.mono (by decide)) (by rfl) T.m_check_room T.F_check_room.kp (b_cr T) .nil pass0 (pa_cons (pv 0) pa_nil)))
      (pss_cons (ps_if (pt_not (pt_val (pe_call (ok_iw T) (hr.mono (by decide)) (by rfl) T.m_is_way T.F_is_way.kp (b_iw T) .nil pass0 (pa_cons (pv 2) (pa_cons (pv 0) (pa_cons (pe_call (ok_io T) (hr.mono (by decide)) (by rfl) T.m_input_of T.F_input_of.kp (b_io T) .nil pass0 (pa_cons (pv 1) pa_nil)) pa_nil)))))) (pss_one ps_never) pss_nil)
      (pss_one (ps_ret (pe_call (ok_ri T) (hr.mono (by decide)) (by rfl) T.m_runs_in T.F_runs_in.kp (b_ri T) .nil pass0 (pa_cons (pv 2) pa_nil)))))), ?_⟩
    refine ⟨_, rfl, r, rfl, ⟨hr1, hr12⟩, ?_⟩
    refine ⟨_, rfl, _, rfl, _, rfl, a, ns, rfl, ha, hk, fun H1 p s1 ep => ?_⟩
    refine ⟨t, r, p, ns, rfl, hr1, hr12, ep, hk, ht.same s1, fun H2 s2 => ⟨_, rfl, iteF ?_⟩⟩
    have s12 := s1.trans s2
    exact ⟨_, rfl, t, _, rfl, ht.same s12, by rw [write_len]; exact hk.1, fun H3 z xs s3 n3 e3 r3 => q _ z xs (s12.trans s3) (s12.free n3) e3 r3⟩
theorem b_ro (T : Tx K mg A) : L2.Binds K A.d_runs_of ["room", "row", "written"] [] := T.F_runs_of.binds fun _ _ _ _ _ _ us hl => match us, hl with | [_, _, _], _ => rfl
def spBr : Sp := fun vs H Q _ => ∃ (r a : Nat) (ns : List Int), vs = [.int r, .ref a] ∧ 1 ≤ r ∧ r ≤ 12 ∧ Sq H a (ns.map V.int) ∧ KeysIn ns ∧
  ∀ (H' : Hp) (q : Addr) (xs : List V), Same H H' → H q = none → H' q = some (.lst xs) → RowsAt H' xs (runsL (writeL r ns)) → Q (.ref q) H'
theorem ok_br (T : Tx K mg A) : FnOk P w K mg base CX0 6 A.f_by_replacement A.d_by_replacement ["room", "row"] spBr := by
  refine T.F_by_replacement.ok sc_by_replacement (fun vs H Q E h => ?_) (fun cdv B outer s H vs Q E hr h => ?_)
  · obtain ⟨r, a, ns, rfl, _⟩ := h
    rfl
  · obtain ⟨r, a, ns, rfl, hr1, hr12, ha, hk, q⟩ := h
    have nd := sc_by_replacement.nd
    refine ⟨_, PSs.nox (pss_cons (ps_expr (pe_call (ok_cr T) (hr.mono (by decide)) (by rfl) T.m_check_room T.F_check_room.kp (b_cr T) .nil pass0 (pa_cons (pv 0) pa_nil)))
      (pss_one (ps_ret (pe_call (ok_ri T) (hr.mono (by decide)) (by rfl) T.m_runs_in T.F_runs_in.kp (b_ri T) .nil pass0 (pa_cons (pe_call (ok_wr T) (hr.mono (by decide)) (by rfl) T.m_written_by_replacement T.F_written_by_replacement.kp (b_wr T) .nil pass0 (pa_cons (pv 0) (pa_cons (pe_call (ok_io T) (hr.mono (by decide)) (by rfl) T.m_input_of T.F_input_of.kp (b_io T) .nil pass0 (pa_cons (pv 1) pa_nil)) pa_nil))) pa_nil))))), ?_⟩
    refine ⟨_, rfl, r, rfl, ⟨hr1, hr12⟩, ?_⟩
    refine ⟨_, rfl, _, rfl, a, ns, rfl, ha, hk, fun H1 p s1 ep => ?_⟩
    refine ⟨r, p, ns, rfl, hr1, ep, hk.1, hr12, fun H2 t s2 et => ?_⟩
    have s12 := s1.trans s2
    exact ⟨t, _, rfl, .inr et, by rw [write_len]; exact hk.1, fun H3 z xs s3 n3 e3 r3 => q _ z xs (s12.trans s3) (s12.free n3) e3 r3⟩
theorem b_br (T : Tx K mg A) : L2.Binds K A.d_by_replacement ["room", "row"] [] := T.F_by_replacement.binds fun _ _ _ _ _ _ us hl => match us, hl with | [_, _], _ => rfl
def spFr : Sp := fun vs H Q _ => ∃ (r a : Nat) (ns : List Int), vs = [.int r, .ref a] ∧ 1 ≤ r ∧ r ≤ 12 ∧ Sq H a (ns.map V.int) ∧ KeysIn ns ∧ ∀ H' : Hp, Same H H' → Q (.int ((runsL (writeL r ns)).length : Nat)) H'
theorem ok_fr (T : Tx K mg A) : FnOk P w K mg base CX0 7 A.f_fewest_runs A.d_fewest_runs ["room", "row"] spFr := by
  refine T.F_fewest_runs.ok sc_fewest_runs (fun vs H Q E h => ?_) (fun cdv B outer s H vs Q E hr h => ?_)
  · obtain ⟨r, a, ns, rfl, _⟩ := h
    rfl
  · obtain ⟨r, a, ns, rfl, hr1, hr12, ha, hk, q⟩ := h
    refine ⟨_, (pss_one (ps_ret (pe_callB call_len_seq (by rfl) T.g_len PySem.boot_len (pa_cons (pe_call (ok_br T) (hr.mono (by decide)) (by rfl) T.m_by_replacement T.F_by_replacement.kp (b_br T) .nil pass0 (pa_cons (pv 0) (pa_cons (pv 1) pa_nil))) pa_nil)))), ?_⟩
    refine ⟨_, rfl, _, rfl, r, a, ns, rfl, hr1, hr12, ha, hk, fun H1 z xs s1 n1 e1 r1 => ?_⟩
    refine ⟨z, xs, rfl, .inl (SqL.of e1), ?_⟩
    rw [Paired.length r1]
    exact q _ s1
theorem b_fr (T : Tx K mg A) : L2.Binds K A.d_fewest_runs ["room", "row"] [] := T.F_fewest_runs.binds fun _ _ _ _ _ _ us hl => match us, hl with | [_, _], _ => rfl

end
end Tw

set_option Elab.async false
set_option linter.all false
set_option maxRecDepth 100000
set_option maxHeartbeats 2000000
namespace Tw
open PySem PySem.Spec PyProof.Rows L2
section
variable {P : Program} {w : World} {K : PySem.W.Frag} {mg : Str → Option Value} {base : Heap} {A : Ad}
/-! the law's own defs -/
/-- a drawn row of different keys -/
def spLi (K : PySem.W.Frag) : Sp := fun vs H Q _ => ∃ (a m : Nat) (ns : List Int), vs = [.ref a, .int 1, .int m] ∧ SqL K H a (ns.map V.int) ∧ ns.length ≤ 63 ∧ m ≤ 12 ∧
  ∀ (H' : Hp) (q : Addr) (ks : List Int), Same H H' → H q = none → H' q = some (.lst (ks.map V.int)) → KeysIn ks → Q (.ref q) H'
theorem cnt_drop {l : List Int} {k : Int} (h : k ∈ l) : l.countP (fun x => decide (k + 1 ≤ x)) < l.countP (fun x => decide (k ≤ x)) := by
  induction l with
  | nil => cases h
  | cons a l ih =>
    have mono : l.countP (fun x => decide (k + 1 ≤ x)) ≤ l.countP (fun x => decide (k ≤ x)) := List.countP_mono_left fun x _ hx => by
      rw [decide_eq_true_eq] at hx ⊢
      omega
    rw [List.countP_cons, List.countP_cons]
    by_cases e : a = k
    · subst e
      rw [if_neg (by rw [decide_eq_true_eq]; omega), if_pos (by rw [decide_eq_true_eq]; omega)]
      omega
    · have hm : k ∈ l := (List.mem_cons.mp h).resolve_left fun z => e z.symm
      have := ih hm
      by_cases c : k ≤ a
      · rw [if_pos (by rw [decide_eq_true_eq]; omega), if_pos (by rw [decide_eq_true_eq]; omega)]
        omega
      · rw [if_neg (by rw [decide_eq_true_eq]; omega), if_neg (by rw [decide_eq_true_eq]; omega)]
        omega
def muK (os : List Int) (o : Option (Option V)) : Nat := match o with
  | some (some (.int k)) => os.countP (fun x => decide (k ≤ x))
  | _ => 0
theorem ok_li (T : Tx K mg A) : FnOk P w K mg base CX0 3 A.f__law_input A.d__law_input ["script", "at", "many"] (spLi K) := by
  refine T.F__law_input.ok sc__law_input (fun vs H Q E h => ?_) (fun cdv B outer s H vs Q E hr h => ?_)
  · obtain ⟨a, m, ns, rfl, _⟩ := h
    rfl
  · obtain ⟨a, m, ns, rfl, ha, h63, hm, q⟩ := h
    have nd := sc__law_input.nd
    refine ⟨_, (pss_cons (ps_set (i := 3) nd rfl (Or.inl rfl) (pe_lst pa_nil))
      (C8.pss_cut (ps_for PassesOwn.never rfl (pi_range1 rfl T.g_range (pa_cons (pv 2) pa_nil)) (pg_name (i := 4) nd rfl (Or.inl rfl)) (C8.pss_cut (ps_set (i := 5) nd rfl (Or.inl rfl) (pe_op op_sub (pe_op op_mod (pe_callTy call_int1 (by rfl) T.g_int (by decide +kernel) (pa_cons (pe_call (ok_num T) (hr.mono (by decide)) (by rfl) T.m__law_number T.F__law_number.kp (b_num T) .nil pass0 (pa_cons (pv 0) (pa_cons (pe_op op_add (pv 1) (pv 4)) pa_nil))) pa_nil)) (pe_op op_add (pe_op op_mul pe_int (pv 2)) pe_int)) (pv 2)))
      (C8.pss_cut (ps_while PassesOwn.never (pt_cmpR (r := L2.rIn K false) op_in_seq (pv 5) (pv 3) (by rfl)) (pss_one (ps_set (i := 5) nd rfl (Or.inl rfl) (pe_op op_add (pv 5) pe_int))))
      (pss_one (ps_expr (pe_bm PySem.F.plainAttrs_list PySem.F.slot_list_append PySem.F.type_list_append mt_append (pv 3) (pa_cons (pv 5) pa_nil)))))))
      (pss_one (ps_ret (pv 3))))), ?_⟩
    refine ⟨Nat.zero_le _, fun D nD => ?_⟩
    have s0 := Same.up (o := .lst []) nD
    refine ⟨fun σ' H' => ∃ (x4 x5 : Option V) (ks : List Int), σ' = [some (.ref a), some (.int 1), some (.int m), some (.ref D), x4, x5] ∧ Same H H' ∧ H' D = some (.lst (ks.map V.int)) ∧ KeysIn ks, ?_, ?_⟩
    · refine ⟨_, rfl, _, rfl, by omega, by omega, ?_⟩
      rw [Int.toNat_natCast]
      refine for_it (walk_range (lo := 0) (n := m)) (fun i σ' H' => ∃ (x4 x5 : Option V) (ks : List Int), σ' = [some (.ref a), some (.int 1), some (.int m), some (.ref D), x4, x5] ∧ Same H H' ∧ H' D = some (.lst (ks.map V.int)) ∧ ks.length = i ∧ ks.Nodup ∧ ∀ k ∈ ks, -12 ≤ k ∧ k ≤ 40 + (i : Int))
        ⟨none, none, [], rfl, s0, upd_same, rfl, List.nodup_nil, fun k hk => nomatch hk⟩ (fun _ _ _ _ _ => trivial) ?_ ?_
      · rintro i y σ' H2 H3 hi ⟨x4, x5, ks, rfl, s3, e3, hkl, hkd, hkb⟩ ⟨rfl, ey⟩
        obtain rfl : y = V.int (i : Nat) := by
          rw [ey]
          show V.int (0 + (i : Int)) = _
          rw [Int.zero_add]
        refine ⟨fun σ' H' => ∃ k : Int, σ' = [some (.ref a), some (.int 1), some (.int m), some (.ref D), some (.int i), some (.int k)] ∧ Same H H' ∧ H' D = some (.lst (ks.map V.int)) ∧ -12 ≤ k ∧ k ≤ 24, ?_, ?_⟩
        · refine ⟨_, rfl, _, rfl, _, rfl, _, _, rfl, rfl, a, ns, 1 + i, congrArg (fun z => [V.ref a, V.int z]) (by omega), s3.seq ha, h63, by omega, fun H4 r s4 => ?_⟩
          refine .inl ⟨_, rfl, _, rfl, _, _, rfl, rfl, .inl ⟨by decide, by decide⟩, _, _, rfl, rfl, _, _, rfl, rfl, by omega, _, rfl, _, _, rfl, rfl, _, rfl, s3.trans s4, s4 _ _ e3, ?_, ?_⟩
          · have := Int.emod_nonneg r (show (3 : Int) * (m : Nat) + 1 ≠ 0 by omega)
            omega
          · have := Int.emod_lt_of_pos r (show (0 : Int) < 3 * (m : Nat) + 1 by omega)
            omega
        rintro σ' H4 ⟨k, rfl, s4, e4, hk1, hk2⟩
        refine ⟨fun σ' H' => ∃ k : Int, σ' = [some (.ref a), some (.int 1), some (.int m), some (.ref D), some (.int i), some (.int k)] ∧ H' = H4 ∧ -12 ≤ k ∧ k ≤ 40 + (i : Int) + 1 ∧ k ∉ ks, ?_, ?_⟩
        · refine while_by (fun σ' H' => ∃ k : Int, σ' = [some (.ref a), some (.int 1), some (.int m), some (.ref D), some (.int i), some (.int k)] ∧ H' = H4 ∧ -12 ≤ k ∧ k ≤ 40 + (i : Int) + 1) (fun σ' _ => muK ks σ'[5]?) ⟨k, rfl, rfl, hk1, by omega⟩ ?_ ?_
          · rintro σ' H5 ⟨k, rfl, rfl, hk1, hk2⟩
            refine ⟨_, rfl, _, rfl, D, _, rfl, .inl (SqL.of e4), rfl, ints_flat _, _, rfl, ?_⟩
            rw [if_neg Bool.false_ne_true, inV_ints]
            by_cases hin : k ∈ ks
            · rw [decide_eq_true hin]
              refine iteT ?_
              have := (hkb k hin).2
              refine ⟨_, rfl, _, _, rfl, rfl, ⟨k + 1, rfl, rfl, by omega, by omega⟩, ?_⟩
              exact cnt_drop hin
            · rw [decide_eq_false hin]
              exact iteF ⟨k, rfl, rfl, hk1, hk2, hin⟩
          · rintro σ' H1 Q1 Q2 mono ⟨v, hv, u, hu, p, xs, e1, e2, e3, e4, b, e5, z⟩
            exact ⟨v, hv, u, hu, p, xs, e1, e2, e3, e4, b, e5, mono _ _ z⟩
        rintro σ' H5 ⟨k, rfl, rfl, hk1, hk2, hin⟩
        refine ⟨_, rfl, .inl ⟨rfl, _, SqL.of e4⟩, _, rfl, D, _, _, rfl, rfl, e4, by rw [List.length_map, sizeLine_eq]; omega, _, _, ks ++ [k], rfl, fun b o e => ?_, ?_, by rw [List.length_append, hkl]; rfl, ?_, fun x hx => ?_⟩
        · rw [upd_ne (ne_of_none e nD)]
          exact s4 _ _ e
        · rw [upd_same, map_one]
        · rw [List.nodup_append]
          exact ⟨hkd, List.pairwise_singleton _ _, fun x hx y hy z => hin (by rw [← List.mem_singleton.mp hy, ← z]; exact hx)⟩
        · rcases List.mem_append.mp hx with z | z
          · have := hkb x z
            omega
          · rw [List.mem_singleton.mp z]
            omega
      · rintro σ' H2 ⟨x4, x5, ks, rfl, s3, e3, hkl, hkd, hkb⟩
        exact ⟨x4, x5, ks, rfl, s3, e3, by omega, fun x hx => by have := hkb x hx; omega, hkd⟩
    · rintro σ' H2 ⟨x4, x5, ks, rfl, s3, e3, hk⟩
      exact ⟨_, rfl, q _ D ks s3 nD e3 hk⟩
theorem b_li (T : Tx K mg A) : L2.Binds K A.d__law_input ["script", "at", "many"] [] := T.F__law_input.binds fun _ _ _ _ _ _ us hl => match us, hl with | [_, _, _], _ => rfl
theorem cut_len : ∀ (n : Nat) (w : List Int), w.length = n → (cutL w).length ≤ n ∧ (∀ run ∈ cutL w, run.length ≤ n ∧ run ≠ [])
  | 0, w, h => by
    rw [List.length_eq_zero_iff.mp h]
    exact ⟨Nat.le_refl _, fun run hr => absurd hr (by simp [cutL])⟩
  | n + 1, w, h => by
    obtain ⟨v, k, rfl, hv⟩ := snoc_of h
    obtain ⟨h1, h2⟩ := cut_len n v hv
    rw [cut_snoc]
    unfold stepC
    by_cases c : cutL v = [] ∨ k < lastI (lastL (cutL v))
    · rw [if_pos c]
      refine ⟨by rw [List.length_append, List.length_singleton]; omega, fun run hr => ?_⟩
      rcases List.mem_append.mp hr with e | e
      · have := h2 run e
        exact ⟨by omega, this.2⟩
      · rw [List.mem_singleton.mp e]
        simp
    · rw [if_neg c]
      have hn : cutL v ≠ [] := fun z => c (.inl z)
      have hp := List.length_pos_iff.mpr hn
      refine ⟨by rw [List.length_append, List.length_dropLast, List.length_singleton]; omega, fun run hr => ?_⟩
      rcases List.mem_append.mp hr with e | e
      · have := h2 run ((List.dropLast_sublist _).subset e)
        exact ⟨by omega, this.2⟩
      · rw [List.mem_singleton.mp e, List.length_append, List.length_singleton]
        have := (h2 _ (lastL_mem hn)).1
        exact ⟨by omega, by simp⟩
def spLcut : Sp := fun vs H Q _ => ∃ (a : Addr) (ws : List Int), vs = [.ref a] ∧ H a = some (.lst (ws.map V.int)) ∧ ws.length ≤ 12 ∧ ∀ (H' : Hp) (q : Addr) (xs : List V), Same H H' → H q = none → H' q = some (.lst xs) → RowsAt H' xs (cutL ws) → Q (.ref q) H'
theorem ok_lcut (T : Tx K mg A) : FnOk P w K mg base CX0 1 A.f__law_cut A.d__law_cut ["written"] spLcut := by
  refine T.F__law_cut.ok sc__law_cut (fun vs H Q E h => ?_) (fun cdv B outer s H vs Q E hr h => ?_)
  · obtain ⟨a, ws, rfl, _⟩ := h
    rfl
  · obtain ⟨a, ws, rfl, ha, h12, q⟩ := h
    have nd := sc__law_cut.nd
    have hu := hr.units
    refine ⟨_, (pss_cons (ps_set (i := 1) nd rfl (Or.inl rfl) (pe_lst pa_nil))
      (C8.pss_cut (ps_for PassesOwn.never rfl (pi_list (pv 0)) (pg_name (i := 2) nd rfl (Or.inl rfl)) (pss_one (ps_if (PW.pt (pw_or (pt_cmpR (op_eqD hu) (pv 1) (pe_lst pa_nil) (nomark _)) (pw_or1 (pt_cmpR op_lt (pv 2) (pe_ix (r := rIxT K) ix_tup (pe_ix (r := rIxL K) ix_list (pv 1) (pe_un un_neg pe_int) (fun _ _ => rfl)) (pe_un un_neg pe_int) (fun _ _ => rfl)) (nomark _))))) (pss_one (ps_expr (pe_bm PySem.F.plainAttrs_list PySem.F.slot_list_append PySem.F.type_list_append mt_append (pv 1) (pa_cons (pe_tup (pa_cons (pv 2) pa_nil)) pa_nil)))) (pss_one (ps_asg (pe_op (r := rCatA K) op_catA (pe_ix (r := rIxL K) ix_list (pv 1) (pe_un un_neg pe_int) (fun _ _ => rfl)) (pe_tup (pa_cons (pv 2) pa_nil))) (pg_sub (pv 1) (pe_un un_neg pe_int) set_list))))))
      (pss_one (ps_ret (pv 1))))), ?_⟩
    refine ⟨Nat.zero_le _, fun D nD => ?_⟩
    have s0 := Same.up (o := .lst []) nD
    refine ⟨fun σ' H' => ∃ (x2 : Option V) (xs : List V), σ' = [some (.ref a), some (.ref D), x2] ∧ Same H H' ∧ H' D = some (.lst xs) ∧ RowsAt H' xs (cutL ws), ?_, ?_⟩
    · refine ⟨_, rfl, a, rfl, ⟨_, SqL.of (s0 _ _ ha)⟩, ?_⟩
      refine for_it (walk_list (xs := ws.map V.int)) (fun i σ' H' => ∃ (x2 : Option V) (xs : List V), σ' = [some (.ref a), some (.ref D), x2] ∧ Same H H' ∧ H' D = some (.lst xs) ∧ RowsAt H' xs (cutL (ws.take i))) ⟨none, [], rfl, s0, upd_same, .nil⟩ (fun i σ' H' _ ⟨_, _, _, s, _⟩ => SqL.of (s _ _ ha)) ?_ ?_
      · rintro i x σ' H2 H3 hi ⟨x2, xs, rfl, s2, eD, rr⟩ ⟨rfl, hx⟩
        obtain ⟨hi2, rfl⟩ := ints_at hx
        have hlen := cut_len _ (ws.take i) rfl
        have hxl := Paired.length rr
        have htl : (ws.take i).length ≤ 12 := by rw [List.length_take]; omega
        rw [← List.take_append_getElem hi2, cut_snoc]
        refine ⟨_, rfl, Nat.zero_le _, fun l0 n0 => ?_⟩
        have s3 := Same.up (o := .lst []) n0
        have eD3 := s3 _ _ eD
        have rr3 := RowsAt.same rr s3
        have s23 := s2.trans s3
        refine ⟨.list ((cutL (ws.take i)).map rowD), .list [], .lst (SqL.of eD3) (rowsD_dp rr3), .lst (SqL.of upd_same) .nil, rowsD_shaped _, rfl, _, rfl, ?_⟩
        rw [show PyData.eqv (.list ((cutL (ws.take i)).map rowD)) (.list []) = decide (cutL (ws.take i) = []) from rowsL_eqv _ []]
        generalize upd H3 l0 (.lst []) = G3 at s3 eD3 rr3 s23
        have new : (cutL (ws.take i) = [] ∨ ws[i] < lastI (lastL (cutL (ws.take i)))) → ∀ (c : Addr) (G : Hp), Same G3 G → G c = some (.tup [V.int ws[i]]) → ∃ acc, G D = some (.lst acc) ∧ acc.length < sizeLine ∧
            ∃ (x2 : Option V) (xs : List V), [some (V.ref a), some (V.ref D), some (V.int ws[i])] = [some (V.ref a), some (V.ref D), x2] ∧ Same H (upd G D (.lst (acc ++ [V.ref c]))) ∧ upd G D (.lst (acc ++ [V.ref c])) D = some (.lst xs) ∧ RowsAt (upd G D (.lst (acc ++ [V.ref c]))) xs (stepC (cutL (ws.take i)) ws[i]) := fun hc c G s ec => by
          refine ⟨xs, s _ _ eD3, by rw [hxl, sizeLine_eq]; omega, _, _, rfl, fun b o e => ?_, upd_same, ?_⟩
          · rw [upd_ne (ne_of_none e nD)]
            exact s _ _ (s23 _ _ e)
          · unfold stepC
            rw [if_pos hc]
            exact RowsAt.put (s _ _ eD3) (RowsAt.push ⟨c, rfl, ec⟩ (RowsAt.same rr3 s))
        by_cases hn : cutL (ws.take i) = []
        · rw [decide_eq_true hn]
          refine iteT (iteT ?_)
          refine ⟨_, rfl, .inl ⟨rfl, _, SqL.of eD3⟩, _, rfl, by show 1 ≤ sizeLine; decide, fun c nc => ?_⟩
          obtain ⟨acc, a1, a2, a3⟩ := new (.inl hn) c _ (Same.up nc) upd_same
          exact ⟨D, _, _, rfl, rfl, a1, a2, a3⟩
        · obtain ⟨hxp, t, e1, et⟩ := rows_last rr3 hn
          have hlp := (hlen.2 _ (lastL_mem hn)).2
          rw [decide_eq_false hn]
          refine iteF ?_
          refine ⟨_, rfl, _, rfl, _, rfl, D, _, _, _, rfl, rfl, SqL.of eD3, at_last hxp, _, rfl, t, _, _, _, e1, rfl, SqT.of et, lastI_at hlp, _, _, rfl, rfl, _, rfl, ?_⟩
          by_cases hc : ws[i] < lastI (lastL (cutL (ws.take i)))
          · rw [decide_eq_true hc]
            refine iteT ?_
            refine ⟨_, rfl, .inl ⟨rfl, _, SqL.of eD3⟩, _, rfl, by show 1 ≤ sizeLine; decide, fun c nc => ?_⟩
            obtain ⟨acc, a1, a2, a3⟩ := new (.inr hc) c _ (Same.up nc) upd_same
            exact ⟨D, _, _, rfl, rfl, a1, a2, a3⟩
          · rw [decide_eq_false hc]
            refine iteF ?_
            refine ⟨_, rfl, _, rfl, D, _, _, _, rfl, rfl, SqL.of eD3, at_last hxp, _, rfl, by show 1 ≤ sizeLine; decide, fun u nu => ?_⟩
            have su := Same.up (o := .tup [V.int ws[i]]) nu
            have hll := (hlen.2 _ (lastL_mem hn)).1
            refine ⟨t, u, _, _, e1, rfl, SqT.of (su _ _ et), SqT.of upd_same, Nat.le_of_lt (small1000 (by rw [List.length_map, List.length_singleton]; omega)), fun hz => absurd (List.map_eq_nil_iff.mp hz) hlp, fun _ y => (nomatch y), fun _ _ c nc => ?_⟩
            have sG := su.trans (Same.up (o := .tup ((lastL (cutL (ws.take i))).map V.int ++ [V.int ws[i]])) nc)
            have ec := upd_same (H := upd G3 u (.tup [V.int ws[i]])) (a := c) (o := .tup ((lastL (cutL (ws.take i))).map V.int ++ [V.int ws[i]]))
            rw [map_one] at ec sG ⊢
            refine ⟨_, rfl, _, rfl, D, xs, -1, xs.length - 1, rfl, rfl, sG _ _ eD3, ?_, _, _, rfl, fun b o e => ?_, upd_same, ?_⟩
            · unfold ixN
              rw [if_neg (by decide), if_pos (by omega)]
              congr 1
              omega
            · rw [upd_ne (ne_of_none e nD)]
              exact sG _ _ (s23 _ _ e)
            · unfold stepC
              rw [if_neg (fun z => by rcases z with z | z; exact hn z; exact hc z)]
              exact grow_last rr3 hn eD3 sG ec
      · rintro σ' H2 ⟨x2, xs, rfl, s2, eD, rr⟩
        rw [List.length_map, List.take_length] at rr
        exact ⟨x2, xs, rfl, s2, eD, rr⟩
    · rintro σ' H2 ⟨x2, xs, rfl, s2, eD, rr⟩
      exact ⟨_, rfl, q _ D xs s2 nD eD rr⟩
theorem b_lcut (T : Tx K mg A) : L2.Binds K A.d__law_cut ["written"] [] := T.F__law_cut.binds fun _ _ _ _ _ _ us hl => match us, hl with | [_], _ => rfl
theorem minI_perm {a b : List Int} (h : a.Perm b) : minI a = minI b := by
  by_cases e : a = []
  · subst e
    rw [List.nil_perm.mp h]
  · have eb : b ≠ [] := fun z => e (by rw [z] at h; exact List.Perm.eq_nil h)
    obtain ⟨h1, h2⟩ := minI_ok a e
    exact minI_eq (h.mem_iff.mp h1) fun y hy => h2 y (h.mem_iff.mpr hy)
theorem pick_perm {a b w : List Int} (h : a.Perm b) : pickL a w = pickL b w := by
  unfold pickL
  have hf : (fitL a w).Perm (fitL b w) := h.filter _
  by_cases e : fitL a w = []
  · have e2 : fitL b w = [] := List.nil_perm.mp (by rw [e] at hf; exact hf)
    rw [if_pos e, if_pos e2, minI_perm h]
  · have e2 : fitL b w ≠ [] := fun z => e (by rw [z] at hf; exact List.Perm.eq_nil hf)
    rw [if_neg e, if_neg e2, minI_perm hf]
theorem head_min {x : Int} {l : List Int} (h : (x :: l).Pairwise (· ≤ ·)) : x = minI (x :: l) :=
  minI_eq List.mem_cons_self fun y hy => by
    rcases List.mem_cons.mp hy with e | e
    · rw [e]
      exact Int.le_refl _
    · exact (List.pairwise_cons.mp h).1 y e
theorem icut3 (p : List Int) (i : Nat) : cutV (p.map V.int) (some (i : Int)) none = (p.drop i).map V.int := by
  unfold cutV
  rw [HT.sIx_none, HT.sIx_nat, List.length_map]
  by_cases h : i ≤ p.length
  · rw [Nat.min_eq_left h, List.map_drop, List.take_of_length_le (by rw [List.length_drop, List.length_map]; exact Nat.le_refl _)]
  · rw [show (p.map V.int).drop (min i p.length) = [] from List.drop_of_length_le (by rw [List.length_map]; omega), List.drop_of_length_le (show p.length ≤ i by omega)]
    simp
def spLw : Sp := fun vs H Q _ => ∃ (r g : Nat) (ns : List Int), vs = [.int r, .ref g] ∧ 1 ≤ r ∧ H g = some (.lst (ns.map V.int)) ∧ ns.length ≤ 12 ∧ ∀ (H' : Hp) (t : Addr), Same H H' → H t = none → H' t = some (.lst ((writeL r ns).map V.int)) → Q (.ref t) H'
structure LwW (r : Nat) (ns : List Int) (h R W : Addr) (i : Nat) (hd : List Int) (H0 H : Hp) : Prop where
  s : Same H0 H
  nh : H0 h = Option.none
  hR : h ≠ R
  hW : h ≠ W
  eh : H h = some (.lst (hd.map V.int))
  perm : hd.Perm (stW r ns i).1
  srt : hd.Pairwise (· ≤ ·)
  eR : H R = some (.lst ((ns.drop (r + i)).map V.int))
  eW : H W = some (.lst ((stW r ns i).2.map V.int))
theorem ok_lw (T : Tx K mg A) : FnOk P w K mg base CX0 1 A.f__law_written A.d__law_written ["room", "given"] spLw := by
  refine T.F__law_written.ok sc__law_written (fun vs H Q E h => ?_) (fun cdv B outer s H vs Q E hr h => ?_)
  · obtain ⟨r, g, ns, rfl, _⟩ := h
    rfl
  · obtain ⟨r, g, ns, rfl, hr1, hg, h12, q⟩ := h
    have nd := sc__law_written.nd
    have hu := hr.units
    refine ⟨_, (C8.pss_cut (ps_asg (pe_tup (pa_cons (pe_callB cr_sortedI (by rfl) T.g_sorted (by decide +kernel) (pa_cons (pe_slice (r := rSlL K) sl_list (pv 1) po_none (po_some (pv 0))) pa_nil)) (pa_cons (pe_callTy call_list_of (by rfl) T.g_list (by decide +kernel) (pa_cons (pe_slice (r := rSlL K) sl_list (pv 1) (po_some (pv 0)) po_none) pa_nil)) (pa_cons (pe_lst pa_nil) pa_nil)))) (pg_tup rfl (pgs_cons (pg_name (i := 2) nd rfl (Or.inl rfl)) (pgs_cons (pg_name (i := 3) nd rfl (Or.inl rfl)) (pgs_cons (pg_name (i := 4) nd rfl (Or.inr rfl)) pgs_nil)))))
      (C8.pss_cut (ps_while PassesOwn.never (pt_cmpR (op_neD hu) (pv 2) (pe_lst pa_nil) (nomark _)) (C8.pss_cut (ps_setLc (i := 6) (own := [("key", 5)]) (g := gName 5) rfl nd rfl rfl (sw_true rfl rfl rfl (by decide +kernel)) (pi_list (pv 2)) (blkOk_by (own := [("key", 5)]) (N := ["room", "given", "held", "rest", "written", "key", "able"]) (sc := (defScope s__law_written)) (by decide +kernel)) (fun _ _ _ _ _ => pg_name (i := 5) nd rfl (Or.inl rfl)) (fun _ _ _ _ _ => pts_one (PW.pt (pw_or (pt_cmpR (r := rEqD K) (op_eqD hu) (pv 4) (pe_lst pa_nil) (nomark _)) (pw_or1 (pt_cmpR op_gt (pv 5) (pe_ix (r := rIxL K) ix_list (pv 4) (pe_un un_neg pe_int) (fun _ _ => rfl)) (nomark _)))))) (fun _ _ _ _ _ => (pv 5)))
      (C8.pss_cut (ps_set (i := 5) nd rfl (Or.inl rfl) (pe_ifExp (pt_cmpR (op_neD hu) (pv 6) (pe_lst pa_nil) (nomark _)) (pe_ix (r := rIxL K) ix_list (pv 6) pe_int (fun _ _ => rfl)) (pe_ix (r := rIxL K) ix_list (pv 2) pe_int (fun _ _ => rfl))))
      (C8.pss_cut (ps_expr (pe_bm PySem.F.plainAttrs_list PySem.F.slot_list_append PySem.F.type_list_append mt_append (pv 4) (pa_cons (pv 5) pa_nil)))
      (C8.pss_cut (ps_expr (pe_bm PySem.F.plainAttrs_list PySem.F.slot_list_remove PySem.F.type_list_remove mt_remove (pv 2) (pa_cons (pv 5) pa_nil)))
      (pss_one (ps_if (pt_cmpR (op_neD hu) (pv 3) (pe_lst pa_nil) (nomark _)) (pss_one (ps_set (i := 2) nd rfl (Or.inl rfl) (pe_callB cr_sortedI (by rfl) T.g_sorted (by decide +kernel) (pa_cons (pe_op op_cat (pv 2) (pe_lst (pa_cons (pe_bm PySem.F.plainAttrs_list PySem.F.slot_list_pop PySem.F.type_list_pop mt_popAt (pv 3) (pa_cons pe_int pa_nil)) pa_nil))) pa_nil)))) pss_nil)))))))
      (pss_one (ps_ret (pv 4))))), ?_⟩
    refine ⟨fun σ' H' => ∃ (h R W : Addr) (hd : List Int), σ' = [some (.int r), some (.ref g), some (.ref h), some (.ref R), some (.ref W), none, none] ∧ H R = none ∧ H W = none ∧ R ≠ W ∧ LwW r ns h R W 0 hd H H', ?_, ?_⟩
    · refine ⟨_, rfl, _, rfl, _, rfl, g, _, rfl, SqL.of hg, fun p np => ?_⟩
      rw [icut]
      have s1 := Same.up (o := .lst ((ns.take r).map V.int)) np
      refine ⟨p, ns.take r, rfl, SqL.of upd_same, fun hd h perm srt nh => ?_⟩
      have s2 := s1.trans (Same.up (o := .lst (hd.map V.int)) nh)
      have nh0 := s1.free nh
      have eh : upd (upd H p (.lst ((ns.take r).map V.int))) h (.lst (hd.map V.int)) h = some (.lst (hd.map V.int)) := upd_same
      generalize upd (upd H p (.lst ((ns.take r).map V.int))) h (.lst (hd.map V.int)) = G2 at s2 eh
      refine ⟨_, rfl, _, rfl, _, rfl, g, _, rfl, SqL.of (s2 _ _ hg), fun p3 np3 => ?_⟩
      rw [icut3]
      have s3 := s2.trans (Same.up (o := .lst ((ns.drop r).map V.int)) np3)
      have eh3 := (Same.up (o := .lst ((ns.drop r).map V.int)) np3) _ _ eh
      refine ⟨p3, _, rfl, .inl (SqL.of upd_same), fun R nR => ?_⟩
      have hRh : h ≠ R := fun z => by rw [z] at eh3; rw [eh3] at nR; cases nR
      have s4 := s3.trans (Same.up (o := .lst ((ns.drop r).map V.int)) nR)
      have nR0 := s3.free nR
      have eh4 := (Same.up (o := .lst ((ns.drop r).map V.int)) nR) _ _ eh3
      have eR4 : upd (upd G2 p3 (.lst ((ns.drop r).map V.int))) R (.lst ((ns.drop r).map V.int)) R = some (.lst ((ns.drop r).map V.int)) := upd_same
      generalize upd (upd G2 p3 (.lst ((ns.drop r).map V.int))) R (.lst ((ns.drop r).map V.int)) = G4 at s4 eh4 eR4
      refine ⟨Nat.zero_le _, fun W nW => ?_⟩
      have hWh : h ≠ W := fun z => by rw [z] at eh4; rw [eh4] at nW; cases nW
      have hRW : R ≠ W := fun z => by rw [z] at eR4; rw [eR4] at nW; cases nW
      have s5 := s4.trans (Same.up (o := .lst []) nW)
      have nW0 := s4.free nW
      refine ⟨by show 3 ≤ sizeLine; decide, fun t nt => ?_⟩
      have st := Same.up (o := .tup [V.ref h, V.ref R, V.ref W]) nt
      refine ⟨t, _, rfl, SqT.of upd_same, rfl, _, _, rfl, _, _, rfl, _, _, rfl, rfl, h, R, W, hd, rfl, nR0, nW0, hRW, s5.trans st, nh0, hRh, hWh, ?_, perm, srt, ?_, ?_⟩
      · exact st _ _ ((Same.up nW) _ _ eh4)
      · exact st _ _ ((Same.up nW) _ _ eR4)
      · exact st _ _ upd_same
    rintro σ' H1 ⟨h, R, W, hd, rfl, nR, nW, hRW, lw1⟩
    refine ⟨fun σ' H' => ∃ (h : Addr) (x5 x6 : Option V), σ' = [some (.int r), some (.ref g), some (.ref h), some (.ref R), some (.ref W), x5, x6] ∧ Same H H' ∧ H' W = some (.lst ((writeL r ns).map V.int)), ?_, ?_⟩
    · refine while_by (fun σ' H' => ∃ (i : Nat) (h : Addr) (hd : List Int) (x5 x6 : Option V), i ≤ ns.length ∧ σ' = [some (.int r), some (.ref g), some (.ref h), some (.ref R), some (.ref W), x5, x6] ∧ LwW r ns h R W i hd H H') (fun _ H' => ns.length - muL W H')
        ⟨0, h, hd, none, none, Nat.zero_le _, rfl, lw1⟩ ?_ ?_
      · rintro σ' H2 ⟨i, h, hd, x5, x6, hi, rfl, lw⟩
        have hhl := held_len hr1 hi (ns := ns) (r := r)
        have hpl := lw.perm.length_eq
        refine ⟨_, rfl, Nat.zero_le _, fun l0 n0 => ?_⟩
        have s3 := Same.up (o := .lst []) n0
        refine ⟨.list (hd.map PyData.int), .list [], .lst (SqL.of (s3 _ _ lw.eh)) (ints_dp _ _ _), .lst (SqL.of upd_same) .nil, shaped_ints _, rfl, _, rfl, ?_⟩
        rw [emp_eqv]
        by_cases hz : hd = []
        · rw [decide_eq_true hz]
          have hin : i = ns.length := by
            rw [hz, List.length_nil] at hpl
            omega
          subst hin
          exact iteF ⟨h, x5, x6, rfl, lw.s.trans s3, s3 _ _ lw.eW⟩
        · rw [decide_eq_false hz]
          refine iteT ?_
          have hin : i < ns.length := by
            have := List.length_pos_iff.mpr hz
            omega
          have lw3 : LwW r ns h R W i hd H (upd H2 l0 (.lst [])) := ⟨lw.s.trans s3, lw.nh, lw.hR, lw.hW, s3 _ _ lw.eh, lw.perm, lw.srt, s3 _ _ lw.eR, s3 _ _ lw.eW⟩
          generalize upd H2 l0 (.lst []) = G3 at lw3
          have hpk : pickL (stW r ns i).1 (stW r ns i).2 = pickL hd (stW r ns i).2 := pick_perm lw.perm.symm
          have hwl := stW_len r ns i
          have e1 : (stW r ns (i + 1)).1 = (stW r ns i).1.erase (pickL (stW r ns i).1 (stW r ns i).2) ++ (ns.drop (r + i)).take 1 := rfl
          have e2 : (stW r ns (i + 1)).2 = (stW r ns i).2 ++ [pickL (stW r ns i).1 (stW r ns i).2] := rfl
          have hkm := pick_in (stW r ns i).2 hz
          rw [hpk] at e1 e2
          have hfs : (fitL hd (stW r ns i).2).Pairwise (· ≤ ·) := lw.srt.sublist List.filter_sublist
          have hkd : pickL hd (stW r ns i).2 = minI (if fitL hd (stW r ns i).2 = [] then hd else fitL hd (stW r ns i).2) := rfl
          have hdf : fitL hd (stW r ns i).2 = hd.filter fun k => decide ((stW r ns i).2 = []) || decide (lastI (stW r ns i).2 < k) := rfl
          have hdl : hd.length ≤ 12 := by omega
          refine ⟨fun σ' H' => ∃ F : Addr, σ' = [some (.int r), some (.ref g), some (.ref h), some (.ref R), some (.ref W), x5, some (.ref F)] ∧ LwW r ns h R W i hd H H' ∧ H' F = some (.lst ((fitL hd (stW r ns i).2).map V.int)), ?_, ?_⟩
          · refine ⟨_, rfl, h, rfl, ⟨_, SqL.of lw3.eh⟩, fun D nD => ?_⟩
            refine lc_it (walk_list (xs := hd.map V.int)) (PickI G3 D hd fun z => if (decide ((stW r ns i).2 = []) || decide (lastI (stW r ns i).2 < z)) = true then some (V.int z) else none) (pick_start nD) (fun j H' _ p => SqL.of (p.s _ _ lw3.eh)) ?_ ?_
            · rintro j x H5 H6 hj pk ⟨rfl, ex⟩
              obtain ⟨hj2, rfl⟩ := map_at ex
              refine ⟨rfl, _, rfl, Nat.zero_le _, fun l5 n5 => ?_⟩
              have s5 := Same.up (o := .lst []) n5
              refine ⟨.list ((stW r ns i).2.map PyData.int), .list [], .lst (SqL.of (s5 _ _ (pk.s _ _ lw3.eW))) (ints_dp _ _ _), .lst (SqL.of upd_same) .nil, shaped_ints _, rfl, _, rfl, ?_⟩
              rw [emp_eqv]
              by_cases hw : (stW r ns i).2 = []
              · rw [decide_eq_true hw] at pk ⊢
                refine iteT (iteT ⟨_, rfl, pick_yes hj2 (by omega) (by rw [Bool.true_or]; rfl) s5 pk⟩)
              · rw [decide_eq_false hw] at pk ⊢
                refine iteF ?_
                refine ⟨_, rfl, _, rfl, _, rfl, W, _, _, _, rfl, rfl, SqL.of (s5 _ _ (pk.s _ _ lw3.eW)), lastI_at hw, _, _, rfl, rfl, _, rfl, ?_⟩
                by_cases hf : lastI (stW r ns i).2 < hd[j]
                · rw [decide_eq_true hf]
                  exact iteT ⟨_, rfl, pick_yes hj2 (by omega) (by rw [decide_eq_true hf, Bool.or_true]; rfl) s5 pk⟩
                · rw [decide_eq_false hf]
                  exact iteF (pick_no hj2 (by rw [decide_eq_false hf]; rfl) s5 pk)
            · intro H5 pk
              have aL := pick_end (by rw [List.length_map]) pk
              rw [pickI_map, ← hdf] at aL
              exact ⟨D, rfl, ⟨lw3.s.trans aL.s, lw3.nh, lw3.hR, lw3.hW, aL.s _ _ lw3.eh, lw3.perm, lw3.srt, aL.s _ _ lw3.eR, aL.s _ _ lw3.eW⟩, aL.a⟩
          rintro σ' H4 ⟨F, rfl, lw4, eF⟩
          refine ⟨fun σ' H' => σ' = [some (.int r), some (.ref g), some (.ref h), some (.ref R), some (.ref W), some (.int (pickL hd (stW r ns i).2)), some (.ref F)] ∧ LwW r ns h R W i hd H H', ?_, ?_⟩
          · refine ⟨_, rfl, Nat.zero_le _, fun l5 n5 => ?_⟩
            have s5 := Same.up (o := .lst []) n5
            have lw5 : LwW r ns h R W i hd H (upd H4 l5 (.lst [])) := ⟨lw4.s.trans s5, lw4.nh, lw4.hR, lw4.hW, s5 _ _ lw4.eh, lw4.perm, lw4.srt, s5 _ _ lw4.eR, s5 _ _ lw4.eW⟩
            refine ⟨.list ((fitL hd (stW r ns i).2).map PyData.int), .list [], .lst (SqL.of (s5 _ _ eF)) (ints_dp _ _ _), .lst (SqL.of upd_same) .nil, shaped_ints _, rfl, _, rfl, ?_⟩
            rw [emp_eqv]
            by_cases hf : fitL hd (stW r ns i).2 = []
            · rw [decide_eq_true hf]
              refine iteF ?_
              obtain ⟨x, l, hx⟩ := List.exists_cons_of_ne_nil hz
              have hm := lw.srt
              rw [hx] at hm
              have h0 := head_min hm
              refine ⟨_, rfl, h, hd.map V.int, 0, V.int x, rfl, rfl, SqL.of lw5.eh, by rw [hx]; exact atI_nat (j := 0) rfl, ?_, lw5⟩
              rw [hkd, if_pos hf, hx, ← h0]
              rfl
            · rw [decide_eq_false hf]
              refine iteT ?_
              obtain ⟨x, l, hx⟩ := List.exists_cons_of_ne_nil hf
              have hm := hfs
              rw [hx] at hm
              have h0 := head_min hm
              refine ⟨_, rfl, F, (fitL hd (stW r ns i).2).map V.int, 0, V.int x, rfl, rfl, SqL.of (s5 _ _ eF), by rw [hx]; exact atI_nat (j := 0) rfl, ?_, lw5⟩
              rw [hkd, if_neg hf, hx, ← h0]
              rfl
          rintro σ' H5 ⟨rfl, lw5⟩
          generalize pickL hd (stW r ns i).2 = k at *
          refine ⟨fun σ' H' => σ' = [some (.int r), some (.ref g), some (.ref h), some (.ref R), some (.ref W), some (.int k), some (.ref F)] ∧ Same H H' ∧ H' h = some (.lst (hd.map V.int)) ∧ H' R = some (.lst ((ns.drop (r + i)).map V.int)) ∧ H' W = some (.lst ((stW r ns (i + 1)).2.map V.int)), ?_, ?_⟩
          · refine ⟨_, rfl, .inl ⟨rfl, _, SqL.of lw5.eW⟩, _, rfl, W, _, _, rfl, rfl, lw5.eW, by rw [List.length_map, sizeLine_eq]; omega, rfl, fun b o e => ?_, ?_, ?_, ?_⟩
            · rw [upd_ne (ne_of_none e nW)]
              exact lw5.s _ _ e
            · rw [upd_ne lw5.hW]
              exact lw5.eh
            · rw [upd_ne hRW]
              exact lw5.eR
            · rw [upd_same, map_one, e2]
          rintro σ' H6 ⟨rfl, s6, eh6, eR6, eW6⟩
          refine ⟨fun σ' H' => σ' = [some (.int r), some (.ref g), some (.ref h), some (.ref R), some (.ref W), some (.int k), some (.ref F)] ∧ Same H H' ∧ H' h = some (.lst ((hd.erase k).map V.int)) ∧ H' R = some (.lst ((ns.drop (r + i)).map V.int)) ∧ H' W = some (.lst ((stW r ns (i + 1)).2.map V.int)), ?_, ?_⟩
          · obtain ⟨j, j1, j2, j3⟩ := pos_of_mem hkm
            refine ⟨_, rfl, .inl ⟨rfl, _, SqL.of eh6⟩, _, rfl, h, hd, k, j, rfl, rfl, eh6, j1, j2, rfl, fun b o e => ?_, ?_, ?_, ?_⟩
            · rw [upd_ne (ne_of_none e lw5.nh)]
              exact s6 _ _ e
            · rw [upd_same, j3]
            · rw [upd_ne lw5.hR.symm]
              exact eR6
            · rw [upd_ne lw5.hW.symm]
              exact eW6
          rintro σ' H7 ⟨rfl, s7, eh7, eR7, eW7⟩
          have hmu : ∀ {G : Hp}, G W = some (.lst ((stW r ns (i + 1)).2.map V.int)) → ns.length - muL W G < ns.length - muL W H2 := fun e => by
            rw [muL_at e, muL_at lw.eW, List.length_map, List.length_map, stW_len, stW_len]
            omega
          have hep : (hd.erase k).Perm ((stW r ns i).1.erase k) := lw.perm.erase k
          refine ⟨_, rfl, Nat.zero_le _, fun l8 n8 => ?_⟩
          have s8 := Same.up (o := .lst []) n8
          refine ⟨.list ((ns.drop (r + i)).map PyData.int), .list [], .lst (SqL.of (s8 _ _ eR7)) (ints_dp _ _ _), .lst (SqL.of upd_same) .nil, shaped_ints _, rfl, _, rfl, ?_⟩
          rw [emp_eqv]
          have eh8 := s8 _ _ eh7
          have eR8 := s8 _ _ eR7
          have eW8 := s8 _ _ eW7
          have s78 := s7.trans s8
          generalize upd H7 l8 (.lst []) = G8 at eh8 eR8 eW8 s78
          by_cases hrest : ns.drop (r + i) = []
          · rw [decide_eq_true hrest]
            refine iteF ⟨⟨i + 1, h, hd.erase k, _, _, hin, rfl, ⟨s78, lw5.nh, lw5.hR, lw5.hW, eh8, ?_, lw.srt.sublist List.erase_sublist, ?_, eW8⟩⟩, hmu eW8⟩
            · rw [e1, hrest, List.take_nil, List.append_nil]
              exact hep
            · rw [eR8, hrest, show r + (i + 1) = r + i + 1 by omega, ← List.drop_drop, hrest]
              rfl
          · rw [decide_eq_false hrest]
            refine iteT ?_
            obtain ⟨x, l, hx⟩ := List.exists_cons_of_ne_nil hrest
            have hl : ns.drop (r + (i + 1)) = l := by
              rw [show r + (i + 1) = r + i + 1 by omega, ← List.drop_drop, hx]
              rfl
            rw [hx] at eR8
            refine ⟨_, rfl, _, rfl, .inl ⟨rfl, _, SqL.of eR8⟩, R, _, 0, 0, V.int x, rfl, rfl, eR8, by decide, by decide, by unfold seqIndex?; simp, rfl, by show 1 ≤ sizeLine; decide, fun z nz => ?_⟩
            have sR : Same H (upd G8 R (.lst ((V.int x :: l.map V.int).eraseIdx 0))) := fun b o e => by
              rw [upd_ne (ne_of_none e nR)]
              exact s78 _ _ e
            have ehR : upd G8 R (.lst ((V.int x :: l.map V.int).eraseIdx 0)) h = some (.lst ((hd.erase k).map V.int)) := by
              rw [upd_ne lw5.hR]
              exact eh8
            have eRR : upd G8 R (.lst ((V.int x :: l.map V.int).eraseIdx 0)) R = some (.lst (l.map V.int)) := upd_same
            have eWR : upd G8 R (.lst ((V.int x :: l.map V.int).eraseIdx 0)) W = some (.lst ((stW r ns (i + 1)).2.map V.int)) := by
              rw [upd_ne hRW.symm]
              exact eW8
            have hel : (hd.erase k).length ≤ 12 := by
              have := List.length_erase_le (a := k) (l := hd)
              omega
            have sz := Same.up (o := .lst [V.int x]) nz
            refine ⟨h, z, _, _, rfl, rfl, sz _ _ ehR, upd_same, Nat.le_of_lt (small1000 (by rw [List.length_map, List.length_singleton]; omega)), fun p np => ?_⟩
            rw [map_one]
            have sp := Same.up (o := .lst ((hd.erase k ++ [x]).map V.int)) np
            refine ⟨p, hd.erase k ++ [x], rfl, SqL.of upd_same, fun hd2 h2 perm2 srt2 nh2 => ?_⟩
            have sq := Same.up (o := .lst (hd2.map V.int)) nh2
            have sA := (sz.trans sp).trans sq
            have eR9 := sA _ _ eRR
            have eW9 := sA _ _ eWR
            have nR2 : h2 ≠ R := fun c => by
              rw [c] at nh2
              have := (sz.trans sp) _ _ eRR
              rw [nh2] at this
              cases this
            have nW2 : h2 ≠ W := fun c => by
              rw [c] at nh2
              have := (sz.trans sp) _ _ eWR
              rw [nh2] at this
              cases this
            refine ⟨⟨i + 1, h2, hd2, _, _, hin, rfl, ⟨sR.trans sA, sR.free ((sz.trans sp).free nh2), nR2, nW2, upd_same, ?_, srt2, ?_, eW9⟩⟩, hmu eW9⟩
            · rw [e1, hx]
              exact perm2.trans (hep.append_right _)
            · rw [hl]
              exact eR9
      · rintro σ' H2 Q1 Q2 mono ⟨v, hv, hz, f⟩
        exact ⟨v, hv, hz, fun l hl => let ⟨d, e, a, b, s1, s2, c, e2, z⟩ := f l hl; ⟨d, e, a, b, s1, s2, c, e2, mono _ _ z⟩⟩
    · rintro σ' H2 ⟨h, x5, x6, rfl, s2, eW⟩
      exact ⟨_, rfl, q _ W s2 nW eW⟩
theorem b_lw (T : Tx K mg A) : L2.Binds K A.d__law_written ["room", "given"] [] := T.F__law_written.binds fun _ _ _ _ _ _ us hl => match us, hl with | [_, _], _ => rfl

end
end Tw

set_option Elab.async false
set_option linter.all false
set_option maxRecDepth 100000
set_option maxHeartbeats 2000000
namespace Tw
open PySem PySem.Spec PyProof.Rows L2
section
variable {P : Program} {w : World} {K : PySem.W.Frag} {mg : Str → Option Value} {base : Heap} {A : Ad}
/-! the law -/
def spLaw (K : PySem.W.Frag) : Sp := fun vs H Q _ => ∃ (a : Addr) (ns : List Int), vs = [.ref a] ∧ SqL K H a (ns.map V.int) ∧ ns.length ≤ 63 ∧ ∀ H', Q (.bl true) H'
theorem cut_last (xs : List V) : cutV xs none (some (-1)) = xs.dropLast := by
  unfold cutV
  rw [HT.sIx_none, List.drop_zero, Nat.sub_zero, List.dropLast_eq_take]
  show xs.take (if (-1 : Int) < 0 then ((-1 : Int) + (xs.length : Int)).toNat else min (-1 : Int).toNat xs.length) = _
  rw [if_pos (by decide), show ((-1 : Int) + (xs.length : Int)).toNat = xs.length - 1 by omega]
theorem repl_any (n : Nat) : (List.replicate n false).any id = false := by
  rw [List.any_eq_false]
  intro x hx
  rw [(List.mem_replicate.mp hx).2]
  exact Bool.false_ne_true
theorem rows_drop {H : Hp} {ys : List V} {ms : List (List Int)} (h : RowsAt H ys ms) : RowsAt H ys.dropLast ms.dropLast := by
  induction h with
  | nil => exact .nil
  | cons a b ih =>
    cases b with
    | nil => exact .nil
    | cons c d => exact .cons a ih
theorem long_runs {r : Nat} {ns : List Int} (hr : 1 ≤ r) (hd : ns.Nodup) : ∀ run ∈ (runsL (writeL r ns)).dropLast, r ≤ run.length := (long_ok hr hd ns.length (Nat.le_refl _)).old
theorem cut_runs {r : Nat} {ns : List Int} (hr : 1 ≤ r) (hd : ns.Nodup) : cutL (writeL r ns) = runsL (writeL r ns) := runs_cut _ _ rfl ((write_perm hr).nodup_iff.mpr hd)
theorem rows_eq {K : PySem.W.Frag} {H : Hp} {p q : Addr} {xs ys : List V} {ls : List (List Int)} (h1 : H p = some (.lst xs)) (r1 : RowsAt H xs ls) (h2 : H q = some (.lst ys)) (r2 : RowsAt H ys ls) :
    ∃ d e, Dp K H (.ref p) d ∧ Dp K H (.ref q) e ∧ SeqAt.shaped d = true ∧ SeqAt.shaped e = true ∧ PyData.eqv d e = true :=
  ⟨.list (ls.map rowD), .list (ls.map rowD), .lst (SqL.of h1) (rowsD_dp r1), .lst (SqL.of h2) (rowsD_dp r2), rowsD_shaped _, rowsD_shaped _, by rw [rowsL_eqv, decide_eq_true rfl]⟩
theorem ok_law (T : Tx K mg A) : FnOk P w K mg base CX0 8 A.f_law A.d_law ["script"] (spLaw K) := by
  refine T.F_law.ok sc_law (fun vs H Q E h => ?_) (fun cdv B outer s H vs Q E hr h => ?_)
  · obtain ⟨a, ns, rfl, _⟩ := h
    rfl
  · obtain ⟨a, ns, rfl, ha, h63, q⟩ := h
    have nd := sc_law.nd
    have hu : (B.deeper (envOfC "law" (defScope s_law) s.heap.objs.size A.f_law cdv)).units + 64 < cLine := by have := hr.un; omega
    refine ⟨_, PSs.nox (C8.pss_cut (ps_set (i := 1) nd rfl (Or.inl rfl) (pe_callTy call_int1 (by rfl) T.g_int (by decide +kernel) (pa_cons (pe_call (ok_num T) (hr.mono (by decide)) (by rfl) T.m__law_number T.F__law_number.kp (b_num T) .nil pass0 (pa_cons (pv 0) (pa_cons pe_int pa_nil))) pa_nil)))
      (C8.pss_cut (ps_set (i := 2) nd rfl (Or.inl rfl) (pe_call (ok_li T) (hr.mono (by decide)) (by rfl) T.m__law_input T.F__law_input.kp (b_li T) .nil pass0 (pa_cons (pv 0) (pa_cons pe_int (pa_cons (pe_op op_mod (pe_callTy call_int1 (by rfl) T.g_int (by decide +kernel) (pa_cons (pv 1) pa_nil)) pe_int) pa_nil)))))
      (C8.pss_cut (ps_for PassesOwn.never rfl (pi_range2 rfl T.g_range (pa_cons pe_int (pa_cons pe_int pa_nil))) (pg_name (i := 3) nd rfl (Or.inr rfl)) (C8.pss_cut (ps_set (i := 4) nd rfl (Or.inl rfl) (pe_call (ok_lcut T) (hr.mono (by decide)) (by rfl) T.m__law_cut T.F__law_cut.kp (b_lcut T) .nil pass0 (pa_cons (pe_call (ok_lw T) (hr.mono (by decide)) (by rfl) T.m__law_written T.F__law_written.kp (b_lw T) .nil pass0 (pa_cons (pv 3) (pa_cons (pv 2) pa_nil))) pa_nil)))
      (C8.pss_cut (ps_set (i := 5) nd rfl (Or.inl rfl) (pe_call (ok_br T) (hr.mono (by decide)) (by rfl) T.m_by_replacement T.F_by_replacement.kp (b_br T) .nil pass0 (pa_cons (pv 3) (pa_cons (pv 2) pa_nil))))
      (C8.pss_cut (ps_if (PW.pt (pw_or (pt_cmpR (op_neD hu) (pv 5) (pv 4) (nomark _)) (pw_or (pt_not (pt_val (pe_callB call_isi (by rfl) T.g_isinstance (by decide +kernel) (pa_cons (pv 5) (pa_cons (pe_bltn (v := .ty "list") (by rfl) T.g_list (by decide +kernel) rfl) pa_nil))))) (pw_or1 (pt_cmpR (op_neD hu) (pe_call (ok_br T) (hr.mono (by decide)) (by rfl) T.m_by_replacement T.F_by_replacement.kp (b_br T) .nil pass0 (pa_cons (pv 3) (pa_cons (pe_callTy call_tuple_of (by rfl) T.g_tuple (by decide +kernel) (pa_cons (pv 2) pa_nil)) pa_nil))) (pv 4) (nomark _)))))) (pss_one (ps_ret pe_bl)) pss_nil)
      (C8.pss_cut (ps_if (PW.pt (pw_or (pt_val (pe_callB (cr_any rfl) (by rfl) T.g_any (by decide +kernel) (pa_cons (pe_lc (own := [("one", 6)]) (g := gName 6) (tt := tYes) rfl nd (pi_list (pv 5)) (blkOk_by (own := [("one", 6)]) (N := ["script", "seed", "given", "room", "due", "found", "one"]) (sc := (defScope s_law)) (by decide +kernel)) (fun _ _ _ _ _ => pg_name (i := 6) nd rfl (Or.inl rfl)) (fun _ _ _ _ _ => pts_nil) (fun _ _ _ _ _ => (pe_not (pe_callB (r := rIsi K) call_isi (by rfl) T.g_isinstance (by decide +kernel) (pa_cons (pv 6) (pa_cons (pe_bltn (v := .ty "tuple") (by rfl) T.g_tuple (by decide +kernel) rfl) pa_nil)))))) pa_nil))) (pw_or1 (pt_val (pe_callB (cr_any rfl) (by rfl) T.g_any (by decide +kernel) (pa_cons (pe_lc (own := [("one", 6)]) (g := gName 6) (tt := tYes) rfl nd (pi_list (pe_slice (r := rSlL K) sl_list (pv 5) po_none (po_some (pe_un un_neg pe_int)))) (blkOk_by (own := [("one", 6)]) (N := ["script", "seed", "given", "room", "due", "found", "one"]) (sc := (defScope s_law)) (by decide +kernel)) (fun _ _ _ _ _ => pg_name (i := 6) nd rfl (Or.inl rfl)) (fun _ _ _ _ _ => pts_nil) (fun _ _ _ _ _ => (pe_cmpR op_lt (pe_callB (r := rLn K) call_len_seq (by rfl) T.g_len PySem.boot_len (pa_cons (pv 6) pa_nil)) (pv 3) (nomark _)))) pa_nil)))))) (pss_one (ps_ret pe_bl)) pss_nil)
      (C8.pss_cut (ps_if (pt_cmpR op_ne (pe_call (ok_fr T) (hr.mono (by decide)) (by rfl) T.m_fewest_runs T.F_fewest_runs.kp (b_fr T) .nil pass0 (pa_cons (pv 3) (pa_cons (pv 2) pa_nil))) (pe_callB call_len_seq (by rfl) T.g_len PySem.boot_len (pa_cons (pv 4) pa_nil)) (nomark _)) (pss_one (ps_ret pe_bl)) pss_nil)
      (C8.pss_cut (ps_if (pt_cmpR (op_neD hu) (pe_call (ok_ro T) (hr.mono (by decide)) (by rfl) T.m_runs_of T.F_runs_of.kp (b_ro T) .nil pass0 (pa_cons (pv 3) (pa_cons (pv 2) (pa_cons (pe_call (ok_lw T) (hr.mono (by decide)) (by rfl) T.m__law_written T.F__law_written.kp (b_lw T) .nil pass0 (pa_cons (pv 3) (pa_cons (pv 2) pa_nil))) pa_nil)))) (pv 4) (nomark _)) (pss_one (ps_ret pe_bl)) pss_nil)
      (C8.pss_cut (ps_expr (pe_bm PySem.F.plainAttrs_list PySem.F.slot_list_append PySem.F.type_list_append mt_append (pv 5) (pa_cons (pe_tup (pa_cons pe_int pa_nil)) pa_nil)))
      (pss_one (ps_if (pt_cmpR (op_neD hu) (pe_call (ok_br T) (hr.mono (by decide)) (by rfl) T.m_by_replacement T.F_by_replacement.kp (b_br T) .nil pass0 (pa_cons (pv 3) (pa_cons (pv 2) pa_nil))) (pv 4) (nomark _)) (pss_one (ps_ret pe_bl)) pss_nil))))))))))
      (C8.pss_cut (ps_if (pt_cmpR (op_neD hu) (pe_call (ok_br T) (hr.mono (by decide)) (by rfl) T.m_by_replacement T.F_by_replacement.kp (b_br T) .nil pass0 (pa_cons pe_int (pa_cons (pv 2) pa_nil))) (pe_call (ok_lcut T) (hr.mono (by decide)) (by rfl) T.m__law_cut T.F__law_cut.kp (b_lcut T) .nil pass0 (pa_cons (pv 2) pa_nil)) (nomark _)) (pss_one (ps_ret pe_bl)) pss_nil)
      (pss_one (ps_ret (pe_cmpR (op_eqD hu) (pe_call (ok_br T) (hr.mono (by decide)) (by rfl) T.m_by_replacement T.F_by_replacement.kp (b_br T) .nil pass0 (pa_cons pe_int (pa_cons (pv 2) pa_nil))) (pe_ifExp (pt_cmpR (op_neD hu) (pv 2) (pe_lst pa_nil) (nomark _)) (pe_lst (pa_cons (pe_callTy call_tuple_of (by rfl) T.g_tuple (by decide +kernel) (pa_cons (pe_callB cr_sortedI (by rfl) T.g_sorted (by decide +kernel) (pa_cons (pv 2) pa_nil)) pa_nil)) pa_nil)) (pe_lst pa_nil)) (nomark _)))))))), ?_⟩
    refine ⟨fun σ' H' => ∃ r : Int, σ' = [some (.ref a), some (.int r), none, none, none, none, none] ∧ Same H H', ?_, ?_⟩
    · exact ⟨_, rfl, a, ns, 0, rfl, ha, h63, by omega, fun H1 r s1 => .inl ⟨_, rfl, r, rfl, s1⟩⟩
    rintro σ' H1 ⟨r, rfl, s1⟩
    refine ⟨fun σ' H' => ∃ (g : Addr) (ks : List Int), σ' = [some (.ref a), some (.int r), some (.ref g), none, none, none, none] ∧ H' g = some (.lst (ks.map V.int)) ∧ KeysIn ks, ?_, ?_⟩
    · have m0 := Int.emod_nonneg r (show (13 : Int) ≠ 0 by decide)
      have m1 := Int.emod_lt_of_pos r (show (0 : Int) < 13 by decide)
      obtain ⟨m, hm⟩ : ∃ m : Nat, r % 13 = (m : Int) := ⟨_, (Int.toNat_of_nonneg m0).symm⟩
      refine ⟨_, rfl, _, rfl, .inl ⟨_, rfl, _, _, rfl, rfl, by show (0 : Int) < 13; decide, a, m, ns, congrArg (fun z => [V.ref a, V.int 1, V.int z]) hm, s1.seq ha, h63, by omega, fun H2 g ks s2 n2 e2 hk => ⟨g, ks, rfl, e2, hk⟩⟩⟩
    rintro σ' H2 ⟨g, ks, rfl, eg, hk⟩
    obtain ⟨h12, hkb, hkd⟩ := id hk
    refine ⟨fun σ' H' => ∃ (x3 x4 x5 : Option V), σ' = [some (.ref a), some (.int r), some (.ref g), x3, x4, x5, none] ∧ Same H2 H', ?_, ?_⟩
    · refine ⟨_, _, rfl, ⟨by decide, by decide, by decide, by decide⟩, ?_⟩
      rw [show ((13 : Int) - 1).toNat = 12 by decide]
      refine for_it (walk_range (lo := 1) (n := 12)) (fun i σ' H' => ∃ (x3 x4 x5 : Option V), σ' = [some (.ref a), some (.int r), some (.ref g), x3, x4, x5, none] ∧ Same H2 H') ⟨none, none, none, rfl, Same.refl _⟩ (fun _ _ _ _ _ => trivial) ?_ ?_
      · rintro i y σ' H3 H4 hi ⟨x3, x4, x5, rfl, s3⟩ ⟨rfl, ey⟩
        obtain ⟨m, rfl⟩ : ∃ m : Nat, m = i + 1 := ⟨_, rfl⟩
        obtain rfl : y = V.int ((i + 1 : Nat) : Int) := by
          rw [ey]
          show V.int (1 + (i : Int)) = _
          rw [show (1 : Int) + (i : Int) = ((i + 1 : Nat) : Int) by omega]
        have hr1 : 1 ≤ i + 1 := by omega
        have hr12 : i + 1 ≤ 12 := by omega
        generalize i + 1 = m at hr1 hr12
        have hcr := cut_runs hr1 hkd
        have hwl : (writeL m ks).length ≤ 12 := by rw [write_len]; exact h12
        have hrl := (runs_len _ (writeL m ks) rfl).1
        -- due
        refine ⟨fun σ' H' => ∃ (d : Addr) (ds : List V), σ' = [some (.ref a), some (.int r), some (.ref g), some (.int m), some (.ref d), x5, none] ∧ Same H2 H' ∧ H' d = some (.lst ds) ∧ RowsAt H' ds (runsL (writeL m ks)), ?_, ?_⟩
        · refine ⟨_, rfl, _, rfl, m, g, ks, rfl, hr1, s3 _ _ eg, h12, fun H5 t s5 n5 e5 => ?_⟩
          refine ⟨t, writeL m ks, rfl, e5, hwl, fun H6 d ds s6 n6 e6 r6 => ?_⟩
          rw [hcr] at r6
          exact ⟨d, ds, rfl, (s3.trans s5).trans s6, e6, r6⟩
        rintro σ' H5 ⟨d, ds, rfl, s5, e5, r5⟩
        -- found
        refine ⟨fun σ' H' => ∃ (f : Addr) (fs : List V), σ' = [some (.ref a), some (.int r), some (.ref g), some (.int m), some (.ref d), some (.ref f), none] ∧ Same H5 H' ∧ H5 f = none ∧ H' f = some (.lst fs) ∧ RowsAt H' fs (runsL (writeL m ks)), ?_, ?_⟩
        · exact ⟨_, rfl, _, rfl, m, g, ks, rfl, hr1, hr12, .inl (s5 _ _ eg), hk, fun H6 f fs s6 n6 e6 r6 => ⟨f, fs, rfl, s6, n6, e6, r6⟩⟩
        rintro σ' H6 ⟨f, fs, rfl, s6, nf, e6, r6⟩
        have hfl : fs.length ≤ 12 := by
          have := Paired.length r6
          omega
        generalize eS : ([some (.ref a), some (.int r), some (.ref g), some (.int m), some (.ref d), some (.ref f), none] : L2.St) = S0
        have dat : ∀ {G : Hp}, Same H6 G → G d = some (.lst ds) ∧ RowsAt G ds (runsL (writeL m ks)) ∧ G g = some (.lst (ks.map V.int)) := fun s => ⟨s _ _ (s6 _ _ e5), RowsAt.same r5 (s6.trans s), s _ _ (s6 _ _ (s5 _ _ eg))⟩
        refine ⟨fun σ' H' => σ' = S0 ∧ Same H6 H', ?_, ?_⟩
        · subst eS
          obtain ⟨d1, d2, d3⟩ := dat (Same.refl _)
          obtain ⟨u, v, hu1, hv1, su, sv, huv⟩ := rows_eq (K := K) e6 r6 d1 d2
          refine ⟨_, rfl, _, rfl, u, v, hu1, hv1, su, sv, _, rfl, ?_⟩
          rw [huv]
          refine iteF ?_
          refine ⟨_, rfl, _, _, .type "list", .type "list", true, rfl, .ty "list", .base (.lst e6), kit_ty (by decide +kernel), true, rfl, iteF ?_⟩
          refine ⟨_, rfl, _, rfl, g, _, rfl, .inl ⟨SqL.of d3, fun t nt => ?_⟩⟩
          have st := Same.up (o := .tup (ks.map V.int)) nt
          refine ⟨m, t, ks, rfl, hr1, hr12, .inr upd_same, hk, fun H7 z zs s7 n7 e7 r7 => ?_⟩
          have s67 := st.trans s7
          obtain ⟨f1, f2, f3⟩ := dat s67
          obtain ⟨u, v, hu1, hv1, su, sv, huv⟩ := rows_eq (K := K) e7 r7 f1 f2
          refine ⟨_, rfl, u, v, hu1, hv1, su, sv, _, rfl, ?_⟩
          rw [huv]
          exact iteF ⟨rfl, s67⟩
        rintro σ' H7 ⟨eq, s7⟩
        subst σ'
        refine ⟨fun σ' H' => σ' = S0 ∧ Same H6 H', ?_, ?_⟩
        · subst eS
          have e7 := s7 _ _ e6
          have r7 := RowsAt.same r6 s7
          refine ⟨_, rfl, f, rfl, ⟨_, SqL.of e7⟩, fun D nD => ?_⟩
          refine lc_it (walk_list (xs := fs)) (fun j H' => Acc H7 D (List.replicate j (V.bl false)) H') (Acc.start nD) (fun j H' _ ac => SqL.of (ac.s _ _ e7)) ?_ ?_
          · rintro j y H8 H9 hj ac ⟨rfl, hy⟩
            obtain ⟨hj2, t, rfl, et⟩ := r7.get hy
            refine ⟨rfl, iteT (B := Acc H7 D (List.replicate (j + 1) (V.bl false)) H9) ?_⟩
            refine ⟨_, rfl, _, _, .type "tuple", .type "tuple", true, rfl, .ty "tuple", .base (.tup (ac.s _ _ et)), kit_ty (by decide +kernel), true, rfl, ?_⟩
            refine ⟨_, ac.a, by rw [List.length_replicate, sizeLine_eq]; omega, ?_⟩
            rw [show List.replicate (j + 1) (V.bl false) = List.replicate j (V.bl false) ++ [V.bl false] from List.replicate_succ']
            exact ac.push
          · intro H8 ac
            refine ⟨D, List.replicate fs.length false, rfl, SqL.of (by rw [ac.a, List.map_replicate]), _, rfl, ?_⟩
            rw [repl_any]
            refine iteF ?_
            have s8 := s7.trans ac.s
            have e8 := s8 _ _ e6
            have r8 := rows_drop (RowsAt.same r6 s8)
            refine ⟨_, rfl, _, rfl, _, rfl, f, _, rfl, SqL.of e8, fun p np => ?_⟩
            rw [cut_last]
            have s9 := Same.up (o := .lst fs.dropLast) np
            have e9 : upd H8 p (.lst fs.dropLast) p = some (.lst fs.dropLast) := upd_same
            have r9 := RowsAt.same r8 s9
            have s89 := s8.trans s9
            generalize upd H8 p (.lst fs.dropLast) = G9 at s9 e9 r9 s89
            refine ⟨p, rfl, ⟨_, SqL.of e9⟩, fun D2 nD2 => ?_⟩
            have hdl : fs.dropLast.length ≤ 12 := by rw [List.length_dropLast]; omega
            refine lc_it (walk_list (xs := fs.dropLast)) (fun j H' => Acc G9 D2 (List.replicate j (V.bl false)) H') (Acc.start nD2) (fun j H' _ ac => SqL.of (ac.s _ _ e9)) ?_ ?_
            · rintro j y HA HB hj ac2 ⟨rfl, hy⟩
              obtain ⟨hj2, t, rfl, et⟩ := r9.get hy
              have hlg := long_runs hr1 hkd _ (List.getElem_mem hj2)
              refine ⟨rfl, iteT (B := Acc G9 D2 (List.replicate (j + 1) (V.bl false)) HB) ?_⟩
              refine ⟨_, rfl, t, _, rfl, .inr (SqT.of (ac2.s _ _ et)), _, rfl, _, _, rfl, rfl, ?_⟩
              rw [List.length_map]
              show ∃ acc, HB D2 = some (.lst acc) ∧ acc.length < sizeLine ∧ Acc G9 D2 (List.replicate (j + 1) (V.bl false)) (upd HB D2 (.lst (acc ++ [V.bl (decide (((runsL (writeL m ks)).dropLast[j].length : Int) < (m : Int)))])))
              rw [decide_eq_false (show ¬ ((runsL (writeL m ks)).dropLast[j].length : Int) < (m : Int) by omega)]
              refine ⟨_, ac2.a, by rw [List.length_replicate, sizeLine_eq]; omega, ?_⟩
              rw [show List.replicate (j + 1) (V.bl false) = List.replicate j (V.bl false) ++ [V.bl false] from List.replicate_succ']
              exact ac2.push
            · intro HA ac2
              refine ⟨D2, List.replicate fs.dropLast.length false, rfl, SqL.of (by rw [ac2.a, List.map_replicate]), _, rfl, ?_⟩
              rw [repl_any]
              exact iteF ⟨rfl, s89.trans ac2.s⟩
        rintro σ' H8 ⟨eq, s8⟩
        subst σ'
        refine ⟨fun σ' H' => σ' = S0 ∧ Same H6 H', ?_, ?_⟩
        · subst eS
          obtain ⟨d1, d2, d3⟩ := dat s8
          refine ⟨_, rfl, _, rfl, m, g, ks, rfl, hr1, hr12, .inl d3, hk, fun H9 s9 => ?_⟩
          refine ⟨_, rfl, d, _, rfl, .inl (SqL.of (s9 _ _ d1)), rfl, _, rfl, ?_⟩
          rw [Paired.length r5, decide_eq_true rfl]
          exact iteF ⟨rfl, s8.trans s9⟩
        rintro σ' H9 ⟨eq, s9⟩
        subst σ'
        refine ⟨fun σ' H' => σ' = S0 ∧ Same H6 H', ?_, ?_⟩
        · subst eS
          obtain ⟨d1, d2, d3⟩ := dat s9
          refine ⟨_, rfl, _, rfl, _, rfl, _, rfl, m, g, ks, rfl, hr1, d3, h12, fun HA t sA nA eA => ?_⟩
          refine ⟨m, g, t, ks, rfl, hr1, hr12, .inl (sA _ _ d3), hk, .inl eA, fun HB z zs sB nB eB rB => ?_⟩
          have sAB := (s9.trans sA).trans sB
          obtain ⟨f1, f2, f3⟩ := dat sAB
          obtain ⟨u, v, hu1, hv1, su, sv, huv⟩ := rows_eq (K := K) eB rB f1 f2
          refine ⟨_, rfl, u, v, hu1, hv1, su, sv, _, rfl, ?_⟩
          rw [huv]
          exact iteF ⟨rfl, sAB⟩
        rintro σ' HA ⟨eq, sA⟩
        subst σ'
        have hnf : ∀ {b : Addr} {o : HO}, H5 b = some o → b ≠ f := fun e z => by
          rw [z, nf] at e
          cases e
        refine ⟨fun σ' H' => σ' = S0 ∧ Same H5 H', ?_, ?_⟩
        · subst eS
          refine ⟨_, rfl, .inl ⟨rfl, _, SqL.of (sA _ _ e6)⟩, by show 1 ≤ sizeLine; decide, fun c nc => ?_⟩
          have sc := Same.up (o := .tup [V.int 0]) nc
          refine ⟨f, _, _, rfl, rfl, sc _ _ (sA _ _ e6), by rw [sizeLine_eq]; omega, rfl, fun b o e => ?_⟩
          rw [upd_ne (hnf e)]
          exact sc _ _ (sA _ _ (s6 _ _ e))
        rintro σ' HB ⟨eq, sB⟩
        subst σ'
        subst eS
        refine ⟨_, rfl, _, rfl, m, g, ks, rfl, hr1, hr12, .inl (sB _ _ (s5 _ _ eg)), hk, fun HC z zs sC nC eC rC => ?_⟩
        have sBC := sB.trans sC
        obtain ⟨u, v, hu1, hv1, su, sv, huv⟩ := rows_eq (K := K) eC rC (sBC _ _ e5) (RowsAt.same r5 sBC)
        refine ⟨_, rfl, u, v, hu1, hv1, su, sv, _, rfl, ?_⟩
        rw [huv]
        exact iteF ⟨_, _, _, rfl, s5.trans sBC⟩
      · rintro σ' H3 ⟨x3, x4, x5, rfl, s3⟩
        exact ⟨x3, x4, x5, rfl, s3⟩
    rintro σ' H3 ⟨x3, x4, x5, rfl, s3⟩
    refine ⟨fun σ' H' => σ' = [some (.ref a), some (.int r), some (.ref g), x3, x4, x5, none] ∧ Same H2 H', ?_, ?_⟩
    · refine ⟨_, rfl, 1, g, ks, rfl, by decide, by decide, .inl (s3 _ _ eg), hk, fun H4 z zs s4 n4 e4 r4 => ?_⟩
      have s34 := s3.trans s4
      rw [write_one] at r4
      refine ⟨_, rfl, g, ks, rfl, s34 _ _ eg, h12, fun H5 y ys s5 n5 e5 r5 => ?_⟩
      rw [runs_cut _ _ rfl hkd] at r5
      obtain ⟨u, v, hu1, hv1, su, sv, huv⟩ := rows_eq (K := K) (s5 _ _ e4) (RowsAt.same r4 s5) e5 r5
      refine ⟨u, v, hu1, hv1, su, sv, _, rfl, ?_⟩
      rw [huv]
      exact iteF ⟨rfl, s34.trans s5⟩
    rintro σ' H4 ⟨rfl, s4⟩
    refine ⟨_, rfl, 12, g, ks, rfl, by decide, by decide, .inl (s4 _ _ eg), hk, fun H5 z zs s5 n5 e5 r5 => ?_⟩
    have eg5 := s5 _ _ (s4 _ _ eg)
    refine ⟨_, rfl, Nat.zero_le _, fun l0 n0 => ?_⟩
    have s6 := Same.up (o := .lst []) n0
    refine ⟨.list (ks.map PyData.int), .list [], .lst (SqL.of (s6 _ _ eg5)) (ints_dp _ _ _), .lst (SqL.of upd_same) .nil, shaped_ints _, rfl, _, rfl, ?_⟩
    rw [emp_eqv]
    have eg6 := s6 _ _ eg5
    have e6 := s6 _ _ e5
    have r6 := RowsAt.same r5 s6
    generalize upd H5 l0 (.lst []) = G6 at eg6 e6 r6
    by_cases hz : ks = []
    · rw [decide_eq_true hz]
      refine iteF ⟨Nat.zero_le _, fun l1 n1 => ?_⟩
      have s7 := Same.up (o := .lst []) n1
      have : runsL (writeL 12 ks) = [] := by rw [hz]; rfl
      rw [this] at r6
      obtain ⟨u, v, hu1, hv1, su, sv, huv⟩ := rows_eq (K := K) (s7 _ _ e6) (RowsAt.same r6 s7) (upd_same (H := G6) (a := l1) (o := .lst [])) .nil
      refine ⟨u, v, hu1, hv1, su, sv, ?_⟩
      rw [huv]
      exact q _
    · rw [decide_eq_false hz]
      refine iteT ?_
      refine ⟨_, rfl, g, ks, rfl, SqL.of eg6, fun ns' p perm srt np => ?_⟩
      have s7 := Same.up (o := .lst (ns'.map V.int)) np
      refine ⟨p, _, rfl, .inl ⟨SqL.of upd_same, fun t nt => ?_⟩⟩
      have s8 := Same.up (o := .tup (ns'.map V.int)) nt
      refine ⟨by show 1 ≤ sizeLine; decide, fun l nl => ?_⟩
      have s9 := Same.up (o := .lst [V.ref t]) nl
      have hasc := (wide_room (r := 12) (by decide) h12 hkd ks.length (Nat.le_refl _)).1
      have hw : writeL 12 ks = ns' := sorted_one ((write_perm (by decide)).trans perm.symm) (hasc.imp fun h => Int.le_of_lt h) srt
      have hne : ns' ≠ [] := fun c => by
        rw [c] at perm
        exact hz (List.nil_perm.mp perm)
      have hrn : runsL (writeL 12 ks) = [ns'] := by
        rw [hw]
        refine runs_asc _ ns' rfl hne ?_
        rw [← hw]
        exact hasc
      have s79 := (s7.trans s8).trans s9
      rw [hrn] at r6
      obtain ⟨u, v, hu1, hv1, su, sv, huv⟩ := rows_eq (K := K) (s79 _ _ e6) (RowsAt.same r6 s79) (upd_same (a := l) (o := .lst [V.ref t])) (.cons ⟨t, rfl, s9 _ _ upd_same⟩ .nil)
      refine ⟨u, v, hu1, hv1, su, sv, ?_⟩
      rw [huv]
      exact q _
theorem b_law (T : Tx K mg A) : L2.Binds K A.d_law ["script"] [] := T.F_law.binds fun _ _ _ _ _ _ us hl => match us, hl with | [_], _ => rfl

end
end Tw

set_option Elab.async false
set_option linter.all false
set_option maxRecDepth 100000
set_option maxHeartbeats 2000000
namespace Tw
open PySem PySem.Spec PyProof.Rows L2
theorem kit_no {K : PySem.W.Frag} {C : Addr} {t : String} (hc : PySem.W.isClsIn K C = true) (ht : PySem.W.typeIn K (.ref C) = some (.type "type")) (hs : PySem.W.subIn K (.type t) (.ref C) = some false) : PySem.W.kitOne K (.type t) (.ref C) = some false := by
  unfold PySem.W.kitOne PySem.W.kitCls
  have h1 : (PySem.W.clsIn K C).isSome = true := hc
  simp only [h1, ht, hs, beq_self_eq_true, Bool.and_self, if_true]
  rfl
theorem all_mk {l : PySem.W.OpenLaw} {w : World} {K : PySem.W.Frag} {h : Heap} {mg : Str → Option Value} (X : K.In h) (G : h.Ns mainGlobals mg) {fa   f_is_integer f_is_integer_from f_is_key f_check_room f_row_of f_check_different f_input_of f_runs_in f_written_by_replacement f_is_way f_runs_of f_by_replacement f_fewest_runs f__law_number f__law_input f__law_cut f__law_written f_law : Addr} {od_is_integer an_is_integer : Option Addr} {sl_is_integer : Array (Option Value)} {oc_is_integer kV_is_integer dc_is_integer pm_is_integer cd_is_integer ct_is_integer : Value} {od_is_integer_from an_is_integer_from : Option Addr} {sl_is_integer_from : Array (Option Value)} {oc_is_integer_from kV_is_integer_from dc_is_integer_from pm_is_integer_from cd_is_integer_from ct_is_integer_from : Value} {od_is_key an_is_key : Option Addr} {sl_is_key : Array (Option Value)} {oc_is_key kV_is_key dc_is_key pm_is_key cd_is_key ct_is_key : Value} {od_check_room an_check_room : Option Addr} {sl_check_room : Array (Option Value)} {oc_check_room kV_check_room dc_check_room pm_check_room cd_check_room ct_check_room : Value} {od_row_of an_row_of : Option Addr} {sl_row_of : Array (Option Value)} {oc_row_of kV_row_of dc_row_of pm_row_of cd_row_of ct_row_of : Value} {od_check_different an_check_different : Option Addr} {sl_check_different : Array (Option Value)} {oc_check_different kV_check_different dc_check_different pm_check_different cd_check_different ct_check_different : Value} {od_input_of an_input_of : Option Addr} {sl_input_of : Array (Option Value)} {oc_input_of kV_input_of dc_input_of pm_input_of cd_input_of ct_input_of : Value} {od_runs_in an_runs_in : Option Addr} {sl_runs_in : Array (Option Value)} {oc_runs_in kV_runs_in dc_runs_in pm_runs_in cd_runs_in ct_runs_in : Value} {od_written_by_replacement an_written_by_replacement : Option Addr} {sl_written_by_replacement : Array (Option Value)} {oc_written_by_replacement kV_written_by_replacement dc_written_by_replacement pm_written_by_replacement cd_written_by_replacement ct_written_by_replacement : Value} {od_is_way an_is_way : Option Addr} {sl_is_way : Array (Option Value)} {oc_is_way kV_is_way dc_is_way pm_is_way cd_is_way ct_is_way : Value} {od_runs_of an_runs_of : Option Addr} {sl_runs_of : Array (Option Value)} {oc_runs_of kV_runs_of dc_runs_of pm_runs_of cd_runs_of ct_runs_of : Value} {od_by_replacement an_by_replacement : Option Addr} {sl_by_replacement : Array (Option Value)} {oc_by_replacement kV_by_replacement dc_by_replacement pm_by_replacement cd_by_replacement ct_by_replacement : Value} {od_fewest_runs an_fewest_runs : Option Addr} {sl_fewest_runs : Array (Option Value)} {oc_fewest_runs kV_fewest_runs dc_fewest_runs pm_fewest_runs cd_fewest_runs ct_fewest_runs : Value} {od__law_number an__law_number : Option Addr} {sl__law_number : Array (Option Value)} {oc__law_number kV__law_number dc__law_number pm__law_number cd__law_number ct__law_number : Value} {od__law_input an__law_input : Option Addr} {sl__law_input : Array (Option Value)} {oc__law_input kV__law_input dc__law_input pm__law_input cd__law_input ct__law_input : Value} {od__law_cut an__law_cut : Option Addr} {sl__law_cut : Array (Option Value)} {oc__law_cut kV__law_cut dc__law_cut pm__law_cut cd__law_cut ct__law_cut : Value} {od__law_written an__law_written : Option Addr} {sl__law_written : Array (Option Value)} {oc__law_written kV__law_written dc__law_written pm__law_written cd__law_written ct__law_written : Value} {od_law an_law : Option Addr} {sl_law : Array (Option Value)} {oc_law kV_law dc_law pm_law cd_law ct_law : Value}
    (hfa : mg "law" = some (.ref fa))
    (a_is_integer : PySem.W.nsIn K mainGlobals "is_integer" = some (some (.ref f_is_integer)))
    (l_is_integer : K.lookup f_is_integer = some ⟨oc_is_integer, od_is_integer, .func (PySem.W.fnOf "is_integer" "is_integer" (defArgs s_is_integer) (defBody s_is_integer) (defScope s_is_integer) .none kV_is_integer dc_is_integer pm_is_integer an_is_integer cd_is_integer ct_is_integer), sl_is_integer⟩)
    (c_is_integer : PySem.W.codeIn K cd_is_integer "is_integer" = true)
    (k_is_integer : PySem.W.keepIn K (.ref f_is_integer) = true)
    (a_is_integer_from : PySem.W.nsIn K mainGlobals "is_integer_from" = some (some (.ref f_is_integer_from)))
    (l_is_integer_from : K.lookup f_is_integer_from = some ⟨oc_is_integer_from, od_is_integer_from, .func (PySem.W.fnOf "is_integer_from" "is_integer_from" (defArgs s_is_integer_from) (defBody s_is_integer_from) (defScope s_is_integer_from) .none kV_is_integer_from dc_is_integer_from pm_is_integer_from an_is_integer_from cd_is_integer_from ct_is_integer_from), sl_is_integer_from⟩)
    (c_is_integer_from : PySem.W.codeIn K cd_is_integer_from "is_integer_from" = true)
    (k_is_integer_from : PySem.W.keepIn K (.ref f_is_integer_from) = true)
    (a_is_key : PySem.W.nsIn K mainGlobals "is_key" = some (some (.ref f_is_key)))
    (l_is_key : K.lookup f_is_key = some ⟨oc_is_key, od_is_key, .func (PySem.W.fnOf "is_key" "is_key" (defArgs s_is_key) (defBody s_is_key) (defScope s_is_key) .none kV_is_key dc_is_key pm_is_key an_is_key cd_is_key ct_is_key), sl_is_key⟩)
    (c_is_key : PySem.W.codeIn K cd_is_key "is_key" = true)
    (k_is_key : PySem.W.keepIn K (.ref f_is_key) = true)
    (a_check_room : PySem.W.nsIn K mainGlobals "check_room" = some (some (.ref f_check_room)))
    (l_check_room : K.lookup f_check_room = some ⟨oc_check_room, od_check_room, .func (PySem.W.fnOf "check_room" "check_room" (defArgs s_check_room) (defBody s_check_room) (defScope s_check_room) .none kV_check_room dc_check_room pm_check_room an_check_room cd_check_room ct_check_room), sl_check_room⟩)
    (c_check_room : PySem.W.codeIn K cd_check_room "check_room" = true)
    (k_check_room : PySem.W.keepIn K (.ref f_check_room) = true)
    (a_row_of : PySem.W.nsIn K mainGlobals "row_of" = some (some (.ref f_row_of)))
    (l_row_of : K.lookup f_row_of = some ⟨oc_row_of, od_row_of, .func (PySem.W.fnOf "row_of" "row_of" (defArgs s_row_of) (defBody s_row_of) (defScope s_row_of) .none kV_row_of dc_row_of pm_row_of an_row_of cd_row_of ct_row_of), sl_row_of⟩)
    (c_row_of : PySem.W.codeIn K cd_row_of "row_of" = true)
    (k_row_of : PySem.W.keepIn K (.ref f_row_of) = true)
    (a_check_different : PySem.W.nsIn K mainGlobals "check_different" = some (some (.ref f_check_different)))
    (l_check_different : K.lookup f_check_different = some ⟨oc_check_different, od_check_different, .func (PySem.W.fnOf "check_different" "check_different" (defArgs s_check_different) (defBody s_check_different) (defScope s_check_different) .none kV_check_different dc_check_different pm_check_different an_check_different cd_check_different ct_check_different), sl_check_different⟩)
    (c_check_different : PySem.W.codeIn K cd_check_different "check_different" = true)
    (k_check_different : PySem.W.keepIn K (.ref f_check_different) = true)
    (a_input_of : PySem.W.nsIn K mainGlobals "input_of" = some (some (.ref f_input_of)))
    (l_input_of : K.lookup f_input_of = some ⟨oc_input_of, od_input_of, .func (PySem.W.fnOf "input_of" "input_of" (defArgs s_input_of) (defBody s_input_of) (defScope s_input_of) .none kV_input_of dc_input_of pm_input_of an_input_of cd_input_of ct_input_of), sl_input_of⟩)
    (c_input_of : PySem.W.codeIn K cd_input_of "input_of" = true)
    (k_input_of : PySem.W.keepIn K (.ref f_input_of) = true)
    (a_runs_in : PySem.W.nsIn K mainGlobals "runs_in" = some (some (.ref f_runs_in)))
    (l_runs_in : K.lookup f_runs_in = some ⟨oc_runs_in, od_runs_in, .func (PySem.W.fnOf "runs_in" "runs_in" (defArgs s_runs_in) (defBody s_runs_in) (defScope s_runs_in) .none kV_runs_in dc_runs_in pm_runs_in an_runs_in cd_runs_in ct_runs_in), sl_runs_in⟩)
    (c_runs_in : PySem.W.codeIn K cd_runs_in "runs_in" = true)
    (k_runs_in : PySem.W.keepIn K (.ref f_runs_in) = true)
    (a_written_by_replacement : PySem.W.nsIn K mainGlobals "written_by_replacement" = some (some (.ref f_written_by_replacement)))
    (l_written_by_replacement : K.lookup f_written_by_replacement = some ⟨oc_written_by_replacement, od_written_by_replacement, .func (PySem.W.fnOf "written_by_replacement" "written_by_replacement" (defArgs s_written_by_replacement) (defBody s_written_by_replacement) (defScope s_written_by_replacement) .none kV_written_by_replacement dc_written_by_replacement pm_written_by_replacement an_written_by_replacement cd_written_by_replacement ct_written_by_replacement), sl_written_by_replacement⟩)
    (c_written_by_replacement : PySem.W.codeIn K cd_written_by_replacement "written_by_replacement" = true)
    (k_written_by_replacement : PySem.W.keepIn K (.ref f_written_by_replacement) = true)
    (a_is_way : PySem.W.nsIn K mainGlobals "is_way" = some (some (.ref f_is_way)))
    (l_is_way : K.lookup f_is_way = some ⟨oc_is_way, od_is_way, .func (PySem.W.fnOf "is_way" "is_way" (defArgs s_is_way) (defBody s_is_way) (defScope s_is_way) .none kV_is_way dc_is_way pm_is_way an_is_way cd_is_way ct_is_way), sl_is_way⟩)
    (c_is_way : PySem.W.codeIn K cd_is_way "is_way" = true)
    (k_is_way : PySem.W.keepIn K (.ref f_is_way) = true)
    (a_runs_of : PySem.W.nsIn K mainGlobals "runs_of" = some (some (.ref f_runs_of)))
    (l_runs_of : K.lookup f_runs_of = some ⟨oc_runs_of, od_runs_of, .func (PySem.W.fnOf "runs_of" "runs_of" (defArgs s_runs_of) (defBody s_runs_of) (defScope s_runs_of) .none kV_runs_of dc_runs_of pm_runs_of an_runs_of cd_runs_of ct_runs_of), sl_runs_of⟩)
    (c_runs_of : PySem.W.codeIn K cd_runs_of "runs_of" = true)
    (k_runs_of : PySem.W.keepIn K (.ref f_runs_of) = true)
    (a_by_replacement : PySem.W.nsIn K mainGlobals "by_replacement" = some (some (.ref f_by_replacement)))
    (l_by_replacement : K.lookup f_by_replacement = some ⟨oc_by_replacement, od_by_replacement, .func (PySem.W.fnOf "by_replacement" "by_replacement" (defArgs s_by_replacement) (defBody s_by_replacement) (defScope s_by_replacement) .none kV_by_replacement dc_by_replacement pm_by_replacement an_by_replacement cd_by_replacement ct_by_replacement), sl_by_replacement⟩)
    (c_by_replacement : PySem.W.codeIn K cd_by_replacement "by_replacement" = true)
    (k_by_replacement : PySem.W.keepIn K (.ref f_by_replacement) = true)
    (a_fewest_runs : PySem.W.nsIn K mainGlobals "fewest_runs" = some (some (.ref f_fewest_runs)))
    (l_fewest_runs : K.lookup f_fewest_runs = some ⟨oc_fewest_runs, od_fewest_runs, .func (PySem.W.fnOf "fewest_runs" "fewest_runs" (defArgs s_fewest_runs) (defBody s_fewest_runs) (defScope s_fewest_runs) .none kV_fewest_runs dc_fewest_runs pm_fewest_runs an_fewest_runs cd_fewest_runs ct_fewest_runs), sl_fewest_runs⟩)
    (c_fewest_runs : PySem.W.codeIn K cd_fewest_runs "fewest_runs" = true)
    (k_fewest_runs : PySem.W.keepIn K (.ref f_fewest_runs) = true)
    (a__law_number : PySem.W.nsIn K mainGlobals "_law_number" = some (some (.ref f__law_number)))
    (l__law_number : K.lookup f__law_number = some ⟨oc__law_number, od__law_number, .func (PySem.W.fnOf "_law_number" "_law_number" (defArgs s__law_number) (defBody s__law_number) (defScope s__law_number) .none kV__law_number dc__law_number pm__law_number an__law_number cd__law_number ct__law_number), sl__law_number⟩)
    (c__law_number : PySem.W.codeIn K cd__law_number "_law_number" = true)
    (k__law_number : PySem.W.keepIn K (.ref f__law_number) = true)
    (a__law_input : PySem.W.nsIn K mainGlobals "_law_input" = some (some (.ref f__law_input)))
    (l__law_input : K.lookup f__law_input = some ⟨oc__law_input, od__law_input, .func (PySem.W.fnOf "_law_input" "_law_input" (defArgs s__law_input) (defBody s__law_input) (defScope s__law_input) .none kV__law_input dc__law_input pm__law_input an__law_input cd__law_input ct__law_input), sl__law_input⟩)
    (c__law_input : PySem.W.codeIn K cd__law_input "_law_input" = true)
    (k__law_input : PySem.W.keepIn K (.ref f__law_input) = true)
    (a__law_cut : PySem.W.nsIn K mainGlobals "_law_cut" = some (some (.ref f__law_cut)))
    (l__law_cut : K.lookup f__law_cut = some ⟨oc__law_cut, od__law_cut, .func (PySem.W.fnOf "_law_cut" "_law_cut" (defArgs s__law_cut) (defBody s__law_cut) (defScope s__law_cut) .none kV__law_cut dc__law_cut pm__law_cut an__law_cut cd__law_cut ct__law_cut), sl__law_cut⟩)
    (c__law_cut : PySem.W.codeIn K cd__law_cut "_law_cut" = true)
    (k__law_cut : PySem.W.keepIn K (.ref f__law_cut) = true)
    (a__law_written : PySem.W.nsIn K mainGlobals "_law_written" = some (some (.ref f__law_written)))
    (l__law_written : K.lookup f__law_written = some ⟨oc__law_written, od__law_written, .func (PySem.W.fnOf "_law_written" "_law_written" (defArgs s__law_written) (defBody s__law_written) (defScope s__law_written) .none kV__law_written dc__law_written pm__law_written an__law_written cd__law_written ct__law_written), sl__law_written⟩)
    (c__law_written : PySem.W.codeIn K cd__law_written "_law_written" = true)
    (k__law_written : PySem.W.keepIn K (.ref f__law_written) = true)
    (a_law : PySem.W.nsIn K mainGlobals "law" = some (some (.ref f_law)))
    (l_law : K.lookup f_law = some ⟨oc_law, od_law, .func (PySem.W.fnOf "law" "law" (defArgs s_law) (defBody s_law) (defScope s_law) .none kV_law dc_law pm_law an_law cd_law ct_law), sl_law⟩)
    (c_law : PySem.W.codeIn K cd_law "law" = true)
    (k_law : PySem.W.keepIn K (.ref f_law) = true)
    {tc_MOST_PLACES : Tok}
    (q_MOST_PLACES : PySem.W.nsIn K mainGlobals "MOST_PLACES" = some (some (.int 12 tc_MOST_PLACES)))
    {tc_GREATEST_KEY : Tok}
    (q_GREATEST_KEY : PySem.W.nsIn K mainGlobals "GREATEST_KEY" = some (some (.int 1000000000 tc_GREATEST_KEY)))
    {tc_MOST_ROOM : Tok}
    (q_MOST_ROOM : PySem.W.nsIn K mainGlobals "MOST_ROOM" = some (some (.int 12 tc_MOST_ROOM)))
    (z_isinstance : PySem.W.nsIn K mainGlobals "isinstance" = some none)
    (z_int : PySem.W.nsIn K mainGlobals "int" = some none)
    (z_bool : PySem.W.nsIn K mainGlobals "bool" = some none)
    (z_len : PySem.W.nsIn K mainGlobals "len" = some none)
    (z_tuple : PySem.W.nsIn K mainGlobals "tuple" = some none)
    (z_list : PySem.W.nsIn K mainGlobals "list" = some none)
    (z_range : PySem.W.nsIn K mainGlobals "range" = some none)
    (z_enumerate : PySem.W.nsIn K mainGlobals "enumerate" = some none)
    (z_sum : PySem.W.nsIn K mainGlobals "sum" = some none)
    (z_any : PySem.W.nsIn K mainGlobals "any" = some none)
    (z_min : PySem.W.nsIn K mainGlobals "min" = some none)
    (z_sorted : PySem.W.nsIn K mainGlobals "sorted" = some none)
    : ∃ fd : FuncData, (∀ (s : Shared) (v : Value), BindsTo s fd ⟨[v], []⟩ [("script", v)]) ∧ ∀ base : Heap, K.In base → base.Ns mainGlobals mg → FnOk l.prog w K mg base CX0 8 fa fd ["script"] (spLaw K) := by
  have e := hfa.symm.trans (PySem.W.mg_of X G a_law)
  cases e
  let A : Ad := { f_is_integer := f_is_integer, d_is_integer := (PySem.W.fnOf "is_integer" "is_integer" (defArgs s_is_integer) (defBody s_is_integer) (defScope s_is_integer) .none kV_is_integer dc_is_integer pm_is_integer an_is_integer cd_is_integer ct_is_integer), f_is_integer_from := f_is_integer_from, d_is_integer_from := (PySem.W.fnOf "is_integer_from" "is_integer_from" (defArgs s_is_integer_from) (defBody s_is_integer_from) (defScope s_is_integer_from) .none kV_is_integer_from dc_is_integer_from pm_is_integer_from an_is_integer_from cd_is_integer_from ct_is_integer_from), f_is_key := f_is_key, d_is_key := (PySem.W.fnOf "is_key" "is_key" (defArgs s_is_key) (defBody s_is_key) (defScope s_is_key) .none kV_is_key dc_is_key pm_is_key an_is_key cd_is_key ct_is_key), f_check_room := f_check_room, d_check_room := (PySem.W.fnOf "check_room" "check_room" (defArgs s_check_room) (defBody s_check_room) (defScope s_check_room) .none kV_check_room dc_check_room pm_check_room an_check_room cd_check_room ct_check_room), f_row_of := f_row_of, d_row_of := (PySem.W.fnOf "row_of" "row_of" (defArgs s_row_of) (defBody s_row_of) (defScope s_row_of) .none kV_row_of dc_row_of pm_row_of an_row_of cd_row_of ct_row_of), f_check_different := f_check_different, d_check_different := (PySem.W.fnOf "check_different" "check_different" (defArgs s_check_different) (defBody s_check_different) (defScope s_check_different) .none kV_check_different dc_check_different pm_check_different an_check_different cd_check_different ct_check_different), f_input_of := f_input_of, d_input_of := (PySem.W.fnOf "input_of" "input_of" (defArgs s_input_of) (defBody s_input_of) (defScope s_input_of) .none kV_input_of dc_input_of pm_input_of an_input_of cd_input_of ct_input_of), f_runs_in := f_runs_in, d_runs_in := (PySem.W.fnOf "runs_in" "runs_in" (defArgs s_runs_in) (defBody s_runs_in) (defScope s_runs_in) .none kV_runs_in dc_runs_in pm_runs_in an_runs_in cd_runs_in ct_runs_in), f_written_by_replacement := f_written_by_replacement, d_written_by_replacement := (PySem.W.fnOf "written_by_replacement" "written_by_replacement" (defArgs s_written_by_replacement) (defBody s_written_by_replacement) (defScope s_written_by_replacement) .none kV_written_by_replacement dc_written_by_replacement pm_written_by_replacement an_written_by_replacement cd_written_by_replacement ct_written_by_replacement), f_is_way := f_is_way, d_is_way := (PySem.W.fnOf "is_way" "is_way" (defArgs s_is_way) (defBody s_is_way) (defScope s_is_way) .none kV_is_way dc_is_way pm_is_way an_is_way cd_is_way ct_is_way), f_runs_of := f_runs_of, d_runs_of := (PySem.W.fnOf "runs_of" "runs_of" (defArgs s_runs_of) (defBody s_runs_of) (defScope s_runs_of) .none kV_runs_of dc_runs_of pm_runs_of an_runs_of cd_runs_of ct_runs_of), f_by_replacement := f_by_replacement, d_by_replacement := (PySem.W.fnOf "by_replacement" "by_replacement" (defArgs s_by_replacement) (defBody s_by_replacement) (defScope s_by_replacement) .none kV_by_replacement dc_by_replacement pm_by_replacement an_by_replacement cd_by_replacement ct_by_replacement), f_fewest_runs := f_fewest_runs, d_fewest_runs := (PySem.W.fnOf "fewest_runs" "fewest_runs" (defArgs s_fewest_runs) (defBody s_fewest_runs) (defScope s_fewest_runs) .none kV_fewest_runs dc_fewest_runs pm_fewest_runs an_fewest_runs cd_fewest_runs ct_fewest_runs), f__law_number := f__law_number, d__law_number := (PySem.W.fnOf "_law_number" "_law_number" (defArgs s__law_number) (defBody s__law_number) (defScope s__law_number) .none kV__law_number dc__law_number pm__law_number an__law_number cd__law_number ct__law_number), f__law_input := f__law_input, d__law_input := (PySem.W.fnOf "_law_input" "_law_input" (defArgs s__law_input) (defBody s__law_input) (defScope s__law_input) .none kV__law_input dc__law_input pm__law_input an__law_input cd__law_input ct__law_input), f__law_cut := f__law_cut, d__law_cut := (PySem.W.fnOf "_law_cut" "_law_cut" (defArgs s__law_cut) (defBody s__law_cut) (defScope s__law_cut) .none kV__law_cut dc__law_cut pm__law_cut an__law_cut cd__law_cut ct__law_cut), f__law_written := f__law_written, d__law_written := (PySem.W.fnOf "_law_written" "_law_written" (defArgs s__law_written) (defBody s__law_written) (defScope s__law_written) .none kV__law_written dc__law_written pm__law_written an__law_written cd__law_written ct__law_written), f_law := fa, d_law := (PySem.W.fnOf "law" "law" (defArgs s_law) (defBody s_law) (defScope s_law) .none kV_law dc_law pm_law an_law cd_law ct_law) }
  have T : Tx K mg A := {
    F_is_integer := (fun_mk (st := s_is_integer) l_is_integer c_is_integer k_is_integer)
    m_is_integer := PySem.W.mg_of X G a_is_integer
    F_is_integer_from := (fun_mk (st := s_is_integer_from) l_is_integer_from c_is_integer_from k_is_integer_from)
    m_is_integer_from := PySem.W.mg_of X G a_is_integer_from
    F_is_key := (fun_mk (st := s_is_key) l_is_key c_is_key k_is_key)
    m_is_key := PySem.W.mg_of X G a_is_key
    F_check_room := (fun_mk (st := s_check_room) l_check_room c_check_room k_check_room)
    m_check_room := PySem.W.mg_of X G a_check_room
    F_row_of := (fun_mk (st := s_row_of) l_row_of c_row_of k_row_of)
    m_row_of := PySem.W.mg_of X G a_row_of
    F_check_different := (fun_mk (st := s_check_different) l_check_different c_check_different k_check_different)
    m_check_different := PySem.W.mg_of X G a_check_different
    F_input_of := (fun_mk (st := s_input_of) l_input_of c_input_of k_input_of)
    m_input_of := PySem.W.mg_of X G a_input_of
    F_runs_in := (fun_mk (st := s_runs_in) l_runs_in c_runs_in k_runs_in)
    m_runs_in := PySem.W.mg_of X G a_runs_in
    F_written_by_replacement := (fun_mk (st := s_written_by_replacement) l_written_by_replacement c_written_by_replacement k_written_by_replacement)
    m_written_by_replacement := PySem.W.mg_of X G a_written_by_replacement
    F_is_way := (fun_mk (st := s_is_way) l_is_way c_is_way k_is_way)
    m_is_way := PySem.W.mg_of X G a_is_way
    F_runs_of := (fun_mk (st := s_runs_of) l_runs_of c_runs_of k_runs_of)
    m_runs_of := PySem.W.mg_of X G a_runs_of
    F_by_replacement := (fun_mk (st := s_by_replacement) l_by_replacement c_by_replacement k_by_replacement)
    m_by_replacement := PySem.W.mg_of X G a_by_replacement
    F_fewest_runs := (fun_mk (st := s_fewest_runs) l_fewest_runs c_fewest_runs k_fewest_runs)
    m_fewest_runs := PySem.W.mg_of X G a_fewest_runs
    F__law_number := (fun_mk (st := s__law_number) l__law_number c__law_number k__law_number)
    m__law_number := PySem.W.mg_of X G a__law_number
    F__law_input := (fun_mk (st := s__law_input) l__law_input c__law_input k__law_input)
    m__law_input := PySem.W.mg_of X G a__law_input
    F__law_cut := (fun_mk (st := s__law_cut) l__law_cut c__law_cut k__law_cut)
    m__law_cut := PySem.W.mg_of X G a__law_cut
    F__law_written := (fun_mk (st := s__law_written) l__law_written c__law_written k__law_written)
    m__law_written := PySem.W.mg_of X G a__law_written
    F_law := (fun_mk (st := s_law) l_law c_law k_law)
    m_law := PySem.W.mg_of X G a_law
    c_MOST_PLACES := .inr ⟨_, PySem.W.mg_of X G q_MOST_PLACES⟩
    c_GREATEST_KEY := .inr ⟨_, PySem.W.mg_of X G q_GREATEST_KEY⟩
    c_MOST_ROOM := .inr ⟨_, PySem.W.mg_of X G q_MOST_ROOM⟩
    g_isinstance := PySem.W.mg_none_of X G z_isinstance
    g_int := PySem.W.mg_none_of X G z_int
    g_bool := PySem.W.mg_none_of X G z_bool
    g_len := PySem.W.mg_none_of X G z_len
    g_tuple := PySem.W.mg_none_of X G z_tuple
    g_list := PySem.W.mg_none_of X G z_list
    g_range := PySem.W.mg_none_of X G z_range
    g_enumerate := PySem.W.mg_none_of X G z_enumerate
    g_sum := PySem.W.mg_none_of X G z_sum
    g_any := PySem.W.mg_none_of X G z_any
    g_min := PySem.W.mg_none_of X G z_min
    g_sorted := PySem.W.mg_none_of X G z_sorted
  }
  exact ⟨A.d_law, fun s v => .of_eq rfl, fun base _ _ => ok_law T⟩
theorem walk {l : PySem.W.OpenLaw} {q : Program} {loose : List Str} {XP : (Str → Option Value) → Heap → Prop} {YP : World → Heap → Prop} {d : DefRec} {K : Params → PySem.W.Frag} (hn : l.most = some 63) (hdf : d.params.defaults = [])
    (hY : ∀ (w : World) (h : Heap), YP w h → (K w.params).In h)
    (F : ∀ (w : World) (mg : Str → Option Value) (fa : Addr) (h : Heap), (K w.params).In h → h.Ns mainGlobals mg → mg d.name = some (.ref fa) →
      ∃ fd : FuncData, (∀ (s : Shared) (u : Value), BindsTo s fd ⟨[u], []⟩ [("script", u)]) ∧ ∀ base : Heap, (K w.params).In base → base.Ns mainGlobals mg → FnOk l.prog w (K w.params) mg base CX0 8 fa fd ["script"] (spLaw (K w.params))) :
    PySem.W.WalkO q loose XP YP l.row.toRowW d [] (fun f vs => PySem.call f vs) :=
  L2.walk_of (n := 63) (k := 8) (x := "script") (CX := fun _ => CX0) (sp := fun w => spLaw (K w.params)) hn (by decide) hdf ⟨rfl, by decide, by decide⟩ hY F (fun _ _ a ns hl _ hS => ⟨a, ns, rfl, hS, hl, fun _ => rfl⟩) fun _ _ _ _ _ z => z
end Tw

open PySem PySem.W PyProof.Rows in
set_option maxRecDepth 100000 in
set_option maxHeartbeats 0 in
theorem PySem.Challenge.cw_heaprows_k61_whole_replacement_holds : PySem.Challenge.rw_heaprows_k61_whole_replacement.Holds := by
  w_on; o_law; k_head; (case hw => w_witness2)
  k_fill
  refine Tw.walk (l := PySem.Challenge.rw_heaprows_k61_whole_replacement) rfl rfl (fun w h Y => PySem.W.kIn_of Y) ?F
  case F =>
    intro w mg fa h KX G hmg
    refine' Tw.all_mk KX G hmg ?a_is_integer ?l_is_integer ?c_is_integer ?k_is_integer ?a_is_integer_from ?l_is_integer_from ?c_is_integer_from ?k_is_integer_from ?a_is_key ?l_is_key ?c_is_key ?k_is_key ?a_check_room ?l_check_room ?c_check_room ?k_check_room ?a_row_of ?l_row_of ?c_row_of ?k_row_of ?a_check_different ?l_check_different ?c_check_different ?k_check_different ?a_input_of ?l_input_of ?c_input_of ?k_input_of ?a_runs_in ?l_runs_in ?c_runs_in ?k_runs_in ?a_written_by_replacement ?l_written_by_replacement ?c_written_by_replacement ?k_written_by_replacement ?a_is_way ?l_is_way ?c_is_way ?k_is_way ?a_runs_of ?l_runs_of ?c_runs_of ?k_runs_of ?a_by_replacement ?l_by_replacement ?c_by_replacement ?k_by_replacement ?a_fewest_runs ?l_fewest_runs ?c_fewest_runs ?k_fewest_runs ?a__law_number ?l__law_number ?c__law_number ?k__law_number ?a__law_input ?l__law_input ?c__law_input ?k__law_input ?a__law_cut ?l__law_cut ?c__law_cut ?k__law_cut ?a__law_written ?l__law_written ?c__law_written ?k__law_written ?a_law ?l_law ?c_law ?k_law ?q_MOST_PLACES ?q_GREATEST_KEY ?q_MOST_ROOM ?z_isinstance ?z_int ?z_bool ?z_len ?z_tuple ?z_list ?z_range ?z_enumerate ?z_sum ?z_any ?z_min ?z_sorted
    (case a_is_integer => k_is)
    (case l_is_integer => k_is)
    (case c_is_integer => k_is)
    (case k_is_integer => k_is)
    (case a_is_integer_from => k_is)
    (case l_is_integer_from => k_is)
    (case c_is_integer_from => k_is)
    (case k_is_integer_from => k_is)
    (case a_is_key => k_is)
    (case l_is_key => k_is)
    (case c_is_key => k_is)
    (case k_is_key => k_is)
    (case a_check_room => k_is)
    (case l_check_room => k_is)
    (case c_check_room => k_is)
    (case k_check_room => k_is)
    (case a_row_of => k_is)
    (case l_row_of => k_is)
    (case c_row_of => k_is)
    (case k_row_of => k_is)
    (case a_check_different => k_is)
    (case l_check_different => k_is)
    (case c_check_different => k_is)
    (case k_check_different => k_is)
    (case a_input_of => k_is)
    (case l_input_of => k_is)
    (case c_input_of => k_is)
    (case k_input_of => k_is)
    (case a_runs_in => k_is)
    (case l_runs_in => k_is)
    (case c_runs_in => k_is)
    (case k_runs_in => k_is)
    (case a_written_by_replacement => k_is)
    (case l_written_by_replacement => k_is)
    (case c_written_by_replacement => k_is)
    (case k_written_by_replacement => k_is)
    (case a_is_way => k_is)
    (case l_is_way => k_is)
    (case c_is_way => k_is)
    (case k_is_way => k_is)
    (case a_runs_of => k_is)
    (case l_runs_of => k_is)
    (case c_runs_of => k_is)
    (case k_runs_of => k_is)
    (case a_by_replacement => k_is)
    (case l_by_replacement => k_is)
    (case c_by_replacement => k_is)
    (case k_by_replacement => k_is)
    (case a_fewest_runs => k_is)
    (case l_fewest_runs => k_is)
    (case c_fewest_runs => k_is)
    (case k_fewest_runs => k_is)
    (case a__law_number => k_is)
    (case l__law_number => k_is)
    (case c__law_number => k_is)
    (case k__law_number => k_is)
    (case a__law_input => k_is)
    (case l__law_input => k_is)
    (case c__law_input => k_is)
    (case k__law_input => k_is)
    (case a__law_cut => k_is)
    (case l__law_cut => k_is)
    (case c__law_cut => k_is)
    (case k__law_cut => k_is)
    (case a__law_written => k_is)
    (case l__law_written => k_is)
    (case c__law_written => k_is)
    (case k__law_written => k_is)
    (case a_law => k_is)
    (case l_law => k_is)
    (case c_law => k_is)
    (case k_law => k_is)
    (case q_MOST_PLACES => k_is)
    (case q_GREATEST_KEY => k_is)
    (case q_MOST_ROOM => k_is)
    (case z_isinstance => k_is)
    (case z_int => k_is)
    (case z_bool => k_is)
    (case z_len => k_is)
    (case z_tuple => k_is)
    (case z_list => k_is)
    (case z_range => k_is)
    (case z_enumerate => k_is)
    (case z_sum => k_is)
    (case z_any => k_is)
    (case z_min => k_is)
    (case z_sorted => k_is)
