import PyProof.Rows.All
import Wide.All
import OpenK.AllK
import Wide.FinOn
import Lean
import PyProof.EqAt
import PyProof.EqKinds
import PyProof.TupleCall
import PySem.Challenge.RW_fairbook_k22_whole_best_first
set_option Elab.async false
set_option linter.all false
set_option maxRecDepth 100000
namespace L2
open PySem PySem.Spec PyProof.Rows
noncomputable abbrev Key:=Sum Int Str
noncomputable def zgE : Key → Value → Bool
 | .inl k,v => Value.isInt k v
 | .inr x,v => Value.isStrOf x v
noncomputable def keyH (w : World) : Key → Int
 | .inl k => hashInt k
 | .inr x => hashStr w x
theorem zaM : ∀ {k : Key} {v : Value},zgE k v = true → (∃ i t,k = Sum.inl i ∧ v = Value.int i t) ∨ (∃ x t,k = Sum.inr x ∧ v = Value.str x t)
 | .inl i,v,h => by
  obtain ⟨t,e⟩:=Value.isInt_shape (k:=i) (v:=v) h
  exact .inl ⟨i,t,rfl,e⟩
 | .inr x,v,h => by
  obtain ⟨t,e⟩:=Value.isStrOf_shape (x:=x) (v:=v) h
  exact .inr ⟨x,t,rfl,e⟩
theorem zjn (i : Int) (t : Tok) : zgE (.inl i) (.int i t) = true:=by simp [zgE,Value.isInt]
theorem zjm (x : Str) (t : Tok) : zgE (.inr x) (.str x t) = true:=by simp [zgE,Value.isStrOf]
theorem key_ll (a b : Int) : decide ((Sum.inl a : Key) = Sum.inl b) = (a == b):=by
 by_cases e : a = b
 ·subst e; simp
 ·have h : ¬ (Sum.inl a : Key) = Sum.inl b:=fun q => e (Sum.inl.inj q)
  rw [decide_eq_false h]
  exact (beq_eq_false_iff_ne.mpr e).symm
theorem key_rr (a b : Str) : decide ((Sum.inr a : Key) = Sum.inr b) = decide (a = b):=by
 by_cases e : a = b
 ·subst e; simp
 ·have h : ¬ (Sum.inr a : Key) = Sum.inr b:=fun q => e (Sum.inr.inj q)
  rw [decide_eq_false h,decide_eq_false e]
theorem key_lr (a : Int) (b : Str) : decide ((Sum.inl a : Key) = Sum.inr b) = false:=decide_eq_false (fun q => nomatch q)
theorem key_rl (a : Str) (b : Int) : decide ((Sum.inr a : Key) = Sum.inl b) = false:=decide_eq_false (fun q => nomatch q)
noncomputable def zaI (prog : Program) (w : World) : PySem.KeyKind prog w Key where
 is:=zgE
 hash:=keyH w
 inj:=fun v a b ha hb => by
  rcases zaM ha with ⟨i,t,rfl,rfl⟩ | ⟨x,t,rfl,rfl⟩
  ·rcases zaM hb with ⟨j,u,rfl,e⟩ | ⟨y,u,rfl,e⟩
   ·injection e with e1 _; rw [e1]
   ·exact nomatch e
  ·rcases zaM hb with ⟨j,u,rfl,e⟩ | ⟨y,u,rfl,e⟩
   ·exact nomatch e
   ·injection e with e1 _; rw [e1]
 byValue:=fun k v h => by
  rcases zaM h with ⟨i,t,rfl,rfl⟩ | ⟨x,t,rfl,rfl⟩ <;> rfl
 pyHash:=fun hv h => by
  rcases zaM hv with ⟨i,t,rfl,rfl⟩ | ⟨x,t,rfl,rfl⟩
  ·exact wpAny_pyHash_int h
  ·exact wpAny_pyHash_str h
 eqBool:=fun hu hv h => by
  rcases zaM hu with ⟨i,t,rfl,rfl⟩ | ⟨x,t,rfl,rfl⟩
  ·rcases zaM hv with ⟨j,u,rfl,rfl⟩ | ⟨y,u,rfl,rfl⟩
   ·rw [key_ll] at h; exact wpAny_eqBool_int h
   ·rw [key_lr] at h; exact SeqAt.EqAt.int_str i t y u _ _ _ _ h
  ·rcases zaM hv with ⟨j,u,rfl,rfl⟩ | ⟨y,u,rfl,rfl⟩
   ·rw [key_rl] at h; exact SeqAt.EqAt.str_int x t j u _ _ _ _ h
   ·rw [key_rr] at h; exact wpAny_eqBool_str h
 «strs»:=fun k x t v h => by
  rcases zaM h with ⟨i,u,rfl,e⟩ | ⟨y,u,rfl,e⟩
  ·exact nomatch e
  ·injection e with e1 _
   subst e1
   cases v <;> rfl
theorem zgB (prog : Program) (w : World) (i : Int) (t : Tok) : (zaI prog w).is (.inl i) (.int i t) = true:=zjn i t
theorem zgA (prog : Program) (w : World) (x : Str) (t : Tok) : (zaI prog w).is (.inr x) (.str x t) = true:=zjm x t
end L2
namespace L2
open PySem PySem.Spec PyProof.Rows
inductive V where
 | non | bl (b : Bool) | int (i : Int) | str (x : Str) | byt (b : Array UInt8) | flt (b : UInt64) | ref (a : Addr) | ty (n : String)
 deriving DecidableEq
noncomputable def RelV : V → Value → Prop
 | .non,u => u = Value.none
 | .bl b,u => u = Value.bool b
 | .int i,u => ∃ t,u = Value.int i t
 | .str x,u => ∃ t,u = Value.str x t
 | .byt b,u => ∃ t,u = Value.bytes b t
 | .flt b,u => ∃ t,u = Value.float b t
 | .ref a,u => u = Value.ref a
 | .ty n,u => u = Value.type n
noncomputable abbrev Vals : List V → List Value → Prop:=Paired RelV
theorem Vals.length {xs : List V} {us : List Value} (r : Vals xs us) : xs.length = us.length:=Paired.length r
theorem Vals.get : ∀ {xs : List V} {us : List Value} {i : Nat} {x : V},Vals xs us → xs[i]? = some x → ∃ u,us[i]? = some u ∧ RelV x u
 | _,_,_,_,.nil,e => by simp at e
 | _,_,0,_,.cons r _,e => by simp at e; subst e; exact ⟨_,rfl,r⟩
 | _,_,i + 1,x,.cons _ t,e => by
  obtain ⟨u,h1,h2⟩:=Vals.get (i:=i) (x:=x) t (by simpa using e)
  exact ⟨u,by simpa using h1,h2⟩
theorem Vals.append : ∀ {xs ys : List V} {us ws : List Value},Vals xs us → Vals ys ws → Vals (xs ++ ys) (us ++ ws)
 | _,_,_,_,.nil,s => s
 | _,_,_,_,.cons r t,s => .cons r (Vals.append t s)
theorem Vals.take : ∀ {xs : List V} {us : List Value} (n : Nat),Vals xs us → Vals (xs.take n) (us.take n)
 | _,_,0,_ => .nil
 | _,_,_ + 1,.nil => .nil
 | _,_,n + 1,.cons r t => .cons r (Vals.take n t)
theorem Vals.drop : ∀ {xs : List V} {us : List Value} (n : Nat),Vals xs us → Vals (xs.drop n) (us.drop n)
 | _,_,0,r => r
 | _,_,_ + 1,.nil => .nil
 | _,_,n + 1,.cons _ t => Vals.drop n t
noncomputable def RelO : Option V → Option Value → Prop
 | some v,some u => RelV v u
 | none,none => True
 | _,_ => False
noncomputable def KV {κ : Type} : List (κ × V) → List (κ × Value) → Prop:=Paired fun (p : κ × V) (q : κ × Value) => p.1 = q.1 ∧ RelV p.2 q.2
noncomputable def kV : Key → V
 | .inl i => .int i
 | .inr x => .str x
inductive HO where
 | lst (xs : List V)
 | tup (xs : List V)
 | dK (kvs : List (Key × V)) | dT (kvs : List (List Key × V))
 | set (S : Int → Bool) (n : Nat)
 | ins (C dx : Addr) (fs : List (Str × V))
 | own (x : Addr)
 | xd (fs : List (Str × V))
 | met (f x : Addr)
 | rng (lo hi : Int)
 | frz (o : Obj) (u : HO)
 | tbl (ps : Array Value)
 | ext (φ : Heap → Prop)
noncomputable abbrev Hp:=Addr → Option HO
noncomputable def upd (H : Hp) (a : Addr) (o : HO) : Hp:=fun b => if b = a then some o else H b
theorem zab {H : Hp} {a : Addr} {o : HO} : upd H a o a = some o:=by unfold upd; rw [if_pos rfl]
theorem zad {H : Hp} {a b : Addr} {o : HO} (h : b ≠ a) : upd H a o b = H b:=by unfold upd; rw [if_neg h]
theorem zaR {H : Hp} {a : Addr} {o u : HO} : upd (upd H a o) a u = upd H a u:=by
 funext b; unfold upd; split <;> rfl
theorem zhJ {H : Hp} {a b : Addr} {o u : HO} (h : H a = some o) (h' : H b = some u) (d : o ≠ u) : a ≠ b:=by
 intro e; subst e; rw [h] at h'; exact d (Option.some.inj h')
theorem zae {H : Hp} {a b : Addr} {o : HO} (h : H a = some o) (h' : H b = none) : a ≠ b:=by
 intro e; subst e; rw [h] at h'; cases h'
section
variable (P : Program) (w : World)
noncomputable def zaY (H : Hp) (h : Heap) (a : Addr) : HO → Prop
 | .lst xs => xs.length ≤ sizeLine ∧ ∃ (its : List Value) (n : Nat),Vals xs its ∧ h.get? a = some { cls:=.type "list",data:=.seq its.toArray n }
 | .tup xs => xs.length ≤ sizeLine ∧ ∃ its : List Value,Vals xs its ∧ IsTup h a its.toArray
 | .dK kvs => kvs.length ≤ sizeLine ∧ (a == sysModules) = false ∧ ∃ vs,KV kvs vs ∧ h.DictOf (zaI P w) a vs
 | .dT kvs => kvs.length ≤ sizeLine ∧ (a == sysModules) = false ∧ ∃ xs : List (List Key × Addr × Value),
   Paired (fun (p : List Key × V) (q : List Key × Addr × Value) => p.1 = q.1 ∧ H q.2.1 = some (.tup (p.1.map kV)) ∧ RelV p.2 q.2.2) kvs xs ∧
   ∃ o es ep,h.get? a = some o ∧ o.ExactDict ∧ o.data = .dict es ep ∧ es.toList = xs.map (entryOfKey (tupleKind (zaI P w))) ∧ (xs.map (·.1)).Nodup
 | .set S n => h.SetOf (intKind P w) a S n
 | .ins C dx fs => H dx = some (.own a) ∧ fs.length ≤ 1000 ∧ dx ≠ a ∧ h.get? a = some (W.instObj C dx) ∧
   ∃ mA,h.Ns1 dx mA ∧ (∀ f,RelO (fs.lookup f) (mA f)) ∧ PySem.Within mA (fs.map (·.1))
 | .own _ => ∃ o,h.get? a = some o
 | .xd fs => ∃ mA,h.Ns1 a mA ∧ ∀ f,RelO (fs.lookup f) (mA f)
 | .rng lo hi => ∃ t u v,h.get? a = some { cls:=.type "range",data:=.fields #[.int lo t,.int hi u,.int 1 v] }
 | .frz o u => h.get? a = some o ∧ zaY H h a u
 | .tbl ps => h.get? a = some { cls:=.none,data:=.fields ps }
 | .met f x => h.get? a = some (W.methodObj (.ref f) (.ref x))
 | .ext φ => φ h ∧ (∃ o,h.get? a = some o) ∧ ∀ h1 h2 : Heap,φ h1 → (∀ o,h1.get? a = some o → h2.get? a = some o) → φ h2
noncomputable def HOk (H : Hp) (h : Heap) : Prop:=∀ a o,H a = some o → zaY P w H h a o
end
section
variable {P : Program} {w : World} {H H' : Hp} {h h' : Heap} {a : Addr} {o : HO}
theorem zaY.lt (x : zaY P w H h a o) : a < h.objs.size:=by
 cases o with
 | lst xs => obtain ⟨_,_,_,_,e⟩:=x; exact Heap.lt_size e
 | tup xs => obtain ⟨_,_,_,p⟩:=x; exact p.lt
 | dK kvs => obtain ⟨_,_,_,_,o,_,_,e,_⟩:=x; exact Heap.lt_size e
 | dT kvs => obtain ⟨_,_,_,_,o,_,_,e,_⟩:=x; exact Heap.lt_size e
 | set S n => obtain ⟨o,_,_,_,e,_⟩:=x; exact Heap.lt_size e
 | ins C dx fs => obtain ⟨_,_,_,e,_⟩:=x; exact Heap.lt_size e
 | own y => obtain ⟨_,e⟩:=x; exact Heap.lt_size e
 | xd fs => obtain ⟨_,⟨_,_,_,e,_⟩,_⟩:=x; exact Heap.lt_size e
 | rng lo hi => obtain ⟨_,_,_,e⟩:=x; exact Heap.lt_size e
 | frz ob u => obtain ⟨e,_⟩:=x; exact Heap.lt_size e
 | tbl ps => exact Heap.lt_size (show h.get? a = some _ from x)
 | met f y => exact Heap.lt_size (show h.get? a = some _ from x)
 | ext φ => obtain ⟨_,⟨_,e⟩,_⟩:=x; exact Heap.lt_size e
theorem Paired.mapP {α β : Type} {F G : α → β → Prop} : ∀ {l₁ : List α} {l₂ : List β},Paired F l₁ l₂ → (∀ a b,F a b → G a b) → Paired G l₁ l₂
 | _,_,.nil,_ => .nil
 | _,_,.cons r t,f => .cons (f _ _ r) (Paired.mapP t f)
theorem zaY.stay (x : zaY P w H h a o) (k : ∀ b u,(b = a ∨ H b = some (.own a)) → h.get? b = some u → h'.get? b = some u)
  (ho : ∀ b,H b = some (.own a) → H' b = some (.own a)) (ht : ∀ b xs,H b = some (.tup xs) → H' b = some (.tup xs)) : zaY P w H' h' a o:=by
 induction o with
 | lst xs => obtain ⟨z,its,n,r,e⟩:=x; exact ⟨z,its,n,r,k _ _ (.inl rfl) e⟩
 | tup xs => obtain ⟨z,its,r,ob,e,c⟩:=x; exact ⟨z,its,r,ob,k _ _ (.inl rfl) e,c⟩
 | dK kvs => obtain ⟨z,y,vs,r,ob,es,ep,e,c⟩:=x; exact ⟨z,y,vs,r,ob,es,ep,k _ _ (.inl rfl) e,c⟩
 | dT kvs =>
  obtain ⟨z,y,xs,r,ob,es,ep,e,c⟩:=x
  exact ⟨z,y,xs,Paired.mapP r fun p q z => ⟨z.1,ht _ _ z.2.1,z.2.2⟩,ob,es,ep,k _ _ (.inl rfl) e,c⟩
 | set S n => obtain ⟨ob,es,ep,t,e,c⟩:=x; exact ⟨ob,es,ep,t,k _ _ (.inl rfl) e,c⟩
 | ins C dx fs =>
  obtain ⟨d,z,ne,e,mA,⟨od,es,ep,e2,c⟩,r⟩:=x
  exact ⟨ho _ d,z,ne,k _ _ (.inl rfl) e,mA,⟨od,es,ep,k _ _ (.inr d) e2,c⟩,r⟩
 | own y => obtain ⟨ob,e⟩:=x; exact ⟨ob,k _ _ (.inl rfl) e⟩
 | xd fs => obtain ⟨mA,⟨od,es,ep,e,c⟩,r⟩:=x; exact ⟨mA,⟨od,es,ep,k _ _ (.inl rfl) e,c⟩,r⟩
 | rng lo hi => obtain ⟨t,u,v,e⟩:=x; exact ⟨t,u,v,k _ _ (.inl rfl) e⟩
 | frz ob u ih => obtain ⟨e,q⟩:=x; exact ⟨k _ _ (.inl rfl) e,ih q⟩
 | tbl ps =>
  have e : h.get? a = some { cls:=.none,data:=.fields ps }:=x
  show h'.get? a = some { cls:=.none,data:=.fields ps }
  exact k a _ (.inl rfl) e
 | met f y =>
  have e : h.get? a = some (W.methodObj (.ref f) (.ref y)):=x
  show h'.get? a = some (W.methodObj (.ref f) (.ref y))
  exact k a _ (.inl rfl) e
 | ext φ => obtain ⟨p,⟨o,e⟩,st⟩:=x; exact ⟨st _ _ p fun o q => k _ _ (.inl rfl) q,⟨o,k _ _ (.inl rfl) e⟩,st⟩
theorem HOk.lt (x : HOk P w H h) (e : H a = some o) : a < h.objs.size:=(x a o e).lt
theorem HOk.fresh (x : HOk P w H h) (e : h.objs.size ≤ a) : H a = none:=by
 cases q : H a with
 | none => rfl
 | some u => exact absurd (Nat.lt_of_lt_of_le (x.lt q) e) (Nat.lt_irrefl _)
theorem HOk.kept (x : HOk P w H h) (k : ∀ b u,h.get? b = some u → h'.get? b = some u) : HOk P w H h':=fun a o e =>
 (x a o e).stay (fun b u _ q => k b u q) (fun _ q => q) fun _ _ q => q
theorem HOk.laid (x : HOk P w H h) (k : ∀ b u,h.get? b = some u → h'.get? b = some u) (hp : h.objs.size ≤ a) (new : zaY P w (upd H a o) h' a o) : HOk P w (upd H a o) h':=fun b u e => by
 have hn:=x.fresh hp
 by_cases hb : b = a
 ·subst hb; rw [zab] at e; cases e; exact new
 ·rw [zad hb] at e
  exact (x b u e).stay (fun c v _ q => k c v q) (fun c q => by rw [zad (zae q hn)]; exact q) fun c xs q => by rw [zad (zae q hn)]; exact q
end
noncomputable def Rd (H : Hp) (a : Addr) (u : HO) : Prop:=H a = some u ∨ ∃ o,H a = some (.frz o u)
theorem Rd.ok {P : Program} {w : World} {H : Hp} {h : Heap} {a : Addr} {u : HO} (r : Rd H a u) (x : HOk P w H h) : zaY P w H h a u:=by
 rcases r with r | ⟨o,r⟩
 ·exact x a u r
 ·obtain ⟨_,q⟩:=x a _ r
  exact q
noncomputable def Mut : Option HO → Prop
 | some (.lst _) => True
 | some (.dK _) => True
 | some (.dT _) => True
 | some (.set _ _) => True
 | some (.ins _ _ _) => True
 | some (.ext _) => True
 | _ => False
section
variable {P : Program} {w : World} {H : Hp} {h h' : Heap} {x e : Addr} {o' : HO}
theorem HOk.write (ok : HOk P w H h) (mu : Mut (H x)) (he : e = x ∨ H e = some (.own x)) (k : ∀ b u,b ≠ e → h.get? b = some u → h'.get? b = some u) (heo : ∃ u,h'.get? e = some u)
  (new : zaY P w (upd H x o') h' x o') : HOk P w (upd H x o') h':=fun b u q => by
 have nown : ∀ c y,H c = some (.own y) → c ≠ x:=fun c y r z => by subst z; rw [r] at mu; exact mu
 have ntup : ∀ c xs,H c = some (.tup xs) → c ≠ x:=fun c xs r z => by subst z; rw [r] at mu; exact mu
 by_cases hb : b = x
 ·subst hb; rw [zab] at q; cases q; exact new
 ·rw [zad hb] at q
  by_cases hbe : b = e
  ·have q' : H b = some (.own x):=by
    rcases he with z | z
    ·exact absurd (hbe.trans z) hb
    ·rw [hbe]; exact z
   rw [q] at q'; cases q'
   obtain ⟨v,hv⟩:=heo
   exact ⟨v,by rw [hbe]; exact hv⟩
  ·refine (ok b u q).stay (fun c v hc r => k c v ?_ r) (fun c r => by rw [zad (nown c b r)]; exact r) fun c xs r => by rw [zad (ntup c xs r)]; exact r
   rcases hc with rfl | hc
   ·exact hbe
   ·rintro rfl
    rcases he with z | z
    ·exact nown c b hc z
    ·rw [hc] at z; cases z; exact hb rfl
end
structure Un (fs ex : List Addr) (H H' : Hp) (h h' : Heap) : Prop where
 keep : ∀ b o,h.get? b = some o → H b = none → b ∉ fs → b ∉ ex → h'.get? b = some o
 slot : ∀ b o,h.get? b = some o → H b = none → b ∈ fs → b ∉ ex → ∃ sl,h'.get? b = some { o with slots:=sl }
 free : ∀ b o,h.get? b = some o → H b = none → b ∉ ex → H' b = none
 there : ∀ b o,h.get? b = some o → b ∉ ex → ∃ o',h'.get? b = some o'
 tups : ∀ b xs,H b = some (.tup xs) → H' b = some (.tup xs)
 frzs : ∀ b o u,H b = some (.frz o u) → H' b = some (.frz o u)
 tbls : ∀ b ps,H b = some (.tbl ps) → ∃ more,H' b = some (.tbl (ps ++ more))
section
variable {fs fs' ex ex' : List Addr} {H H1 H2 : Hp} {h h1 h2 h' : Heap} {a x e : Addr} {o : HO}
theorem Un.any (u : Un fs ex H H1 h h1) {b : Addr} {ob : Obj} (q : h.get? b = some ob) (n : H b = none) (hx : b ∉ ex) : ∃ sl,h1.get? b = some { ob with slots:=sl }:=by
 by_cases hb : b ∈ fs
 ·exact u.slot b ob q n hb hx
 ·exact ⟨ob.slots,u.keep b ob q n hb hx⟩
theorem Un.kept (k : ∀ b u,h.get? b = some u → h'.get? b = some u) : Un fs ex H H h h' :=
 ⟨fun b ob q _ _ _ => k b ob q,fun b ob q _ _ _ => ⟨ob.slots,k b ob q⟩,fun _ _ _ n _ => n,fun b ob q _ => ⟨ob,k b ob q⟩,fun _ _ q => q,fun _ _ _ q => q,fun _ ps q => ⟨#[],by rw [q]; simp⟩⟩
theorem Un.refl : Un fs ex H H h h:=Un.kept fun _ _ q => q
theorem Un.laid (k : ∀ b u,h.get? b = some u → h'.get? b = some u) (hp : h.objs.size ≤ a) (hn : H a = none) : Un fs ex H (upd H a o) h h' where
 keep:=fun b u q _ _ _ => k b u q
 slot:=fun b u q _ _ _ => ⟨u.slots,k b u q⟩
 free:=fun b u q n _ => by rw [zad (Nat.ne_of_lt (Nat.lt_of_lt_of_le (Heap.lt_size q) hp))]; exact n
 there:=fun b u q _ => ⟨u,k b u q⟩
 tups:=fun b xs q => by rw [zad (zae q hn)]; exact q
 frzs:=fun b u xs q => by rw [zad (zae q hn)]; exact q
 tbls:=fun b ps q => ⟨#[],by rw [zad (zae q hn),q]; simp⟩
theorem Un.write (mu : Mut (H x)) (he : e = x ∨ H e = some (.own x)) (k : ∀ b u,b ≠ e → h.get? b = some u → h'.get? b = some u) (heo : ∃ u,h'.get? e = some u) : Un fs ex H (upd H x o) h h':=by
 have hx : ∀ b,H b = none → b ≠ x:=fun b n z => by subst z; rw [n] at mu; exact mu
 have hb : ∀ b,H b = none → b ≠ e:=fun b n z => by
  subst z
  rcases he with r | r
  ·exact hx b n r
  ·rw [n] at r; cases r
 have hm : ∀ b u,H b = some u → ¬ Mut (some u) → b ≠ x:=fun b u q nm z => by subst z; rw [q] at mu; exact nm mu
 refine ⟨fun b u q n _ _ => k b u (hb b n) q,fun b u q n _ _ => ⟨u.slots,k b u (hb b n) q⟩,fun b u q n _ => by rw [zad (hx b n)]; exact n,fun b u q _ => ?_,
  fun b xs q => by rw [zad (hm b _ q fun z => z)]; exact q,fun b u xs q => by rw [zad (hm b _ q fun z => z)]; exact q,fun b ps q => ⟨#[],by rw [zad (hm b _ q fun z => z),q]; simp⟩⟩
 by_cases hbe : b = e
 ·subst hbe; exact heo
 ·exact ⟨u,k b u hbe q⟩
end
noncomputable def trk (h : Heap) (H : Hp) : List Addr:=(List.range h.objs.size).filter fun a => (H a).isSome
noncomputable def hidT (h : Heap) (H : Hp) : Heap:=W.hideAll h (trk h H)
theorem zjz (h : Heap) (H : Hp) : (hidT h H).objs.size = h.objs.size:=W.hideAll_size _ _
theorem hidT_get {h : Heap} {H : Hp} {b : Addr} {o : Obj} (e : h.get? b = some o) (n : H b = none) : (hidT h H).get? b = some o :=
 W.hideAll_get _ e fun hm => by
  have q : (H b).isSome = true:=(List.mem_filter.mp hm).2
  rw [n] at q; simp at q
theorem of_hidT {h : Heap} {H : Hp} {b : Addr} {o : Obj} (e : (hidT h H).get? b = some o) : h.get? b = some o ∧ H b = none:=by
 have e' : h.get? b = some o:=W.of_hideAll (trk h H) e
 refine ⟨e',?_⟩
 cases q : H b with
 | none => rfl
 | some x =>
  have hm : b ∈ trk h H:=List.mem_filter.mpr ⟨List.mem_range.mpr (Heap.lt_size e'),by simp [q]⟩
  have z : (hidT h H).get? b = none:=W.hideAll_none (trk h H) hm
  rw [z] at e; cases e
end L2
namespace L2
open PySem PySem.Spec PyProof.Rows
structure Mod (K : W.Frag) (mg : Str → Option Value) (base : Heap) : Prop where
 kin : K.In base
 glob : base.Ns mainGlobals mg
 blt : ∃ mb,base.Ns builtinsNs mb ∧ ∀ x : Str,x ≠ "__name__" → mb x = bootBuiltins x
 nolimit : base.NoLimit
structure Cx where
 prog : Program
 w : World
 K : W.Frag
 mg : Str → Option Value
 base : Heap
 A : Around
 N : List Str
 s₀ : Shared
 H₀ : Hp
 env : Env
 outer : List Env
 stack : List Env
 ex : List Addr
 fn : Str → Bool
 calm : Bool
 pn : List (Addr × Obj)
 xe : Value → Shared → Prop
noncomputable def frs (l : List Env) : List Addr:=l.filterMap (·.frame)
noncomputable abbrev Cx.fs (X : Cx) : List Addr:=frs X.outer
noncomputable def Vis (sc : Scope) (x : Str) : Prop:=sc.names.lookup x = some .local ∨ sc.names.lookup x = some .cell ∨ sc.names.lookup x = some .free
noncomputable def Loc (sc : Scope) (x : Str) : Prop:=sc.names.lookup x = some .local ∨ sc.names.lookup x = some .cell
noncomputable def Look (env : Env) (h : Heap) (m : Str → Option Value) (x : Str) (u : Value) : Prop :=
 (env.kindOf x = some .local ∧ m x = some u) ∨ ((env.kindOf x = some .cell ∨ env.kindOf x = some .free) ∧ ∃ c,env.cells.lookup x = some c ∧ h.IsCell c (some u))
structure Cx.Ok (X : Cx) : Prop where
 mod : Mod X.K X.mg X.base
 kind : X.env.scope.kind = .function
 glob : X.env.globals = mainGlobals
 blt : X.env.builtins = builtinsNs
 above : X.s₀.heap.objs.size ≤ X.env.locals
 inj : ∀ x y c,X.env.cells.lookup x = some c → X.env.cells.lookup y = some c → x = y
 has : ∀ x,(X.env.kindOf x = some .cell ∨ X.env.kindOf x = some .free) → ∃ c,X.env.cells.lookup x = some c
 cab : ∀ x c,X.fn x = true → X.env.cells.lookup x = some c → X.s₀.heap.objs.size ≤ c
 hd : X.calm = true → X.A.handled = none
 frames : X.A.frames = some X.stack
 stk : X.stack = X.outer ∨ (X.stack = X.env :: X.outer ∧ X.env.frame = some X.env.locals)
 exf : ∀ b ∈ X.ex,b ≠ X.env.locals ∧ ∀ x c,X.env.cells.lookup x = some c → c ≠ b
 bs : ∀ b o,X.base.get? b = some o → X.s₀.heap.get? b = some o ∧ X.H₀ b = none
 bsz : X.base.objs.size ≤ X.s₀.heap.objs.size
 noex : ∀ b o,X.base.get? b = some o → b ∉ X.ex
 exfs : ∀ b ∈ X.ex,b ∉ X.fs
 funs : X.s₀.heap.FunFrames X.base X.outer
 frf : ∀ b ∈ X.fs,X.H₀ b = none
structure Inv (X : Cx) (pins : List (Addr × Obj)) (σ : List (Option V)) (H : Hp) (s : Shared) : Prop where
 ok : X.Ok
 os : s.os = X.s₀.os
 bare : AllBare s.gens
 base : Un X.fs X.ex X.H₀ H X.s₀.heap s.heap
 loc : ∃ m,s.heap.Ns X.env.locals m ∧ ∀ (i : Nat) (x : Str) (v : V),X.N[i]? = some x → σ[i]? = some (some v) → Vis X.env.scope x → ∃ u,RelV v u ∧ Look X.env s.heap m x u
 cell : ∀ x c,X.env.cells.lookup x = some c → ∃ v,s.heap.IsCell c v
 free : H X.env.locals = none
 freeC : ∀ x c,X.env.cells.lookup x = some c → H c = none
 pin : ∀ p ∈ X.pn ++ pins,s.heap.get? p.1 = some p.2 ∧ H p.1 = none ∧ p.1 ≠ X.env.locals ∧ p.1 ∉ X.fs ∧ ∀ v,p.2.data ≠ .cell v
 hok : HOk X.prog X.w H s.heap
 len : σ.length = X.N.length
section
variable {X : Cx} {pins : List (Addr × Obj)} {σ : List (Option V)} {H H' : Hp} {s : Shared} {h' : Heap}
theorem Cx.Ok.nofr (ok : X.Ok) {b : Addr} {o : Obj} (e : X.base.get? b = some o) : b ∉ X.fs:=fun hb => by
 have:=(ok.funs.mem hb).1
 rw [e] at this; cases this
theorem Inv.bs (I : Inv X pins σ H s) : ∀ b o,X.base.get? b = some o → s.heap.get? b = some o ∧ H b = none:=fun b o e =>
 ⟨I.base.keep b o (I.ok.bs b o e).1 (I.ok.bs b o e).2 (I.ok.nofr e) (I.ok.noex b o e),I.base.free b o (I.ok.bs b o e).1 (I.ok.bs b o e).2 (I.ok.noex b o e)⟩
theorem Inv.bk (I : Inv X pins σ H s) : ∀ b o,X.base.get? b = some o → s.heap.get? b = some o:=fun b o e => (I.bs b o e).1
theorem Inv.mod (I : Inv X pins σ H s) : Mod X.K X.mg X.base:=I.ok.mod
theorem Inv.kIn (I : Inv X pins σ H s) : X.K.In s.heap:=I.ok.mod.kin.keeps I.bk
theorem Inv.lt (I : Inv X pins σ H s) : X.env.locals < s.heap.objs.size:=let ⟨_,hn,_⟩:=I.loc; hn.lt
theorem Inv.sz (I : Inv X pins σ H s) : X.s₀.heap.objs.size ≤ s.heap.objs.size:=Nat.le_trans I.ok.above (Nat.le_of_lt I.lt)
theorem Inv.nofs (I : Inv X pins σ H s) {a : Addr} (h : s.heap.objs.size ≤ a) : a ∉ X.fs:=fun hb => by
 obtain ⟨_,o,ho,_⟩:=I.ok.funs.mem hb
 exact absurd (Nat.lt_of_lt_of_le (Heap.lt_size ho) (Nat.le_trans I.sz h)) (Nat.lt_irrefl _)
theorem Inv.cne (I : Inv X pins σ H s) : ∀ x c,X.env.cells.lookup x = some c → c ≠ X.env.locals:=fun x c e z => by
 obtain ⟨v,o,ho,hd⟩:=I.cell x c e
 obtain ⟨m,⟨o',es,ep,ho',hd',_⟩,_⟩:=I.loc
 rw [z,ho'] at ho; cases ho; rw [hd'] at hd; cases hd
theorem Inv.funs (I : Inv X pins σ H s) : s.heap.FunFrames X.base X.outer:=by
 have all : ∀ (l : List Env),(∀ b ∈ frs l,b ∈ X.fs) → X.s₀.heap.FunFrames X.base l → s.heap.FunFrames X.base l:=by
  intro l
  induction l with
  | nil => intro _ _; trivial
  | cons env r ih =>
   intro hs hl
   obtain ⟨hk,⟨L,o,hf,hn,ho,hd⟩,hr⟩:=hl
   have hL : L ∈ X.fs:=hs L (by unfold frs; rw [List.filterMap_cons,hf]; exact List.mem_cons_self)
   obtain ⟨sl,e⟩:=I.base.slot L o ho (I.ok.frf L hL) hL fun z => I.ok.exfs L z hL
   exact ⟨hk,⟨L,_,hf,hn,e,hd⟩,ih (fun b hb => hs b (by unfold frs; rw [List.filterMap_cons,hf]; exact List.mem_cons_of_mem _ hb)) hr⟩
 exact all X.outer (fun _ hb => hb) I.ok.funs
theorem Inv.stack (I : Inv X pins σ H s) : s.heap.FunFrames X.base X.stack:=by
 rcases I.ok.stk with e | ⟨e,hf⟩
 ·rw [e]; exact I.funs
 ·rw [e]
  obtain ⟨m,hn,_⟩:=I.loc
  refine .cons (by rw [I.ok.kind]; decide) hf hn ?_ I.funs
  exact Heap.get?_none_of_le (Nat.le_trans I.ok.bsz I.ok.above)
theorem Inv.stkSub (I : Inv X pins σ H s) : ∀ b ∈ frs X.stack,b ∈ X.env.locals :: X.fs:=fun b hb => by
 rcases I.ok.stk with e | ⟨e,hf⟩
 ·rw [e] at hb; exact List.mem_cons_of_mem _ hb
 ·rw [e] at hb
  unfold frs at hb
  rw [List.filterMap_cons,hf] at hb
  exact hb
theorem Inv.stkFree (I : Inv X pins σ H s) : ∀ b ∈ frs X.stack,H b = none:=fun b hb => by
 rcases List.mem_cons.mp (I.stkSub b hb) with e | hb
 ·rw [e]; exact I.free
 ·obtain ⟨_,o,ho,_⟩:=I.ok.funs.mem hb
  exact I.base.free b o ho (I.ok.frf b hb) fun z => I.ok.exfs b z hb
theorem Inv.step {g' : Array GenState} {t' : Nat} {d' : Drawn} {ch : List Addr} (I : Inv X pins σ H s)
  (hch : ∀ b ∈ ch,(b ∈ X.ex ∨ X.s₀.heap.objs.size ≤ b) ∧ b ≠ X.env.locals ∧ (∀ x c,X.env.cells.lookup x = some c → c ≠ b) ∧ ∀ p ∈ X.pn ++ pins,p.1 ≠ b)
  (keep : ∀ b o,b ≠ X.env.locals → b ∉ X.fs → b ∉ ch → s.heap.get? b = some o → H b = none → h'.get? b = some o)
  (slot : ∀ b o,b ≠ X.env.locals → b ∈ X.fs → b ∉ ch → s.heap.get? b = some o → H b = none → ∃ sl,h'.get? b = some { o with slots:=sl }) (free : ∀ b o,b ∉ ch → s.heap.get? b = some o → H b = none → H' b = none)
  (there : ∀ b o,b ∉ ch → s.heap.get? b = some o → ∃ o',h'.get? b = some o')
  (tups : ∀ b xs,H b = some (.tup xs) → H' b = some (.tup xs)) (frzs : ∀ b o u,H b = some (.frz o u) → H' b = some (.frz o u)) (tbls : ∀ b ps,H b = some (.tbl ps) → ∃ more,H' b = some (.tbl (ps ++ more)))
  (ns : ∀ m,s.heap.Ns X.env.locals m → h'.Ns X.env.locals m) (hok : HOk X.prog X.w H' h') (hg : AllBare g') :
  Inv X pins σ H' { s with heap:=h',gens:=g',drawn:=d',toks:=t' }:=by
 have neL : ∀ b o,X.s₀.heap.get? b = some o → b ≠ X.env.locals:=fun b o e => Nat.ne_of_lt (Nat.lt_of_lt_of_le (Heap.lt_size e) I.ok.above)
 have neC : ∀ b o,X.s₀.heap.get? b = some o → b ∉ X.ex → b ∉ ch:=fun b o e hx hb => by
  rcases (hch b hb).1 with z | z
  ·exact hx z
  ·exact absurd (Nat.lt_of_lt_of_le (Heap.lt_size e) z) (Nat.lt_irrefl _)
 have cellK : ∀ x c,X.env.cells.lookup x = some c → ∀ v,s.heap.IsCell c v → h'.IsCell c v:=fun x c e v ⟨o,ho,hd⟩ => by
  have nch : c ∉ ch:=fun z => (hch c z).2.2.1 x c e rfl
  by_cases hc : c ∈ X.fs
  ·obtain ⟨sl,q⟩:=slot c o (I.cne x c e) hc nch ho (I.freeC x c e)
   exact ⟨_,q,hd⟩
  ·exact ⟨o,keep c o (I.cne x c e) hc nch ho (I.freeC x c e),hd⟩
 refine ⟨I.ok,I.os,hg,⟨fun b o e n hb hx => ?_,fun b o e n hb hx => ?_,fun b o e n hx => ?_,fun b o e hx => ?_,fun b xs e => tups b xs (I.base.tups b xs e),fun b o xs e => frzs b o xs (I.base.frzs b o xs e),fun b ps e => ?_⟩,?_,fun x c e => ?_,?_,fun x c e => ?_,fun p hp => ?_,hok,I.len⟩
 ·exact keep b o (neL b o e) hb (neC b o e hx) (I.base.keep b o e n hb hx) (I.base.free b o e n hx)
 ·obtain ⟨sl,e1⟩:=I.base.slot b o e n hb hx
  obtain ⟨sl',e2⟩:=slot b _ (neL b o e) hb (neC b o e hx) e1 (I.base.free b o e n hx)
  exact ⟨sl',e2⟩
 ·obtain ⟨o',e1⟩:=I.base.there b o e hx
  exact free b o' (neC b o e hx) e1 (I.base.free b o e n hx)
 ·obtain ⟨o',e1⟩:=I.base.there b o e hx
  exact there b o' (neC b o e hx) e1
 ·obtain ⟨m1,e1⟩:=I.base.tbls b ps e
  obtain ⟨m2,e2⟩:=tbls b _ e1
  exact ⟨m1 ++ m2,by rw [e2,Array.append_assoc]⟩
 ·obtain ⟨m,hn,hl⟩:=I.loc
  refine ⟨m,ns m hn,fun i x v e1 e2 e3 => ?_⟩
  obtain ⟨u,r,l⟩:=hl i x v e1 e2 e3
  refine ⟨u,r,?_⟩
  rcases l with l | ⟨k,c,e,z⟩
  ·exact .inl l
  ·exact .inr ⟨k,c,e,cellK x c e _ z⟩
 ·obtain ⟨v,z⟩:=I.cell x c e
  exact ⟨v,cellK x c e v z⟩
 ·obtain ⟨m,⟨o,_,_,ho,_⟩,_⟩:=I.loc
  exact free _ o (fun z => (hch _ z).2.1 rfl) ho I.free
 ·obtain ⟨v,o,ho,hd⟩:=I.cell x c e
  exact free c o (fun z => (hch c z).2.2.1 x c e rfl) ho (I.freeC x c e)
 ·obtain ⟨e,n,ne,nf,d⟩:=I.pin p hp
  have nch : p.1 ∉ ch:=fun z => (hch p.1 z).2.2.2 p hp rfl
  exact ⟨keep p.1 p.2 ne nf nch e n,free p.1 p.2 nch e n,ne,nf,d⟩
theorem Inv.un {t' : Nat} (I : Inv X pins σ H s) (u : Un X.fs [] H H' s.heap h') (hok : HOk X.prog X.w H' h') : Inv X pins σ H' { s with heap:=h',toks:=t' }:=by
 obtain ⟨m,⟨o,es,ep,ho,r⟩,_⟩:=id I.loc
 obtain ⟨sl,hL⟩:=u.any ho I.free (by simp)
 exact I.step (g':=s.gens) (d':=s.drawn) (ch:=[]) (fun _ z => nomatch z) (fun b o _ hb _ e n => u.keep b o e n hb (by simp)) (fun b o _ hb _ e n => u.slot b o e n hb (by simp)) (fun b o _ e n => u.free b o e n (by simp)) (fun b o _ e => u.there b o e (by simp)) u.tups u.frzs u.tbls (fun m' hm => by
  obtain ⟨o',es',ep',ho',r'⟩:=hm
  rw [ho] at ho'; cases ho'
  exact ⟨_,es',ep',hL,r'⟩) hok I.bare
theorem Inv.call {g' : Array GenState} {t' : Nat} {d' : Drawn} {ch : List Addr} (I : Inv X pins σ H s) (u : Un (frs X.stack) ch H H' s.heap h') (hok : HOk X.prog X.w H' h') (hg : AllBare g')
  (hch : ∀ b ∈ ch,(b ∈ X.ex ∨ X.s₀.heap.objs.size ≤ b) ∧ b ≠ X.env.locals ∧ (∀ x c,X.env.cells.lookup x = some c → c ≠ b) ∧ ∀ p ∈ X.pn ++ pins,p.1 ≠ b) :
  Inv X pins σ H' { s with heap:=h',gens:=g',drawn:=d',toks:=t' }:=by
 obtain ⟨m,⟨o,es,ep,ho,r⟩,_⟩:=id I.loc
 obtain ⟨sl,hL⟩:=u.any ho I.free fun z => (hch _ z).2.1 rfl
 exact I.step (ch:=ch) hch (fun b o hL hb hc e n => u.keep b o e n (fun z => (List.mem_cons.mp (I.stkSub b z)).elim hL hb) hc) (fun b o _ _ hc e n => u.any e n hc) (fun b o hc e n => u.free b o e n hc) (fun b o hc e => u.there b o e hc) u.tups u.frzs u.tbls (fun m' hm => by
  obtain ⟨o',es',ep',ho',r'⟩:=hm
  rw [ho] at ho'; cases ho'
  exact ⟨_,es',ep',hL,r'⟩) hok hg
theorem Inv.turned {t' : Nat} {it : Addr} (I : Inv X pins σ H s) (k : ∀ b o,b ≠ it → s.heap.get? b = some o → h'.get? b = some o) (hn : H it = none) (hL : it ≠ X.env.locals)
  (h1 : it ∈ X.ex ∨ X.s₀.heap.objs.size ≤ it) (h2 : ∀ x c,X.env.cells.lookup x = some c → c ≠ it) (h3 : ∀ p ∈ X.pn ++ pins,p.1 ≠ it) : Inv X pins σ H { s with heap:=h',toks:=t' }:=by
 have nit : ∀ b u,H b = some u → b ≠ it:=fun b u e z => by rw [z,hn] at e; cases e
 refine I.step (g':=s.gens) (d':=s.drawn) (ch:=[it]) (fun b hb => ?_) (fun b o _ _ hc e _ => k b o (fun z => hc (by simp [z])) e) (fun b o _ _ hc e _ => ⟨o.slots,k b o (fun z => hc (by simp [z])) e⟩) (fun _ _ _ _ n => n)
  (fun b o hc e => ⟨o,k b o (fun z => hc (by simp [z])) e⟩) (fun _ _ e => e) (fun _ _ _ e => e) (fun b ps e => ⟨#[],by rw [e]; simp⟩) (fun m hm => ?_) (fun b u e => ?_) I.bare
 ·have e : b = it:=by simpa using hb
  subst e
  exact ⟨h1,hL,h2,h3⟩
 ·obtain ⟨o,es,ep,ho,r⟩:=hm
  exact ⟨o,es,ep,k _ o (Ne.symm hL) ho,r⟩
 ·refine (I.hok b u e).stay (fun c v hc q => k c v ?_ q) (fun _ q => q) fun _ _ q => q
  rcases hc with z | z
  ·rw [z]; exact nit b u e
  ·exact nit c _ z
theorem Inv.tok (I : Inv X pins σ H s) (t : Nat) : Inv X pins σ H { s with toks:=t }:=I.un (h':=s.heap) (t':=t) Un.refl I.hok
theorem Inv.kept {t' : Nat} (I : Inv X pins σ H s) (k : ∀ b u,s.heap.get? b = some u → h'.get? b = some u) : Inv X pins σ H { s with heap:=h',toks:=t' }:=I.un (Un.kept k) (I.hok.kept k)
theorem Inv.laid {a : Addr} {o : HO} {t' : Nat} (I : Inv X pins σ H s) (k : ∀ b u,s.heap.get? b = some u → h'.get? b = some u) (hp : s.heap.objs.size ≤ a) (new : zaY X.prog X.w (upd H a o) h' a o) :
  Inv X pins σ (upd H a o) { s with heap:=h',toks:=t' }:=I.un (Un.laid k hp (I.hok.fresh hp)) (I.hok.laid k hp new)
theorem Inv.write {x e : Addr} {o : HO} {t' : Nat} (I : Inv X pins σ H s) (mu : Mut (H x)) (he : e = x ∨ H e = some (.own x)) (k : ∀ b u,b ≠ e → s.heap.get? b = some u → h'.get? b = some u) (heo : ∃ u,h'.get? e = some u)
  (new : zaY X.prog X.w (upd H x o) h' x o) : Inv X pins σ (upd H x o) { s with heap:=h',toks:=t' }:=I.un (Un.write mu he k heo) (I.hok.write mu he k heo new)
theorem Inv.weak {σ' : List (Option V)} (I : Inv X pins σ H s) (hl : σ'.length = σ.length) (w : ∀ (i : Nat) v,σ'[i]? = some (some v) → σ[i]? = some (some v)) : Inv X pins σ' H s :=
 ⟨I.ok,I.os,I.bare,I.base,let ⟨m,hn,hl'⟩:=I.loc; ⟨m,hn,fun i x v e1 e2 e3 => hl' i x v e1 (w i v e2) e3⟩,I.cell,I.free,I.freeC,I.pin,I.hok,hl.trans I.len⟩
theorem Inv.pins_of {pins' : List (Addr × Obj)} (I : Inv X pins σ H s) (h : ∀ p ∈ pins',s.heap.get? p.1 = some p.2 ∧ H p.1 = none ∧ p.1 ≠ X.env.locals ∧ p.1 ∉ X.fs ∧ ∀ v,p.2.data ≠ .cell v) : Inv X pins' σ H s :=
 ⟨I.ok,I.os,I.bare,I.base,I.loc,I.cell,I.free,I.freeC,fun p hp => (List.mem_append.mp hp).elim (fun z => I.pin p (List.mem_append_left _ z)) (h p),I.hok,I.len⟩
theorem zeQ {N : List Str} (hN : N.Nodup) {i j : Nat} {x : Str} (a : N[i]? = some x) (b : N[j]? = some x) : i = j:=by
 obtain ⟨h1,e1⟩:=List.getElem?_eq_some_iff.mp a
 obtain ⟨h2,e2⟩:=List.getElem?_eq_some_iff.mp b
 exact (List.getElem_inj hN).mp (e1.trans e2.symm)
theorem zfk {M : Model} {A : Around} {E : Value → Shared → Prop} {i : Nat} {x : Str} {v : V} {u : Value} {Q : Unit → Shared → Prop} (I : Inv X pins σ H s) (hN : X.N.Nodup) (hi : X.N[i]? = some x) (hx : Loc X.env.scope x) (r : RelV v u)
  (h : ∀ s',Inv X pins (σ.set i (some v)) H s' → (∃ a,Heap.SameBut a s.heap s'.heap ∧ (a = X.env.locals ∨ X.env.cells.lookup x = some a)) → Q () s') (hf : X.fn x = true ∨ X.env.scope.names.lookup x = some .local:=by first | exact .inl rfl | exact .inr rfl | assumption) : wpAny M A (storeName X.env x u) Q E s:=by
 obtain ⟨m,hn,hl⟩:=id I.loc
 have hcls : (X.env.scope.kind == .class || (X.env.scope.kind == .module && X.env.locals != X.env.globals)) = false:=by rw [I.ok.kind]; rfl
 have hiσ : i < σ.length:=by rw [I.len]; exact (List.getElem?_eq_some_iff.mp hi).1
 have cne:=I.cne
 have tracked : ∀ {a : Addr} {h' : Heap},(∃ o,s.heap.get? a = some o ∧ H a = none) → Heap.SameBut a s.heap h' → HOk X.prog X.w H h':=fun {a h'} ha hs b ob e => by
  obtain ⟨_,_,hfree⟩:=ha
  refine (I.hok b ob e).stay (fun c w' hc q => (hs.2 c ?_).trans q) (fun _ q => q) fun _ _ q => q
  rintro rfl
  rcases hc with rfl | hc
  ·rw [hfree] at e; cases e
  ·rw [hfree] at hc; cases hc
 rcases hx with hk | hk
 ·refine wpAny_storeName_local hk hn (fun h' hn' hs => ?_) hcls
  obtain ⟨oL,_,_,hoL,_⟩:=id hn
  refine h _ ⟨I.ok,I.os,I.bare,⟨fun b o e n hb hx => ?_,fun b o e n hb hx => ?_,I.base.free,fun b o e hx => ?_,I.base.tups,I.base.frzs,I.base.tbls⟩,⟨_,hn',fun j y v' e1 e2 e3 => ?_⟩,fun y c e => ?_,I.free,I.freeC,fun p hp => ?_,tracked ⟨oL,hoL,I.free⟩ hs,by simpa using I.len⟩ ⟨_,hs,.inl rfl⟩
  ·exact (hs.2 b (Nat.ne_of_lt (Nat.lt_of_lt_of_le (Heap.lt_size e) I.ok.above))).trans (I.base.keep b o e n hb hx)
  ·obtain ⟨sl,e1⟩:=I.base.slot b o e n hb hx
   exact ⟨sl,(hs.2 b (Nat.ne_of_lt (Nat.lt_of_lt_of_le (Heap.lt_size e) I.ok.above))).trans e1⟩
  ·obtain ⟨o',e1⟩:=I.base.there b o e hx
   exact ⟨o',(hs.2 b (Nat.ne_of_lt (Nat.lt_of_lt_of_le (Heap.lt_size e) I.ok.above))).trans e1⟩
  ·by_cases hj : j = i
   ·subst hj
    rw [hi] at e1; cases e1
    rw [List.getElem?_set_self hiσ] at e2
    cases e2
    exact ⟨u,r,.inl ⟨hk,by simp⟩⟩
   ·rw [List.getElem?_set_ne (Ne.symm hj)] at e2
    obtain ⟨u',r',q⟩:=hl j y v' e1 e2 e3
    refine ⟨u',r',?_⟩
    rcases q with ⟨k,e⟩ | ⟨k,c,e,z⟩
    ·refine .inl ⟨k,?_⟩
     have : y ≠ x:=fun e => hj (zeQ hN e1 (e ▸ hi))
     simp [this,e]
    ·exact .inr ⟨k,c,e,z.sameBut hs (cne y c e)⟩
  ·obtain ⟨w',z⟩:=I.cell y c e
   exact ⟨w',z.sameBut hs (cne y c e)⟩
  ·obtain ⟨e,n,ne,nf,d⟩:=I.pin p hp
   exact ⟨(hs.2 p.1 ne).trans e,n,ne,nf,d⟩
 ·have hfn : X.fn x = true:=by
   rcases hf with z | z
   ·exact z
   ·rw [z] at hk; cases hk
  obtain ⟨c,hc⟩:=I.ok.has x (.inl hk)
  obtain ⟨w',z⟩:=I.cell x c hc
  refine wpAny_storeName_cell I.ok.kind hk hc z (fun h' hc' hs => ?_)
  obtain ⟨oc,hoc,hocd⟩:=id z
  refine h { s with heap:=h' } ⟨I.ok,I.os,I.bare,⟨fun b o e n hb hx => ?_,fun b o e n hb hx => ?_,I.base.free,fun b o e hx => ?_,I.base.tups,I.base.frzs,I.base.tbls⟩,⟨m,hn.sameBut hs (Ne.symm (cne x c hc)),fun j y v' e1 e2 e3 => ?_⟩,fun y c' e => ?_,I.free,I.freeC,fun p hp => ?_,tracked ⟨oc,hoc,I.freeC x c hc⟩ hs,by simpa using I.len⟩ ⟨c,hs,.inr hc⟩
  ·exact (hs.2 b (Nat.ne_of_lt (Nat.lt_of_lt_of_le (Heap.lt_size e) (I.ok.cab x c hfn hc)))).trans (I.base.keep b o e n hb hx)
  ·obtain ⟨sl,e1⟩:=I.base.slot b o e n hb hx
   exact ⟨sl,(hs.2 b (Nat.ne_of_lt (Nat.lt_of_lt_of_le (Heap.lt_size e) (I.ok.cab x c hfn hc)))).trans e1⟩
  ·obtain ⟨o',e1⟩:=I.base.there b o e hx
   exact ⟨o',(hs.2 b (Nat.ne_of_lt (Nat.lt_of_lt_of_le (Heap.lt_size e) (I.ok.cab x c hfn hc)))).trans e1⟩
  ·by_cases hj : j = i
   ·subst hj
    rw [hi] at e1; cases e1
    rw [List.getElem?_set_self hiσ] at e2
    cases e2
    exact ⟨u,r,.inr ⟨.inl hk,c,hc,hc'⟩⟩
   ·rw [List.getElem?_set_ne (Ne.symm hj)] at e2
    obtain ⟨u',r',q⟩:=hl j y v' e1 e2 e3
    refine ⟨u',r',?_⟩
    rcases q with q | ⟨k,c',e,z'⟩
    ·exact .inl q
    ·refine .inr ⟨k,c',e,z'.sameBut hs ?_⟩
     rintro rfl
     exact hj (zeQ hN e1 (I.ok.inj _ _ _ e hc ▸ hi))
  ·by_cases hcc : c' = c
   ·subst hcc; exact ⟨_,hc'⟩
   ·obtain ⟨w2,z2⟩:=I.cell y c' e
    exact ⟨w2,z2.sameBut hs hcc⟩
  ·obtain ⟨e,n,ne,nf,d⟩:=I.pin p hp
   refine ⟨(hs.2 p.1 ?_).trans e,n,ne,nf,d⟩
   intro q
   rw [q,hoc] at e
   have q' : oc = p.2:=Option.some.inj e
   exact d w' (by rw [← q']; exact hocd)
theorem zde {M : Model} {A : Around} {E : Value → Shared → Prop} {i : Nat} {x : Str} {v : V} {u : Value} {Q : Unit → Shared → Prop} (I : Inv X pins σ H s) (hN : X.N.Nodup) (hi : X.N[i]? = some x) (hx : Loc X.env.scope x) (r : RelV v u)
  (h : ∀ s',Inv X pins (σ.set i (some v)) H s' → Q () s') (hf : X.fn x = true ∨ X.env.scope.names.lookup x = some .local:=by first | exact .inl rfl | exact .inr rfl | assumption) : wpAny M A (storeName X.env x u) Q E s :=
 zfk I hN hi hx r (fun s' I' _ => h s' I') hf
theorem Inv.call' {s' : Shared} {ch : List Addr} (I : Inv X pins σ H s) (ho : s'.os = s.os) (u : Un (frs X.stack) ch H H' s.heap s'.heap) (hok : HOk X.prog X.w H' s'.heap) (hg : AllBare s'.gens)
  (hch : ∀ b ∈ ch,(b ∈ X.ex ∨ X.s₀.heap.objs.size ≤ b) ∧ b ≠ X.env.locals ∧ (∀ x c,X.env.cells.lookup x = some c → c ≠ b) ∧ ∀ p ∈ X.pn ++ pins,p.1 ≠ b) : Inv X pins σ H' s':=by
 obtain ⟨h',g',d',t',o'⟩:=s'
 have e : o' = s.os:=ho
 subst e
 exact I.call (g':=g') (t':=t') (d':=d') u hok hg hch
end
noncomputable abbrev XK:=Value → Option Addr → Hp → Prop
noncomputable abbrev St:=List (Option V)
noncomputable abbrev VK:=V → Hp → Prop
noncomputable abbrev TE:=St → Hp → VK → Prop
noncomputable abbrev TT:=St → Hp → (Bool → Hp → Prop) → Prop
noncomputable abbrev TA:=St → Hp → (List V → Hp → Prop) → Prop
structure Ends where
 nx : St → Hp → Prop
 rt : VK
 bk : St → Hp → Prop:=fun _ _ => False
 ct : St → Hp → Prop:=fun _ _ => False
noncomputable abbrev TS:=Ends → St → Hp → Prop
noncomputable def EP (X : Cx) (pins : List (Addr × Obj)) (σ : St) (Q : VK) (u : Value) (s' : Shared) : Prop:=∃ v H',Inv X pins σ H' s' ∧ RelV v u ∧ Q v H'
noncomputable def TP (X : Cx) (pins : List (Addr × Obj)) (σ : St) (Q : Bool → Hp → Prop) (b : Bool) (s' : Shared) : Prop:=∃ H',Inv X pins σ H' s' ∧ Q b H'
noncomputable def AP (X : Cx) (pins : List (Addr × Obj)) (σ : St) (Q : List V → Hp → Prop) (us : List Value) (s' : Shared) : Prop:=∃ vs H',Inv X pins σ H' s' ∧ Vals vs us ∧ Q vs H'
noncomputable def SP (X : Cx) (pins : List (Addr × Obj)) (D : Ends) (f : Flow) (s' : Shared) : Prop :=
 match f with
 | .next => ∃ σ' H',Inv X pins σ' H' s' ∧ D.nx σ' H'
 | .brk => ∃ σ' H',Inv X pins σ' H' s' ∧ D.bk σ' H'
 | .cont => ∃ σ' H',Inv X pins σ' H' s' ∧ D.ct σ' H'
 | .ret u => ∃ v σ' H',Inv X pins σ' H' s' ∧ RelV v u ∧ D.rt v H'
noncomputable def PE (X : Cx) (e : Expr) (t : TE) : Prop :=
 ∀ (pins : List (Addr × Obj)) (s : Shared) (σ : St) (H : Hp) (Q : VK),Inv X pins σ H s → t σ H Q → wpAny (model X.prog X.w) X.A (eval e X.env) (EP X pins σ Q) X.xe s
noncomputable def PT (X : Cx) (e : Expr) (t : TT) : Prop :=
 ∀ (pins : List (Addr × Obj)) (s : Shared) (σ : St) (H : Hp) (Q : Bool → Hp → Prop),Inv X pins σ H s → t σ H Q → wpAny (model X.prog X.w) X.A (isTrue e X.env (eval e X.env)) (TP X pins σ Q) X.xe s
noncomputable def PW (X : Cx) (e : Expr) (t : TT) : Prop :=
 ∀ (whole : Sem Value) (pins : List (Addr × Obj)) (s : Shared) (σ : St) (H : Hp) (Q : Bool → Hp → Prop),Inv X pins σ H s → t σ H Q → wpAny (model X.prog X.w) X.A (isTrue e X.env whole) (TP X pins σ Q) X.xe s
theorem PW.pt {X : Cx} {e : Expr} {t : TT} (h : PW X e t) : PT X e t:=h _
noncomputable def PA (X : Cx) (es : List Expr) (t : TA) : Prop :=
 ∀ (pos : Pos) (pins : List (Addr × Obj)) (s : Shared) (σ : St) (H : Hp) (Q : List V → Hp → Prop),Inv X pins σ H s → t σ H Q → wpAny (model X.prog X.w) X.A (spliced (backTo pos (starEach es X.env))) (AP X pins σ Q) X.xe s
noncomputable def PS (X : Cx) (st : Stmt) (t : TS) : Prop :=
 ∀ (pins : List (Addr × Obj)) (s : Shared) (σ : St) (H : Hp) (D : Ends),Inv X pins σ H s → t D σ H → wpAny (model X.prog X.w) X.A (exec st X.env) (SP X pins D) X.xe s
noncomputable def PSs (X : Cx) (st : List Stmt) (t : TS) : Prop :=
 ∀ (pins : List (Addr × Obj)) (s : Shared) (σ : St) (H : Hp) (D : Ends),Inv X pins σ H s → t D σ H → wpAny (model X.prog X.w) X.A (execs st X.env) (SP X pins D) X.xe s
theorem thn {α : Type} {t : Sem α} {Q Q' : α → Shared → Prop} {M : Model} {A : Around} {E : Value → Shared → Prop} {s : Shared} (h : wpAny M A t Q E s) (hQ : ∀ a s,Q a s → Q' a s) : wpAny M A t Q' E s:=wpAny_mono h hQ fun _ _ x => x
end L2
namespace L2
open PySem PySem.Spec PyProof.Rows
section
variable {X : Cx}
theorem bin {a b : Expr} {ta tb : TE} (ha : PE X a ta) (hb : PE X b tb) {pins : List (Addr × Obj)} {s : Shared} {σ : St} {H : Hp} {R : V → V → Hp → Prop} (I : Inv X pins σ H s) (h : ta σ H fun x H1 => tb σ H1 fun y H2 => R x y H2)
  {α : Type} {Q : α → Shared → Prop} {f : Value → Value → Sem α}
  (hf : ∀ v u s2 x y H2,Inv X pins σ H2 s2 → RelV x v → RelV y u → R x y H2 → wpAny (model X.prog X.w) X.A (f v u) Q X.xe s2) :
  wpAny (model X.prog X.w) X.A (eval a X.env) (fun v s₁ => wpAny (model X.prog X.w) X.A (eval b X.env) (fun u s₂ => wpAny (model X.prog X.w) X.A (f v u) Q X.xe s₂) X.xe s₁) X.xe s:=by
 refine thn (ha pins s σ H _ I h) fun v s1 ⟨x,H1,I1,r1,q1⟩ => ?_
 refine thn (hb pins s1 σ H1 _ I1 q1) fun u s2 ⟨y,H2,I2,r2,q2⟩ => ?_
 exact hf v u s2 x y H2 I2 r1 r2 q2
noncomputable def tVar (i : Nat) : TE:=fun σ H Q => ∃ v,σ[i]? = some (some v) ∧ Q v H
noncomputable def tC (v : V) : TE:=fun _ H Q => Q v H
theorem pe_var {i : Nat} {x : Str} {pos : Pos} (hN : X.N[i]? = some x) (hv : Vis X.env.scope x) (hd : (x == ("__debug__" : Str)) = false:=by decide) (hcd : (x == ("__classdict__" : Str)) = false:=by decide) : PE X (.Name x pos) (tVar i):=by
 intro pins s σ H Q I h
 obtain ⟨v,e,h⟩:=h
 obtain ⟨m,hn,hl⟩:=I.loc
 obtain ⟨u,r,l⟩:=hl i x v hN e hv
 have fin : EP X pins σ Q u s:=⟨v,H,I,r,h⟩
 rcases l with ⟨hk,hm⟩ | ⟨hk,c,hc,hcell⟩
 ·exact wpAny_Name (wpAny_loadName_local I.ok.kind hk hn hm fin) hd
 ·rcases hk with hk | hk
  ·exact wpAny_Name (wpAny_loadName_cell I.ok.kind hk hc hcell fin) hd
  ·exact wpAny_Name (wpAny_loadName_free I.ok.kind hk hc hcell fin hcd) hd
theorem zah {i j pos} : PE X (.Constant (.int i) j pos) (tC (.int i)):=fun _ _ _ H _ I h => wpAny_Constant_int ⟨.int i,H,I.tok _,⟨_,rfl⟩,h⟩
theorem zcu {b j pos} : PE X (.Constant (.bool b) j pos) (tC (.bl b)):=fun _ _ _ H _ I h => Constant_bool ⟨.bl b,H,I,rfl,h⟩
theorem zbV {j pos} : PE X (.Constant .none j pos) (tC .non):=fun _ _ _ H _ I h => Constant_none ⟨.non,H,I,rfl,h⟩
theorem zam {x j pos} : PE X (.Constant (.str x) j pos) (tC (.str x)):=fun _ _ _ H _ I h => Calls.Constant_str ⟨.str x,H,I.tok _,⟨_,rfl⟩,h⟩
noncomputable def Gl (X : Cx) (x : Str) : Prop:=X.env.kindOf x = some .globalImplicit
theorem zc2 {E : Value → Shared → Prop} {pins : List (Addr × Obj)} {s : Shared} {σ : St} {H : Hp} {x : Str} {u : Value} {pos : Pos} {Q : Value → Shared → Prop} (I : Inv X pins σ H s) (hg : Gl X x) (hm : X.mg x = some u) (h : Q u s)
  (hd : (x == ("__debug__" : Str)) = false:=by decide) : wpAny (model X.prog X.w) X.A (eval (.Name x pos) X.env) Q E s :=
 Calls.Name_function_global I.ok.kind hg (Calls.loadGlobal_global (by rw [I.ok.glob]; exact I.mod.glob.keeps I.bk) hm h) hd
theorem zfG {E : Value → Shared → Prop} {pins : List (Addr × Obj)} {s : Shared} {σ : St} {H : Hp} {x : Str} {u : Value} {pos : Pos} {Q : Value → Shared → Prop} (I : Inv X pins σ H s) (hg : Gl X x) (hm : X.mg x = none) (hv : bootBuiltins x = some u) (h : Q u s)
  (hn : x ≠ "__name__":=by decide) (hd : (x == ("__debug__" : Str)) = false:=by decide) : wpAny (model X.prog X.w) X.A (eval (.Name x pos) X.env) Q E s:=by
 obtain ⟨mb,h1,h2⟩:=I.mod.blt
 exact Calls.Name_function_global I.ok.kind hg (Calls.loadGlobal_builtin (by rw [I.ok.glob]; exact I.mod.glob.keeps I.bk) hm (by rw [I.ok.blt]; exact h1.keeps I.bk) ((h2 x hn).trans hv) h) hd
theorem ziQ {x : Str} {v : V} {u : Value} {pos : Pos} (hg : Gl X x) (hm : X.mg x = some u) (r : RelV v u) (hd : (x == ("__debug__" : Str)) = false:=by decide) : PE X (.Name x pos) (tC v) :=
 fun _ _ _ H _ I h => zc2 I hg hm ⟨v,H,I,r,h⟩ hd
theorem zeM {x : Str} {v : V} {u : Value} {pos : Pos} (hg : Gl X x) (hm : X.mg x = none) (hv : bootBuiltins x = some u) (r : RelV v u) (hn : x ≠ "__name__":=by decide) (hd : (x == ("__debug__" : Str)) = false:=by decide) : PE X (.Name x pos) (tC v) :=
 fun _ _ _ H _ I h => zfG I hg hm hv ⟨v,H,I,r,h⟩ hn hd
noncomputable def t2I (ta tb : TE) (k : Int → Int → Hp → Prop) : St → Hp → Prop:=fun σ H => ta σ H fun x H1 => tb σ H1 fun y H2 => ∃ i j,x = .int i ∧ y = .int j ∧ k i j H2
variable {a b : Expr} {ta tb : TE} {pos : Pos}
noncomputable def PC (X : Cx) (op : CmpOp) (a b : Expr) (t : TE) : Prop :=
 ∀ (pins : List (Addr × Obj)) (s : Shared) (σ : St) (H : Hp) (Q : VK),Inv X pins σ H s → t σ H Q →
  wpAny (model X.prog X.w) X.A (eval a X.env) (fun v s₁ => wpAny (model X.prog X.w) X.A (eval b X.env) (fun u s₂ => wpAny (model X.prog X.w) X.A (compareOp op v u) (EP X pins σ Q) X.xe s₂) X.xe s₁) X.xe s
theorem zhd (b : Expr) {op : CmpOp} (h : op ≠ .In) (h2 : op ≠ .NotIn) : behindInMarks op b = false:=by
 have e1 : (op == CmpOp.In) = false:=by cases op <;> first | rfl | exact absurd rfl h
 have e2 : (op == CmpOp.NotIn) = false:=by cases op <;> first | rfl | exact absurd rfl h2
 cases b <;> simp [behindInMarks,e1,e2]
noncomputable def tCmp (p : Int → Int → Bool) (ta tb : TE) : TE:=fun σ H Q => t2I ta tb (fun i j H2 => Q (.bl (p i j)) H2) σ H
noncomputable abbrev tGt : TE → TE → TE:=tCmp fun i j => decide (j < i)
theorem pc_int {op : CmpOp} {p : Int → Int → Bool} (ha : PE X a ta) (hb : PE X b tb)
  (rule : ∀ (i j : Int) (t u : Tok) (Q : Value → Shared → Prop) (s : Shared),Q (.bool (p i j)) s → wpAny (model X.prog X.w) X.A (compareOp op (.int i t) (.int j u)) Q X.xe s) : PC X op a b (tCmp p ta tb):=by
 intro pins s σ H Q I h
 refine bin ha hb I h fun v u s2 x y H2 I2 rx ry q => ?_
 obtain ⟨i,j,rfl,rfl,q⟩:=q
 obtain ⟨t,rfl⟩:=rx
 obtain ⟨t',rfl⟩:=ry
 exact rule i j t t' _ s2 ⟨.bl _,H2,I2,rfl,q⟩
theorem pc_gt (ha : PE X a ta) (hb : PE X b tb) : PC X .Gt a b (tGt ta tb):=pc_int ha hb fun _ _ _ _ _ _ h => gt_int h
noncomputable def tIsN (ta : TE) : TE:=fun σ H Q => ta σ H fun x H1 => Q (.bl (decide (x = .non))) H1
noncomputable def tNotN (ta : TE) : TE:=fun σ H Q => ta σ H fun x H1 => Q (.bl (!decide (x = .non))) H1
theorem RelV.none_iff {x : V} {v : Value} (r : RelV x v) : (v == Value.none) = decide (x = .non):=by
 cases x with
 | non => cases r; rfl
 | bl _ => cases r; rfl
 | int _ => obtain ⟨t,rfl⟩:=r; rfl
 | str _ => obtain ⟨t,rfl⟩:=r; rfl
 | byt _ => obtain ⟨t,rfl⟩:=r; rfl
 | flt _ => obtain ⟨t,rfl⟩:=r; rfl
 | ref _ => cases r; rfl
 | ty _ => cases r; rfl
theorem zcE {j pos'} (ha : PE X a ta) : PC X .Is a (.Constant .none j pos') (tIsN ta):=by
 intro pins s σ H Q I h
 refine thn (ha pins s σ H _ I h) fun v s1 ⟨x,H1,I1,r1,q1⟩ => ?_
 exact Constant_none (is_none_gen ⟨.bl _,H1,I1,by rw [r1.none_iff]; rfl,q1⟩)
theorem zdD {j pos'} (ha : PE X a ta) : PC X .IsNot a (.Constant .none j pos') (tNotN ta):=by
 intro pins s σ H Q I h
 refine thn (ha pins s σ H _ I h) fun v s1 ⟨x,H1,I1,r1,q1⟩ => ?_
 exact Constant_none (isnot_none_gen ⟨.bl _,H1,I1,by rw [r1.none_iff]; rfl,q1⟩)
noncomputable def tB (t : TE) : TT:=fun σ H Q => t σ H fun x H1 => ∃ c,x = .bl c ∧ Q c H1
theorem pe_cmp {op : CmpOp} {t : TE} (h : PC X op a b t) (h1 : behindInMarks op b = false:=by first | exact zhd _ (by decide) (by decide) | rfl) : PE X (.Compare a [op] [b] pos) t:=fun pins s σ H Q I hw => wpAny_Compare1 (h pins s σ H Q I hw) h1
theorem zbB {op : CmpOp} {t : TE} (h : PC X op a b t) (h1 : behindInMarks op b = false:=by first | exact zhd _ (by decide) (by decide) | rfl) : PT X (.Compare a [op] [b] pos) (tB t):=by
 intro pins s σ H Q I hw
 refine wpAny_isTrue_Compare1 (thn (h pins s σ H _ I hw) fun v s1 h1 => thn h1 fun u s2 h2 => thn h2 fun c s3 ⟨x,H1,I1,r1,q1⟩ => ?_) h1
 obtain ⟨d,rfl,q⟩:=q1
 cases r1
 exact wpAny_truthy_bool ⟨H1,I1,q⟩
theorem zbv {e : Expr} {t : TE} (h : PE X e t) (he : ∀ whole,isTrue e X.env whole = (do let v ← whole; standAt e.pos; holding [v] (truthy v)):=by intro _; rfl) : PT X e (tB t):=by
 intro pins s σ H Q I hw
 refine isTrue_plain (thn (h pins s σ H _ I hw) fun v s1 ⟨x,H1,I1,r1,q1⟩ => ?_) (he _)
 obtain ⟨d,rfl,q⟩:=q1
 cases r1
 exact wpAny_truthy_bool ⟨H1,I1,q⟩
variable {tA tB' : TT} {rest : List Expr}
noncomputable def tAnd (t u : TT) : TT:=fun σ H Q => t σ H fun c H1 => if c = true then u σ H1 Q else Q false H1
noncomputable def tOr (t u : TT) : TT:=fun σ H Q => t σ H fun c H1 => if c = true then Q true H1 else u σ H1 Q
noncomputable def tNot (t : TT) : TT:=fun σ H Q => t σ H fun c H1 => Q (!c) H1
theorem za2 (ha : PT X a tA) : PW X (.BoolOp .And [a] pos) tA:=by
 intro wh pins s σ H Q I h
 refine isTrue_and (thn (ha pins s σ H Q I h) fun c s1 e => ?_)
 cases c with
 | true => exact isTrue_and_nil e
 | false => exact e
theorem zdy (ha : PT X a tA) : PW X (.BoolOp .Or [a] pos) tA:=by
 intro wh pins s σ H Q I h
 refine isTrue_or (thn (ha pins s σ H Q I h) fun c s1 e => ?_)
 cases c with
 | false => exact isTrue_or_nil e
 | true => exact e
theorem zbf (ha : PT X a tA) (hb : PW X (.BoolOp .And (b :: rest) pos) tB') : PW X (.BoolOp .And (a :: b :: rest) pos) (tAnd tA tB'):=by
 intro wh pins s σ H Q I h
 refine isTrue_and (thn (ha pins s σ H _ I h) fun c s1 ⟨H1,I1,q1⟩ => ?_)
 cases c with
 | true => exact hb wh pins s1 σ H1 Q I1 q1
 | false => exact ⟨H1,I1,q1⟩
theorem zgv (ha : PT X a tA) (hb : PW X (.BoolOp .Or (b :: rest) pos) tB') : PW X (.BoolOp .Or (a :: b :: rest) pos) (tOr tA tB'):=by
 intro wh pins s σ H Q I h
 refine isTrue_or (thn (ha pins s σ H _ I h) fun c s1 ⟨H1,I1,q1⟩ => ?_)
 cases c with
 | true => exact ⟨H1,I1,q1⟩
 | false => exact hb wh pins s1 σ H1 Q I1 q1
theorem zcD (ha : PT X a tA) : PT X (.UnaryOp .Not a pos) (tNot tA):=by
 intro pins s σ H Q I h
 exact isTrue_not (ha pins s σ H (fun c H1 => Q (!c) H1) I h)
noncomputable def tAndV (ta tb : TE) : TE:=fun σ H Q => ta σ H fun x H1 => ∃ c,x = .bl c ∧ if c = true then tb σ H1 Q else Q (.bl false) H1
noncomputable def tOrV (ta tb : TE) : TE:=fun σ H Q => ta σ H fun x H1 => ∃ c,x = .bl c ∧ if c = true then Q (.bl true) H1 else tb σ H1 Q
noncomputable def tNotV (ta : TE) : TE:=fun σ H Q => ta σ H fun x H1 => ∃ c,x = .bl c ∧ Q (.bl (!c)) H1
theorem zfr {op} {t : TE} (h : PE X a t) : PE X (.BoolOp op [a] pos) t:=fun pins s σ H Q I hw => BoolOp_one (h pins s σ H Q I hw)
theorem pe_and (ha : PE X a ta) (hb : PE X (.BoolOp .And (b :: rest) pos) tb) : PE X (.BoolOp .And (a :: b :: rest) pos) (tAndV ta tb):=by
 intro pins s σ H Q I h
 refine BoolOp_and (thn (ha pins s σ H _ I h) fun v s1 ⟨x,H1,I1,r1,q1⟩ => ?_)
 obtain ⟨c,rfl,q1⟩:=q1
 cases r1
 refine wpAny_truthy_bool ?_
 cases c with
 | true => exact hb pins s1 σ H1 Q I1 q1
 | false => exact ⟨.bl false,H1,I1,rfl,q1⟩
theorem pe_or (ha : PE X a ta) (hb : PE X (.BoolOp .Or (b :: rest) pos) tb) : PE X (.BoolOp .Or (a :: b :: rest) pos) (tOrV ta tb):=by
 intro pins s σ H Q I h
 refine BoolOp_or (thn (ha pins s σ H _ I h) fun v s1 ⟨x,H1,I1,r1,q1⟩ => ?_)
 obtain ⟨c,rfl,q1⟩:=q1
 cases r1
 refine wpAny_truthy_bool ?_
 cases c with
 | false => exact hb pins s1 σ H1 Q I1 q1
 | true => exact ⟨.bl true,H1,I1,rfl,q1⟩
theorem pe_not (ha : PE X a ta) : PE X (.UnaryOp .Not a pos) (tNotV ta):=by
 intro pins s σ H Q I h
 refine UnaryOp_ (thn (ha pins s σ H _ I h) fun v s1 ⟨x,H1,I1,r1,q1⟩ => ?_)
 obtain ⟨c,rfl,q1⟩:=q1
 cases r1
 exact not_of (wpAny_truthy_bool ⟨.bl (!c),H1,I1,rfl,q1⟩)
noncomputable def tIf (t : TT) (ta tb : TE) : TE:=fun σ H Q => t σ H fun c H1 => if c = true then ta σ H1 Q else tb σ H1 Q
theorem zg8 {c : Expr} (hc : PT X c tA) (ha : PE X a ta) (hb : PE X b tb) : PE X (.IfExp c a b pos) (tIf tA ta tb):=by
 intro pins s σ H Q I h
 refine wpAny_IfExp (thn (hc pins s σ H _ I h) fun d s1 ⟨H1,I1,q1⟩ => ?_)
 cases d with
 | true => exact ha pins s1 σ H1 Q I1 q1
 | false => exact hb pins s1 σ H1 Q I1 q1
end
end L2
namespace L2
open PySem PySem.Spec PyProof.Rows
noncomputable def SqL (K : W.Frag) (H : Hp) (a : Addr) (xs : List V) : Prop :=
 Rd H a (.lst xs) ∨
  ∃ (o : Obj) (its : Array Value) (n : Nat),K.lookup a = some o ∧ o.cls = .type "list" ∧ o.dict = none ∧ o.data = .seq its n ∧ its.size ≤ sizeLine ∧ Vals xs its.toList
noncomputable def SqT (K : W.Frag) (H : Hp) (a : Addr) (xs : List V) : Prop :=
 Rd H a (.tup xs) ∨
  ∃ (o : Obj) (its : Array Value) (n : Nat),K.lookup a = some o ∧ o.cls = .type "tuple" ∧ o.data = .seq its n ∧ its.size ≤ sizeLine ∧ Vals xs its.toList
noncomputable def absV : Value → Option V
 | .none => some .non
 | .bool b => some (.bl b)
 | .int i _ => some (.int i)
 | .str x _ => some (.str x)
 | .bytes b _ => some (.byt b)
 | .float b _ => some (.flt b)
 | .ref a => some (.ref a)
 | .type n => some (.ty n)
 | _ => none
theorem RelV.abs {x : V} {u : Value} (r : RelV x u) : absV u = some x:=by
 cases x with
 | non => cases r; rfl
 | bl _ => cases r; rfl
 | int _ => obtain ⟨t,rfl⟩:=r; rfl
 | str _ => obtain ⟨t,rfl⟩:=r; rfl
 | byt _ => obtain ⟨t,rfl⟩:=r; rfl
 | flt _ => obtain ⟨t,rfl⟩:=r; rfl
 | ref _ => cases r; rfl
 | ty _ => cases r; rfl
theorem RelV.inj {x y : V} {u : Value} (r : RelV x u) (q : RelV y u) : x = y:=Option.some.inj (r.abs.symm.trans q.abs)
theorem Vals.inj : ∀ {xs ys : List V} {us : List Value},Vals xs us → Vals ys us → xs = ys
 | _,_,_,.nil,.nil => rfl
 | _,_,_,.cons r t,.cons r' t' => by rw [r.inj r',Vals.inj t t']
section
variable {X : Cx} {pins : List (Addr × Obj)} {σ : St} {H : Hp} {s : Shared} {a : Addr} {xs ys : List V}
theorem SqL.of {K : W.Frag} (h : H a = some (.lst xs)) : SqL K H a xs:=.inl (.inl h)
theorem SqT.of {K : W.Frag} (h : H a = some (.tup xs)) : SqT K H a xs:=.inl (.inl h)
theorem Inv.list (I : Inv X pins σ H s) (h : SqL X.K H a xs) : ∃ its : List Value,Vals xs its ∧ PlainL s.heap a its.toArray ∧ xs.length ≤ sizeLine:=by
 rcases h with h | ⟨o,its,n,hk,hc,hd,hs,hz,r⟩
 ·obtain ⟨z,its,n,r,e⟩:=h.ok I.hok
  exact ⟨its,r,⟨_,n,e,rfl,rfl,rfl⟩,z⟩
 ·refine ⟨its.toList,r,⟨o,n,I.kIn a o hk,hc,hd,by simpa using hs⟩,?_⟩
  have e:=r.length
  simp only [Array.length_toList] at e
  omega
theorem Inv.tuple (I : Inv X pins σ H s) (h : SqT X.K H a xs) : ∃ its : List Value,Vals xs its ∧ IsTup s.heap a its.toArray ∧ xs.length ≤ sizeLine:=by
 rcases h with h | ⟨o,its,n,hk,hc,hs,hz,r⟩
 ·obtain ⟨z,its,r,p⟩:=h.ok I.hok
  exact ⟨its,r,p,z⟩
 ·refine ⟨its.toList,r,⟨o,I.kIn a o hk,hc,n,by simpa using hs⟩,?_⟩
  have e:=r.length
  simp only [Array.length_toList] at e
  omega
theorem Inv.list_inj (I : Inv X pins σ H s) (h : SqL X.K H a xs) (h' : SqL X.K H a ys) : xs = ys:=by
 obtain ⟨its,r,⟨o,n,e,_,_,d⟩,_⟩:=I.list h
 obtain ⟨its',r',⟨o',n',e',_,_,d'⟩,_⟩:=I.list h'
 rw [e] at e'; cases e'
 rw [d] at d'
 injection d' with d1 _
 have : its = its':=by simpa using congrArg Array.toList d1
 subst this
 exact r.inj r'
theorem Inv.tuple_inj (I : Inv X pins σ H s) (h : SqT X.K H a xs) (h' : SqT X.K H a ys) : xs = ys:=by
 obtain ⟨its,r,⟨o,e,_,n,d⟩,_⟩:=I.tuple h
 obtain ⟨its',r',⟨o',e',_,n',d'⟩,_⟩:=I.tuple h'
 rw [e] at e'; cases e'
 rw [d] at d'
 injection d' with d1 _
 have : its = its':=by simpa using congrArg Array.toList d1
 subst this
 exact r.inj r'
end
noncomputable abbrev Cx.wish (X : Cx) (E : Value → Shared → Prop) : Cx:={ X with xe:=E }
noncomputable abbrev Cx.nox (X : Cx) : Cx:=X.wish fun _ _ => False
theorem Cx.Ok.wish {X : Cx} (ok : X.Ok) (E : Value → Shared → Prop) : (X.wish E).Ok :=
 ⟨ok.mod,ok.kind,ok.glob,ok.blt,ok.above,ok.inj,ok.has,ok.cab,ok.hd,ok.frames,ok.stk,ok.exf,ok.bs,ok.bsz,ok.noex,ok.exfs,ok.funs,ok.frf⟩
theorem Cx.Ok.unwish {X : Cx} {E : Value → Shared → Prop} (ok : (X.wish E).Ok) : X.Ok :=
 ⟨ok.mod,ok.kind,ok.glob,ok.blt,ok.above,ok.inj,ok.has,ok.cab,ok.hd,ok.frames,ok.stk,ok.exf,ok.bs,ok.bsz,ok.noex,ok.exfs,ok.funs,ok.frf⟩
section
variable {X : Cx} {pins : List (Addr × Obj)} {σ : St} {H : Hp} {s : Shared} {E : Value → Shared → Prop}
theorem Inv.wish (I : Inv X pins σ H s) (E : Value → Shared → Prop) : Inv (X.wish E) pins σ H s:=⟨I.ok.wish E,I.os,I.bare,I.base,I.loc,I.cell,I.free,I.freeC,I.pin,I.hok,I.len⟩
theorem Inv.unwish (I : Inv (X.wish E) pins σ H s) : Inv X pins σ H s:=⟨I.ok.unwish,I.os,I.bare,I.base,I.loc,I.cell,I.free,I.freeC,I.pin,I.hok,I.len⟩
theorem SP.unwish {D : Ends} {f : Flow} {s' : Shared} (h : SP (X.wish E) pins D f s') : SP X pins D f s':=by
 cases f with
 | next => obtain ⟨σ',H',I,q⟩:=h; exact ⟨σ',H',I.unwish,q⟩
 | brk => obtain ⟨σ',H',I,q⟩:=h; exact ⟨σ',H',I.unwish,q⟩
 | cont => obtain ⟨σ',H',I,q⟩:=h; exact ⟨σ',H',I.unwish,q⟩
 | ret u => obtain ⟨v,σ',H',I,r,q⟩:=h; exact ⟨v,σ',H',I.unwish,r,q⟩
theorem PSs.nox {st : List Stmt} {t : TS} (h : PSs X.nox st t) : PSs X st t:=fun pins s σ H D I hw =>
 wpAny_mono (h pins s σ H D (I.wish _) hw) (fun _ _ q => q.unwish) fun _ _ z => False.elim z
end
section
variable {X : Cx} {st : Stmt} {rest : List Stmt} {t u : TS} {e : Expr} {te : TE} {pos : Pos}
noncomputable def tNext : TS:=fun D σ H => D.nx σ H
noncomputable def tSeq (t u : TS) : TS:=fun D σ H => t { D with nx:=u D } σ H
theorem zau : PSs X [] tNext:=fun _ _ σ H _ I h => wpAny_execs_nil ⟨σ,H,I,h⟩
theorem zac (h1 : PS X st t) (h2 : PSs X rest u) : PSs X (st :: rest) (tSeq t u):=by
 intro pins s σ H D I h
 refine wpAny_execs_cons (thn (h1 pins s σ H { D with nx:=u D } I h) fun f s1 q => ?_)
 cases f with
 | next =>
  obtain ⟨σ',H',I',q⟩:=q
  exact h2 pins s1 σ' H' D I' q
 | ret v => exact q
 | brk => exact q
 | cont => exact q
theorem zaf (h1 : PS X st t) : PSs X [st] t:=by
 intro pins s σ H D I h
 refine wpAny_execs_cons (thn (h1 pins s σ H D I h) fun f s1 q => ?_)
 cases f with
 | next => exact wpAny_execs_nil q
 | ret v => exact q
 | brk => exact q
 | cont => exact q
theorem Inv.quiet {pins : List (Addr × Obj)} {σ : St} {H : Hp} {s : Shared} (I : Inv X pins σ H s) : interactive X.env = false:=by simp [interactive,I.ok.kind]
noncomputable def tDrop (te : TE) : TS:=fun D σ H => te σ H fun _ H1 => D.nx σ H1
theorem zaG (he : PE X e te) (hs : swapsWith e none pos.line X.env = pure false:=by rfl) : PS X (.Expr e pos) (tDrop te):=by
 intro pins s σ H D I h
 exact wpAny_Expr_any (thn (he pins s σ H _ I h) fun v s1 ⟨x,H1,I1,r1,q1⟩ => ⟨σ,H1,I1,q1⟩) I.quiet hs
noncomputable def tRet (te : TE) : TS:=fun D σ H => te σ H D.rt
theorem zaw (he : PE X e te) : PS X (.Return (some e) pos) (tRet te):=by
 intro pins s σ H D I h
 exact wpAny_Return_some (thn (he pins s σ H _ I h) fun v s1 ⟨x,H1,I1,r1,q1⟩ => ⟨x,σ,H1,I1,r1,q1⟩)
noncomputable def tIfS (c : TT) (t u : TS) : TS:=fun D σ H => c σ H fun b H1 => if b = true then t D σ H1 else u D σ H1
theorem zaJ {c : Expr} {a b : List Stmt} {tc : TT} (hc : PT X c tc) (ha : PSs X a t) (hb : PSs X b u) : PS X (.If c a b pos) (tIfS tc t u):=by
 intro pins s σ H D I h
 refine wpAny_If (thn (hc pins s σ H _ I h) fun d s1 ⟨H1,I1,q1⟩ => ?_)
 cases d with
 | true => exact ha pins s1 σ H1 D I1 q1
 | false => exact hb pins s1 σ H1 D I1 q1
end
noncomputable abbrev TG:=V → St → Hp → (St → Hp → Prop) → Prop
noncomputable abbrev TGs:=List V → St → Hp → (St → Hp → Prop) → Prop
noncomputable def PG (X : Cx) (target : Expr) (t : TG) : Prop :=
 ∀ (pins : List (Addr × Obj)) (s : Shared) (σ : St) (H : Hp) (v : V) (u : Value) (Q : St → Hp → Prop),Inv X pins σ H s → RelV v u → t v σ H Q →
  wpAny (model X.prog X.w) X.A (assign target X.env u) (fun _ s' => ∃ σ' H',Inv X pins σ' H' s' ∧ Q σ' H') X.xe s
noncomputable def PGs (X : Cx) (ts : List Expr) (t : TGs) : Prop :=
 ∀ (pins : List (Addr × Obj)) (s : Shared) (σ : St) (H : Hp) (vs : List V) (us : List Value) (Q : St → Hp → Prop),Inv X pins σ H s → Vals vs us → t vs σ H Q →
  wpAny (model X.prog X.w) X.A (assignInOrder ((assignEach ts X.env).map (·.2)) us) (fun _ s' => ∃ σ' H',Inv X pins σ' H' s' ∧ Q σ' H') X.xe s
noncomputable abbrev TIp:=V → V → Hp → VK → Prop
noncomputable def PIp (X : Cx) (op : Operator) (t : TIp) : Prop :=
 ∀ (pins : List (Addr × Obj)) (s : Shared) (σ : St) (H : Hp) (x y : V) (v u : Value) (Q : VK),Inv X pins σ H s → RelV x v → RelV y u → t x y H Q →
  wpAny (model X.prog X.w) X.A (inplaceOp op v u) (EP X pins σ Q) X.xe s
section
variable {X : Cx} {pos : Pos}
noncomputable def zbF (i : Nat) : TG:=fun v σ H Q => Q (σ.set i (some v)) H
theorem zbc {i : Nat} {x : Str} (hN : X.N.Nodup) (hi : X.N[i]? = some x) (hx : Loc X.env.scope x) (hf : X.fn x = true ∨ X.env.scope.names.lookup x = some .local:=by first | exact .inl rfl | exact .inr rfl | assumption) : PG X (.Name x pos) (zbF i):=by
 intro pins s σ H v u Q I r h
 exact wpAny_assign_Name (zde I hN hi hx r (fun s' I' => ⟨_,H,I',h⟩) hf)
noncomputable def gNil : TGs:=fun vs σ H Q => vs = [] ∧ Q σ H
noncomputable def gCons (t : TG) (u : TGs) : TGs:=fun vs σ H Q => ∃ v r,vs = v :: r ∧ t v σ H fun σ' H' => u r σ' H' Q
theorem pgs_nil : PGs X [] gNil:=by
 intro pins s σ H vs us Q I r h
 obtain ⟨e,h⟩:=h
 subst e
 cases r
 exact assignInOrder_nil ⟨σ,H,I,h⟩
theorem zg6 {e : Expr} {es : List Expr} {t : TG} {u : TGs} (h1 : PG X e t) (h2 : PGs X es u)
  (hs : (assignEach (e :: es) X.env).map (·.2) = assign e X.env :: (assignEach es X.env).map (·.2):=by rfl) : PGs X (e :: es) (gCons t u):=by
 intro pins s σ H vs us Q I r h
 obtain ⟨v,vr,e1,h⟩:=h
 subst e1
 cases r with
 | cons r rr =>
  rw [hs]
  refine assignInOrder_cons (thn (h1 pins s σ H _ _ _ I r h) fun _ s1 ⟨σ1,H1,I1,q1⟩ => ?_)
  exact h2 pins s1 σ1 H1 _ _ Q I1 rr q1
noncomputable def gTup (K : W.Frag) (n : Nat) (t : TGs) : TG:=fun v σ H Q => ∃ a xs,v = .ref a ∧ SqT K H a xs ∧ xs.length = n ∧ t xs σ H Q
theorem pg_tup {es : List Expr} {k : Nat} {t : TGs} {n : Nat} (hc : X.calm = true) (h : PGs X es t)
  (hn : (assignEach es X.env).length = n:=by rfl) (hst : (assignEach es X.env).findIdx? (·.1) = none:=by rfl) : PG X (.Tuple es k pos) (gTup X.K n t):=by
 intro pins s σ H v u Q I r hw
 obtain ⟨a,xs,e1,hq,hl,hw⟩:=hw
 subst e1
 cases r
 obtain ⟨its,rv,ht,hz⟩:=I.tuple hq
 refine assign_Tuple_tuple (I.ok.hd hc) ht (by simp [hn,← hl,rv.length]) hst fun h' hx => ?_
 have I1 : Inv X pins σ H { s with heap:=h' }:=I.kept (t':=s.toks) fun b o e => hx b o (Nat.ne_of_lt (Heap.lt_size e)) e
 exact h pins _ σ H xs _ Q I1 (by simpa using rv) hw
noncomputable def tAsg (te : TE) (g : TG) : TS:=fun D σ H => te σ H fun x H1 => g x σ H1 D.nx
theorem zap {i : Nat} {x : Str} {e : Expr} {te : TE} {pos' : Pos} (hN : X.N.Nodup) (hi : X.N[i]? = some x) (hx : Loc X.env.scope x) (he : PE X e te) (hs : swapsWith e (some (.Name x pos')) pos.line X.env = pure false:=by rfl) (hf : X.fn x = true ∨ X.env.scope.names.lookup x = some .local:=by first | exact .inl rfl | exact .inr rfl | assumption) :
  PS X (.Assign [.Name x pos'] e pos) (tAsg te (zbF i)):=by
 intro pins s σ H D I h
 refine wpAny_Assign_Name (thn (he pins s σ H _ I h) fun v s1 ⟨y,H1,I1,r1,q1⟩ => ?_) hs
 exact zde I1 hN hi hx r1 (fun s2 I2 => ⟨_,H1,I2,q1⟩) hf
noncomputable def tAug (i : Nat) (te : TE) (ti : TIp) : TS:=fun D σ H => ∃ x,σ[i]? = some (some x) ∧ te σ H fun y H1 => ti x y H1 fun z H2 => D.nx (σ.set i (some z)) H2
theorem zg5 {i : Nat} {x : Str} {e : Expr} {te : TE} {op : Operator} {ti : TIp} {pos' : Pos} (hN : X.N.Nodup) (hi : X.N[i]? = some x) (hx : Loc X.env.scope x) (he : PE X e te) (ho : PIp X op ti) (hf : X.fn x = true ∨ X.env.scope.names.lookup x = some .local:=by first | exact .inl rfl | exact .inr rfl | assumption) :
  PS X (.AugAssign (.Name x pos') op e pos) (tAug i te ti):=by
 intro pins s σ H D I h
 obtain ⟨v,e1,h⟩:=h
 obtain ⟨m,hn,hl⟩:=I.loc
 have vis : Vis X.env.scope x:=by rcases hx with k | k; exact .inl k; exact .inr (.inl k)
 obtain ⟨u,r,l⟩:=hl i x v hi e1 vis
 refine wpAny_AugAssign_Name ?_
 have go : wpAny (model X.prog X.w) X.A (eval e X.env) (fun w s₂ => wpAny (model X.prog X.w) X.A (inplaceOp op u w) (fun r s₃ => wpAny (model X.prog X.w) X.A (storeName X.env x r) (fun _ => SP X pins D .next) X.xe s₃) X.xe s₂) X.xe s:=by
  refine thn (he pins s σ H _ I h) fun w s1 ⟨y,H1,I1,r1,q1⟩ => ?_
  refine thn (ho pins s1 σ H1 v y u w _ I1 r r1 q1) fun z s2 ⟨zv,H2,I2,r2,q2⟩ => ?_
  exact zde I2 hN hi hx r2 (fun s3 I3 => ⟨_,H2,I3,q2⟩) hf
 rcases l with ⟨hk,hm⟩ | ⟨hk,c,hc,hcell⟩
 ·exact wpAny_loadName_local I.ok.kind hk hn hm go
 ·rcases hk with hk | hk
  ·exact wpAny_loadName_cell I.ok.kind hk hc hcell go
  ·rcases hx with k | k
   ·have : X.env.scope.names.lookup x = some .free:=hk
    rw [k] at this; cases this
   ·have : X.env.scope.names.lookup x = some .free:=hk
    rw [k] at this; cases this
noncomputable def ipI (f : Int → Int → Int) : TIp:=fun x y H Q => ∃ i j,x = .int i ∧ y = .int j ∧ Q (.int (f i j)) H
theorem ip_add : PIp X .Add (ipI fun i j => i + j):=by
 intro pins s σ H x y v u Q I r1 r2 h
 obtain ⟨i,j,e1,e2,q⟩:=h
 subst e1; subst e2
 obtain ⟨t,rfl⟩:=r1
 obtain ⟨t',rfl⟩:=r2
 exact iadd_int ⟨.int _,H,I.tok _,⟨_,rfl⟩,q⟩
theorem ip_sub : PIp X .Sub (ipI fun i j => i - j):=by
 intro pins s σ H x y v u Q I r1 r2 h
 obtain ⟨i,j,e1,e2,q⟩:=h
 subst e1; subst e2
 obtain ⟨t,rfl⟩:=r1
 obtain ⟨t',rfl⟩:=r2
 exact isub_int ⟨.int _,H,I.tok _,⟨_,rfl⟩,q⟩
end
section
variable {X : Cx} {pos : Pos}
noncomputable def tWhile (c : TT) (tb : TS) : TS:=fun D σ H => ∃ W : Nat → St → Hp → Prop,(∃ m,W m σ H) ∧ ∀ m σ H,W m σ H →
 c σ H fun b H1 => if b = true then ∃ N : St → Hp → Prop,(∀ σ' H',N σ' H' → ∃ m',m' < m ∧ W m' σ' H') ∧ tb { D with nx:=N,ct:=N,bk:=D.nx } σ H1 else D.nx σ H1
theorem zeJ {c : Expr} {body : List Stmt} {tc : TT} {tb : TS} (hp : PassesOwn (model X.prog X.w) X.A X.env X.xe) (hc : PT X c tc) (hb : PSs X body tb) : PS X (.While c body [] pos) (tWhile tc tb):=by
 intro pins s σ H D I h
 obtain ⟨W,⟨m0,w0⟩,turn⟩:=h
 refine wpAny_While (codeAny_whileLoop (fun n s' => ∃ σ' H',Inv X pins σ' H' s' ∧ W n σ' H') ?_ m0 ⟨σ,H,I,w0⟩)
 rintro n s1 ⟨σ1,H1,I1,w1⟩
 refine wpAny_passesOwn hp (thn (hc pins s1 σ1 H1 _ I1 (turn n σ1 H1 w1)) fun b s2 ⟨H2,I2,q2⟩ => ?_)
 cases b with
 | true =>
  obtain ⟨N,hN,q2⟩:=q2
  rw [if_pos rfl]
  refine wpAny_passesOwn hp (thn (hb pins s2 σ1 H2 _ I2 q2) fun f s3 q3 => ?_)
  cases f with
  | next =>
   obtain ⟨σ3,H3,I3,n3⟩:=q3
   obtain ⟨m',hm,w3⟩:=hN σ3 H3 n3
   exact ⟨m',hm,σ3,H3,I3,w3⟩
  | cont =>
   obtain ⟨σ3,H3,I3,n3⟩:=q3
   obtain ⟨m',hm,w3⟩:=hN σ3 H3 n3
   exact ⟨m',hm,σ3,H3,I3,w3⟩
  | brk => exact q3
  | ret v => exact q3
 | false =>
  rw [if_neg Bool.false_ne_true]
  exact wpAny_execs_nil ⟨σ1,H2,I2,q2⟩
end
structure It where
 go : Nat → Hp → Prop
 yld : Nat → Hp → V → Hp → Prop
 stop : Nat → Hp → Prop
noncomputable def FpOk (X : Cx) (pins : List (Addr × Obj)) (H : Hp) (b : Addr) : Prop :=
 H b = none ∧ b ≠ X.env.locals ∧ b ∉ X.fs ∧ (b ∈ X.ex ∨ X.s₀.heap.objs.size ≤ b) ∧ (∀ x c,X.env.cells.lookup x = some c → c ≠ b) ∧ ∀ p ∈ X.pn ++ pins,p.1 ≠ b
theorem Inv.fpOk {X : Cx} {pins : List (Addr × Obj)} {σ : St} {H H' : Hp} {s : Shared} {b : Addr} (I : Inv X pins σ H s) (hb : s.heap.objs.size ≤ b) (hn : H' b = none) : FpOk X pins H' b:=by
 refine ⟨hn,Nat.ne_of_gt (Nat.lt_of_lt_of_le I.lt hb),I.nofs hb,.inr (Nat.le_trans I.sz hb),fun x c e z => ?_,fun p hp z => ?_⟩
 ·obtain ⟨v,q⟩:=I.cell x c e
  exact absurd (Nat.lt_of_lt_of_le q.lt (by rw [z]; exact hb)) (Nat.lt_irrefl _)
 ·exact absurd (Nat.lt_of_lt_of_le (Heap.lt_size (I.pin p hp).1) (by rw [z]; exact hb)) (Nat.lt_irrefl _)
structure Turn (P : Program) (w : World) (K : W.Frag) (tg : Expr) (J : It) (fp : List Addr) (it : Addr) (tn : Nat → Heap → Prop) : Prop where
 mem : it ∈ fp
 obj : ∀ i h,tn i h → ∀ b ∈ fp,∃ o,h.get? b = some o ∧ ∀ v,o.data ≠ .cell v
 keep : ∀ i h h',tn i h → (∀ b ∈ fp,∀ o,h.get? b = some o → h'.get? b = some o) → tn i h'
 item : ∀ (X : Cx),X.prog = P → X.w = w → X.K = K → X.calm = true → ∀ (i : Nat) (pins : List (Addr × Obj)) (s : Shared) (σ : St) (H : Hp) (E : Value → Shared → Prop),Inv X pins σ H s → (∀ b ∈ fp,FpOk X pins H b) → tn i s.heap → J.go i H →
  wpAny (model P w) X.A (pyNext (.ref it)) (fun r s1 => ∃ u,r = some u ∧
   wpAny (model P w) X.A (letOwnedTupleGo tg (.ref it) u) (fun _ s2 => ∃ x H',Inv X pins σ H' s2 ∧ RelV x u ∧ J.yld i H x H' ∧ tn (i + 1) s2.heap ∧ ∀ b ∈ fp,H' b = none) E s1) E s
 done : ∀ (X : Cx),X.prog = P → X.w = w → X.K = K → X.calm = true → ∀ (i : Nat) (pins : List (Addr × Obj)) (s : Shared) (σ : St) (H : Hp) (E : Value → Shared → Prop),Inv X pins σ H s → (∀ b ∈ fp,FpOk X pins H b) → tn i s.heap → J.stop i H →
  wpAny (model P w) X.A (pyNext (.ref it)) (fun r s1 => r = none ∧ Inv X pins σ H s1) E s
 self : ∀ (A : Around) (i : Nat) (s : Shared) (Q : Value → Shared → Prop) (E : Value → Shared → Prop),tn i s.heap → Q (.ref it) s → wpAny (model P w) A (pyIter (.ref it)) Q E s
noncomputable abbrev TI:=St → Hp → (It → Hp → Prop) → Prop
noncomputable def PIE (X : Cx) (pins : List (Addr × Obj)) (σ : St) (tg : Expr) (R : It → Hp → Prop) (itv : Value) (s2 : Shared) : Prop :=
 ∃ (it : Addr) (fp : List Addr) (tn : Nat → Heap → Prop) (J : It) (H' : Hp),itv = .ref it ∧ Inv X pins σ H' s2 ∧ Turn X.prog X.w X.K tg J fp it tn ∧ tn 0 s2.heap ∧ (∀ b ∈ fp,FpOk X pins H' b) ∧ R J H'
noncomputable def PI (X : Cx) (tg iter : Expr) (wi : TI) : Prop :=
 ∀ (pins : List (Addr × Obj)) (s : Shared) (σ : St) (H : Hp) (R : It → Hp → Prop),Inv X pins σ H s → wi σ H R →
  wpAny (model X.prog X.w) X.A (eval iter X.env) (fun v s1 => wpAny (model X.prog X.w) X.A (pyIter v) (PIE X pins σ tg R) X.xe s1) X.xe s
theorem go_of {M : Model} {A : Around} {E : Value → Shared → Prop} {s : Shared} {tg : Expr} {it : Addr} {u : Value} {o : Obj} {n : String} {vs : Array Value} {Q : Unit → Shared → Prop} (ho : s.heap.get? it = some o) (hc : o.cls = .type n) (hd : o.data = .fields vs)
  (hn : ["enumerate","zip","dict_itemiterator","dict_reverseitemiterator","odict_iterator","itertools.zip_longest","itertools.pairwise"].contains n = false) (hQ : Q () s) : wpAny M A (letOwnedTupleGo tg (.ref it) u) Q E s:=by
 unfold letOwnedTupleGo
 cases tg <;> first
  | exact wpAny_pure hQ
  | (cases u <;> first
    | exact wpAny_pure hQ
    | (refine wpAny_bind (wpAny_load ho ?_)
       rw [hc,hd]
       show wpAny M A (if (["enumerate","zip","dict_itemiterator","dict_reverseitemiterator","odict_iterator","itertools.zip_longest","itertools.pairwise"].contains n && vs[0]? == some (rawInt _)) = true then _ else _) Q E s
       rw [if_neg (by intro h; rw [hn,Bool.false_and] at h; cases h)]
       exact wpAny_pure hQ))
noncomputable def Itl (K : W.Frag) (a : Addr) : It :=
 ⟨fun i H => ∃ xs x,SqL K H a xs ∧ xs[i]? = some x,fun i H x H' => H' = H ∧ ∀ xs,SqL K H a xs → xs[i]? = some x,fun i H => ∃ xs,SqL K H a xs ∧ xs.length ≤ i⟩
noncomputable def Itt (K : W.Frag) (a : Addr) : It :=
 ⟨fun i H => ∃ xs x,SqT K H a xs ∧ xs[i]? = some x,fun i H x H' => H' = H ∧ ∀ xs,SqT K H a xs → xs[i]? = some x,fun i H => ∃ xs,SqT K H a xs ∧ xs.length ≤ i⟩
noncomputable def Itr (lo : Int) (n : Nat) : It:=⟨fun i _ => i < n,fun i H x H' => H' = H ∧ x = .int (lo + i),fun i _ => n ≤ i⟩
theorem zh7 {P : Program} {w : World} {K : W.Frag} {tg : Expr} (a it : Addr) : Turn P w K tg (Itl K a) [it] it (fun i h => h.IsListIter it a i) where
 mem:=by simp
 obj:=fun i h st b hb => by
  have e : b = it:=by simpa using hb
  subst e
  obtain ⟨o,e,c,d⟩:=st
  exact ⟨o,e,fun v z => by rw [d] at z; cases z⟩
 keep:=fun i h h' st k => st.at fun o e => k it (by simp) o e
 item:=by
  intro X hP hw hK hc i pins s σ H E I hf st hg
  subst hP hw hK
  obtain ⟨xs,x,hq,hx⟩:=hg
  obtain ⟨its,rv,p,hz⟩:=I.list hq
  obtain ⟨u,hu,ru⟩:=rv.get hx
  obtain ⟨f0,f1,f2,f3,f4,f5⟩:=hf it (by simp)
  refine wpAny_pyNext_list_item st p.isList (x:=u) (by simpa using hu) fun h' st' sb => ?_
  have I1 : Inv X pins σ H { s with heap:=h' }:=I.turned (t':=s.toks) (fun b o hb e => (sb.2 b hb).trans e) f0 f1 f3 f4 f5
  obtain ⟨o,e,c,d⟩:=id st'
  exact ⟨u,rfl,go_of (s:={ s with heap:=h' }) e c d (by decide) ⟨x,H,I1,ru,⟨rfl,fun ys hy => by rw [I.list_inj hy hq]; exact hx⟩,st',fun b hb => (hf b hb).1⟩⟩
 done:=by
  intro X hP hw hK hc i pins s σ H E I hf st hg
  subst hP hw hK
  obtain ⟨xs,hq,hx⟩:=hg
  obtain ⟨its,rv,p,hz⟩:=I.list hq
  obtain ⟨f0,f1,f2,f3,f4,f5⟩:=hf it (by simp)
  have hl:=rv.length
  exact wpAny_pyNext_list_end (I.ok.hd hc) st p.isList (by simp; omega) fun h' eb => ⟨rfl,I.turned (t':=s.toks) (fun b o hb e => eb b o hb e) f0 f1 f3 f4 f5⟩
 self:=fun _ _ _ _ _ st h => wpAny_pyIter_listiter st h
theorem zhB {P : Program} {w : World} {K : W.Frag} {tg : Expr} (a it : Addr) : Turn P w K tg (Itt K a) [it] it (fun i h => h.IsTupleIter it a i) where
 mem:=by simp
 obj:=fun i h st b hb => by
  have e : b = it:=by simpa using hb
  subst e
  obtain ⟨o,e,c,d⟩:=st
  exact ⟨o,e,fun v z => by rw [d] at z; cases z⟩
 keep:=fun i h h' st k => st.at fun o e => k it (by simp) o e
 item:=by
  intro X hP hw hK hc i pins s σ H E I hf st hg
  subst hP hw hK
  obtain ⟨xs,x,hq,hx⟩:=hg
  obtain ⟨its,rv,p,hz⟩:=I.tuple hq
  obtain ⟨u,hu,ru⟩:=rv.get hx
  obtain ⟨f0,f1,f2,f3,f4,f5⟩:=hf it (by simp)
  refine wpAny_pyNext_tuple_item st (show s.heap.IsTuple a its.toArray from p) (x:=u) (by simpa using hu) fun h' st' sb => ?_
  have I1 : Inv X pins σ H { s with heap:=h' }:=I.turned (t':=s.toks) (fun b o hb e => (sb.2 b hb).trans e) f0 f1 f3 f4 f5
  obtain ⟨o,e,c,d⟩:=id st'
  exact ⟨u,rfl,go_of (s:={ s with heap:=h' }) e c d (by decide) ⟨x,H,I1,ru,⟨rfl,fun ys hy => by rw [I.tuple_inj hy hq]; exact hx⟩,st',fun b hb => (hf b hb).1⟩⟩
 done:=by
  intro X hP hw hK hc i pins s σ H E I hf st hg
  subst hP hw hK
  obtain ⟨xs,hq,hx⟩:=hg
  obtain ⟨its,rv,p,hz⟩:=I.tuple hq
  obtain ⟨f0,f1,f2,f3,f4,f5⟩:=hf it (by simp)
  have hl:=rv.length
  exact wpAny_pyNext_tuple_end (I.ok.hd hc) st (show s.heap.IsTuple a its.toArray from p) (by simp; omega) fun h' eb => ⟨rfl,I.turned (t':=s.toks) (fun b o hb e => eb b o hb e) f0 f1 f3 f4 f5⟩
 self:=fun _ _ _ _ _ st h => wpAny_pyIter_tupleiter st h
theorem zhC {P : Program} {w : World} {K : W.Frag} {tg : Expr} (it : Addr) (lo : Int) (n : Nat) : Turn P w K tg (Itr lo n) [it] it (fun i h => IsRangeIter h it (lo + (i : Nat) * 1) ((n : Int) - (i : Nat)) 1) where
 mem:=by simp
 obj:=fun i h st b hb => by
  have e : b = it:=by simpa using hb
  subst e
  exact ⟨_,st,fun v z => by
   have z' : Data.fields _ = Data.cell v:=z
   cases z'⟩
 keep:=fun i h h' st k => k it (by simp) _ st
 item:=by
  intro X hP hw hK hc i pins s σ H E I hf st hg
  subst hP hw hK
  obtain ⟨f0,f1,f2,f3,f4,f5⟩:=hf it (by simp)
  have W:=Walks.range (prog:=X.prog) (w:=X.w) (I.ok.hd hc) it lo 1 n
  refine W.item i s _ _ hg st fun v h' tk hv st' kk => ?_
  obtain ⟨t,rfl⟩:=hv
  have I1 : Inv X pins σ H { s with heap:=h',toks:=tk }:=I.turned (fun b o hb e => kk b o (by simpa using hb) e) f0 f1 f3 f4 f5
  refine ⟨_,rfl,go_of (s:={ s with heap:=h',toks:=tk }) (n:="range_iterator") st' rfl rfl (by decide) ⟨.int (lo + i),H,I1,⟨t,?_⟩,⟨rfl,rfl⟩,st',fun b hb => (hf b hb).1⟩⟩
  rw [Int.mul_one]
 done:=by
  intro X hP hw hK hc i pins s σ H E I hf st hg
  subst hP hw hK
  obtain ⟨f0,f1,f2,f3,f4,f5⟩:=hf it (by simp)
  exact wpAny_pyNext_range_end (I.ok.hd hc) st (by have : n ≤ i:=hg; omega) fun h' eb => ⟨rfl,I.turned (t':=s.toks) (fun b o hb e => eb b o hb e) f0 f1 f3 f4 f5⟩
 self:=fun _ _ _ _ _ st h => wpAny_pyIter_rangeiter st h
end L2
namespace L2
open PySem PySem.Spec PyProof.Rows
section
variable {X : Cx} {tg : Expr}
noncomputable def iList (K : W.Frag) (tl : TE) : TI:=fun σ H R => tl σ H fun x H1 => ∃ a,x = .ref a ∧ (∃ xs,SqL K H1 a xs) ∧ R (Itl K a) H1
noncomputable def iTup (K : W.Frag) (tl : TE) : TI:=fun σ H R => tl σ H fun x H1 => ∃ a,x = .ref a ∧ (∃ xs,SqT K H1 a xs) ∧ R (Itt K a) H1
theorem zbx {l : Expr} {tl : TE} (hl : PE X l tl) : PI X tg l (iList X.K tl):=by
 intro pins s σ H R I h
 refine thn (hl pins s σ H _ I h) fun v s1 ⟨x,H1,I1,r1,q1⟩ => ?_
 obtain ⟨a,e,⟨xs,hq⟩,q⟩:=q1
 subst e
 cases r1
 obtain ⟨its,rv,p,hz⟩:=I1.list hq
 refine wpAny_pyIter_list p.isList ?_
 refine ⟨s1.heap.objs.size,[s1.heap.objs.size],_,_,H1,rfl,I1.kept (t':=s1.toks) fun b o e => Heap.get?_push_of_some _ e,zh7 a _,⟨_,Heap.get?_push_size _ rfl,rfl,rfl⟩,fun b hb => ?_,q⟩
 have e : b = s1.heap.objs.size:=by simpa using hb
 subst e
 exact I1.fpOk (Nat.le_refl _) (I1.hok.fresh (Nat.le_refl _))
theorem pi_tup {l : Expr} {tl : TE} (hl : PE X l tl) : PI X tg l (iTup X.K tl):=by
 intro pins s σ H R I h
 refine thn (hl pins s σ H _ I h) fun v s1 ⟨x,H1,I1,r1,q1⟩ => ?_
 obtain ⟨a,e,⟨xs,hq⟩,q⟩:=q1
 subst e
 cases r1
 obtain ⟨its,rv,p,hz⟩:=I1.tuple hq
 refine wpAny_pyIter_tuple (show s1.heap.IsTuple a its.toArray from p) ?_
 refine ⟨s1.heap.objs.size,[s1.heap.objs.size],_,_,H1,rfl,I1.kept (t':=s1.toks) fun b o e => Heap.get?_push_of_some _ e,zhB a _,⟨_,Heap.get?_push_size _ rfl,rfl,rfl⟩,fun b hb => ?_,q⟩
 have e : b = s1.heap.objs.size:=by simpa using hb
 subst e
 exact I1.fpOk (Nat.le_refl _) (I1.hok.fresh (Nat.le_refl _))
theorem range_it {pins : List (Addr × Obj)} {σ : St} {H : Hp} {s : Shared} {R : It → Hp → Prop} {E : Value → Shared → Prop} {lo hi : Int} {t u v : Tok} {tk : Nat} (I : Inv X pins σ H s) (h1 : -(2 ^ 62) ≤ lo) (h2 : lo < 2 ^ 62) (h3 : -(2 ^ 62) ≤ hi) (h4 : hi < 2 ^ 62)
  (q : R (Itr lo (hi - lo).toNat) H) : wpAny (model X.prog X.w) X.A (pyIter (.ref s.heap.objs.size)) (PIE X pins σ tg R) E { s with heap:=s.heap.push { cls:=.type "range",data:=.fields #[.int lo t,.int hi u,.int 1 v] },toks:=tk }:=by
 refine wpAny_pyIter_range (IsRange.new ..) (small_one h1 h2 h3 h4) ?_
 have I1 : Inv X pins σ H { s with heap:=s.heap.push { cls:=.type "range",data:=.fields #[.int lo t,.int hi u,.int 1 v] },toks:=tk }:=I.kept fun b o e => Heap.get?_push_of_some _ e
 refine ⟨(s.heap.push { cls:=.type "range",data:=.fields #[.int lo t,.int hi u,.int 1 v] }).objs.size,[(s.heap.push { cls:=.type "range",data:=.fields #[.int lo t,.int hi u,.int 1 v] }).objs.size],_,_,H,rfl,
  I1.kept (t':=tk) fun b o e => Heap.get?_push_of_some _ e,zhC _ lo (hi - lo).toNat,?_,fun b hb => ?_,q⟩
 ·have e1 : lo + ((0 : Nat) : Int) * 1 = lo:=by simp
  have e2 : (((hi - lo).toNat : Nat) : Int) - ((0 : Nat) : Int) = Builtin.Range.rangeSize lo hi 1:=by rw [rangeSize_one]; split <;> omega
  show IsRangeIter _ _ (lo + ((0 : Nat) : Int) * 1) ((((hi - lo).toNat : Nat) : Int) - ((0 : Nat) : Int)) 1
  rw [e1,e2]
  exact Heap.get?_push_size _ rfl
 ·have e : b = (s.heap.push { cls:=.type "range",data:=.fields #[.int lo t,.int hi u,.int 1 v] }).objs.size:=by simpa using hb
  subst e
  exact I1.fpOk (Nat.le_refl _) (I1.hok.fresh (Nat.le_refl _))
noncomputable def iRng1 (ta : TA) : TI:=fun σ H R => ta σ H fun vs H1 => ∃ j : Int,vs = [.int j] ∧ -(2 ^ 62) ≤ j ∧ j < 2 ^ 62 ∧ R (Itr 0 j.toNat) H1
theorem ziO {a : Expr} {ta : TA} {p pos : Pos} (hg : Gl X "range") (hm : X.mg "range" = none) (ha : PA X [a] ta) (hs : starEach [a] X.env = [(false,eval a X.env)]:=by rfl) : PI X tg (.Call (.Name "range" p) [a] [] pos) (iRng1 ta):=by
 intro pins s σ H R I h
 refine Call_ (zfG I hg hm boot_range (PyProof.Rows.callWith_type1 (thn (ha pos pins s σ H _ I h) fun us s1 ⟨vs,H1,I1,r1,q1⟩ => ?_) hs rfl))
 obtain ⟨j,e,q1,q2,q⟩:=q1
 subst e
 cases r1 with
 | cons r rr =>
  cases rr
  obtain ⟨t,rfl⟩:=r
  exact call_range_1 (range_it I1 (by omega) (by omega) q1 q2 (by simpa using q))
noncomputable def tFor (wi : TI) (g : TG) (tb : TS) : TS:=fun D σ H => wi σ H fun J H1 => ∃ W : Nat → Nat → St → Hp → Prop,(∃ m,W 0 m σ H1) ∧ ∀ i m σ H,W i m σ H →
 (J.stop i H ∧ D.nx σ H) ∨ (J.go i H ∧ ∃ N : St → Hp → Prop,(∀ σ' H',N σ' H' → ∃ m',m' < m ∧ W (i + 1) m' σ' H') ∧ ∀ x H',J.yld i H x H' → g x σ H' fun σ2 H2 => tb { D with nx:=N,ct:=N,bk:=D.nx } σ2 H2)
noncomputable def zfp (fp : List Addr) (h : Heap) : List (Addr × Obj):=fp.filterMap fun b => (h.get? b).map fun o => (b,o)
theorem zcj {fp : List Addr} {h : Heap} {b : Addr} {o : Obj} (hb : b ∈ fp) (e : h.get? b = some o) : (b,o) ∈ zfp fp h:=List.mem_filterMap.mpr ⟨b,hb,by rw [e]; rfl⟩
theorem zi1 {fp : List Addr} {h : Heap} {p : Addr × Obj} (hp : p ∈ zfp fp h) : p.1 ∈ fp ∧ h.get? p.1 = some p.2:=by
 obtain ⟨b,hb,e⟩:=List.mem_filterMap.mp hp
 cases q : h.get? b with
 | none => rw [q] at e; cases e
 | some o =>
  rw [q] at e
  have e' : (b,o) = p:=Option.some.inj e
  subst e'
  exact ⟨hb,q⟩
theorem Inv.pinned {pins : List (Addr × Obj)} {σ : St} {H : Hp} {s : Shared} {fp : List Addr} (I : Inv X pins σ H s) (hf : ∀ b ∈ fp,FpOk X pins H b) (ho : ∀ b ∈ fp,∃ o,s.heap.get? b = some o ∧ ∀ v,o.data ≠ .cell v) : Inv X (pins ++ zfp fp s.heap) σ H s :=
 I.pins_of fun p hp => (List.mem_append.mp hp).elim (fun z => I.pin p (List.mem_append_right _ z)) fun z => by
  obtain ⟨hb,e⟩:=zi1 z
  obtain ⟨f0,f1,f2,_⟩:=hf p.1 hb
  obtain ⟨o,e',d⟩:=ho p.1 hb
  rw [e] at e'; cases e'
  exact ⟨e,f0,f1,f2,d⟩
theorem Inv.unpinned {pins pl : List (Addr × Obj)} {σ : St} {H : Hp} {s : Shared} (I : Inv X (pins ++ pl) σ H s) : Inv X pins σ H s:=I.pins_of fun p hp => I.pin p (List.mem_append_right _ (List.mem_append_left _ hp))
theorem zg4 {iter : Expr} {body : List Stmt} {wi : TI} {g : TG} {tb : TS} {pos : Pos} (hp : PassesOwn (model X.prog X.w) X.A X.env X.xe) (hc : X.calm = true) (hi : PI X tg iter wi) (hg : PG X tg g) (hb : PSs X body tb)
  (hs : ∀ x,foldedSetIterable iter X.env x = pure x:=by intro _; rfl) : PS X (.For tg iter body [] pos) (tFor wi g tb):=by
 intro pins s σ H D I h
 refine wpAny_For (thn (hi pins s σ H _ I h) fun v s1 h1 => thn h1 fun itv s2 h2 => ?_) hs
 obtain ⟨it,fp,tn,J,H2,e,I2,T,st2,f2,W,⟨m0,w0⟩,turn⟩:=h2
 subst e
 have stat : ∀ {H' : Hp},(∀ b ∈ fp,H' b = none) → ∀ b ∈ fp,FpOk X pins H' b:=fun hn b hb => ⟨hn b hb,(f2 b hb).2⟩
 refine codeAny_forLoop_any (fun n s' => ∃ i σ' H',Inv X pins σ' H' s' ∧ tn i s'.heap ∧ (∀ b ∈ fp,H' b = none) ∧ W i n σ' H') ?_ m0 ⟨0,σ,H2,I2,st2,fun b hb => (f2 b hb).1,w0⟩
 rintro n s3 ⟨i,σ3,H3,I3,st3,fr3,w3⟩
 rcases turn i n σ3 H3 w3 with ⟨stop,qn⟩ | ⟨go,N,hN,step⟩
 ·refine wpAny_passesOwn hp (thn (T.done X rfl rfl rfl hc i pins s3 σ3 H3 X.xe I3 (stat fr3) st3 stop) fun r s4 ⟨hr,I4⟩ => ?_)
  subst hr
  exact wpAny_execs_nil ⟨σ3,H3,I4,qn⟩
 ·refine wpAny_passesOwn hp (thn (T.item X rfl rfl rfl hc i pins s3 σ3 H3 X.xe I3 (stat fr3) st3 go) fun r s4 ⟨u,hr,h4⟩ => ?_)
  subst hr
  refine wpAny_passesOwn hp (thn h4 fun _ s5 ⟨x,H5,I5,r5,y5,st5,fr5⟩ => ?_)
  have I5':=I5.pinned (stat fr5) (T.obj _ _ st5)
  refine wpAny_passesOwn hp (thn (hg _ s5 σ3 H5 x u _ I5' r5 (step x H5 y5)) fun _ s6 ⟨σ6,H6,I6,q6⟩ => ?_)
  refine wpAny_passesOwn hp (thn (hb _ s6 σ6 H6 _ I6 q6) fun f s7 q7 => ?_)
  have again : ∀ {σ7 : St} {H7 : Hp},Inv X (pins ++ zfp fp s5.heap) σ7 H7 s7 → N σ7 H7 → ∃ m,m < n ∧ ∃ i σ' H',Inv X pins σ' H' s7 ∧ tn i s7.heap ∧ (∀ b ∈ fp,H' b = none) ∧ W i m σ' H':=fun {σ7 H7} I7 n7 => by
   obtain ⟨m',hm,w7⟩:=hN σ7 H7 n7
   refine ⟨m',hm,i + 1,σ7,H7,I7.unpinned,T.keep _ _ _ st5 fun b hb o e => (I7.pin (b,o) (List.mem_append_right _ (List.mem_append_right _ (zcj hb e)))).1,fun b hb => ?_,w7⟩
   obtain ⟨o,e,d⟩:=T.obj _ _ st5 b hb
   exact (I7.pin (b,o) (List.mem_append_right _ (List.mem_append_right _ (zcj hb e)))).2.1
  cases f with
  | next => obtain ⟨σ7,H7,I7,n7⟩:=q7; exact again I7 n7
  | cont => obtain ⟨σ7,H7,I7,n7⟩:=q7; exact again I7 n7
  | brk => obtain ⟨σ7,H7,I7,q7⟩:=q7; exact ⟨σ7,H7,I7.unpinned,q7⟩
  | ret v => obtain ⟨x7,σ7,H7,I7,r7,q7⟩:=q7; exact ⟨x7,σ7,H7,I7.unpinned,r7,q7⟩
end
theorem ze4 {K : W.Frag} {a : Addr} {xs : List V} {g : TG} {tb : TS} {D : Ends} {σ : St} {H : Hp} (Pv : Nat → St → Hp → Prop) (h0 : Pv 0 σ H) (hl : ∀ i σ H,i ≤ xs.length → Pv i σ H → SqL K H a xs)
  (hs : ∀ i x σ H,xs[i]? = some x → Pv i σ H → g x σ H fun σ2 H2 => tb { D with nx:=Pv (i + 1),ct:=Pv (i + 1),bk:=D.nx } σ2 H2) (hd : ∀ σ H,Pv xs.length σ H → D.nx σ H) :
  ∃ W : Nat → Nat → St → Hp → Prop,(∃ m,W 0 m σ H) ∧ ∀ i m σ H,W i m σ H →
   ((Itl K a).stop i H ∧ D.nx σ H) ∨ ((Itl K a).go i H ∧ ∃ N : St → Hp → Prop,(∀ σ' H',N σ' H' → ∃ m',m' < m ∧ W (i + 1) m' σ' H') ∧ ∀ x H',(Itl K a).yld i H x H' → g x σ H' fun σ2 H2 => tb { D with nx:=N,ct:=N,bk:=D.nx } σ2 H2):=by
 refine ⟨fun i m σ H => m = xs.length - i ∧ i ≤ xs.length ∧ Pv i σ H,⟨xs.length,by simp,Nat.zero_le _,h0⟩,?_⟩
 rintro i m σ H ⟨rfl,hi,p⟩
 have q:=hl i σ H hi p
 by_cases hlt : i < xs.length
 ·refine .inr ⟨⟨xs,xs[i],q,by simp [hlt]⟩,Pv (i + 1),fun σ' H' p' => ⟨xs.length - (i + 1),by omega,rfl,hlt,p'⟩,fun x H' y => ?_⟩
  obtain ⟨e,y⟩:=y
  subst e
  exact hs i x σ _ (y xs q) p
 ·have e : i = xs.length:=by omega
  subst e
  exact .inl ⟨⟨xs,q,Nat.le_refl _⟩,hd σ H p⟩
theorem zjF {lo : Int} {n : Nat} {g : TG} {tb : TS} {D : Ends} {σ : St} {H : Hp} (Pv : Nat → St → Hp → Prop) (h0 : Pv 0 σ H)
  (hs : ∀ i σ H,i < n → Pv i σ H → g (.int (lo + i)) σ H fun σ2 H2 => tb { D with nx:=Pv (i + 1),ct:=Pv (i + 1),bk:=D.nx } σ2 H2) (hd : ∀ σ H,Pv n σ H → D.nx σ H) :
  ∃ W : Nat → Nat → St → Hp → Prop,(∃ m,W 0 m σ H) ∧ ∀ i m σ H,W i m σ H →
   ((Itr lo n).stop i H ∧ D.nx σ H) ∨ ((Itr lo n).go i H ∧ ∃ N : St → Hp → Prop,(∀ σ' H',N σ' H' → ∃ m',m' < m ∧ W (i + 1) m' σ' H') ∧ ∀ x H',(Itr lo n).yld i H x H' → g x σ H' fun σ2 H2 => tb { D with nx:=N,ct:=N,bk:=D.nx } σ2 H2):=by
 refine ⟨fun i m σ H => m = n - i ∧ i ≤ n ∧ Pv i σ H,⟨n,by simp,Nat.zero_le _,h0⟩,?_⟩
 rintro i m σ H ⟨rfl,hi,p⟩
 by_cases hlt : i < n
 ·refine .inr ⟨hlt,Pv (i + 1),fun σ' H' p' => ⟨n - (i + 1),by omega,rfl,hlt,p'⟩,fun x H' y => ?_⟩
  obtain ⟨e,y⟩:=y
  subst e y
  exact hs i σ _ hlt p
 ·have e : i = n:=by omega
  subst e
  exact .inl ⟨Nat.le_refl _,hd σ H p⟩
end L2
namespace L2
open PySem PySem.Spec PyProof.Rows
noncomputable abbrev R2:=V → V → Hp → VK → Prop
noncomputable def OpR (X : Cx) (f : Value → Value → Sem Value) (r : R2) : Prop :=
 ∀ (pins : List (Addr × Obj)) (s : Shared) (σ : St) (H : Hp) (x y : V) (v u : Value) (Q : VK),Inv X pins σ H s → RelV x v → RelV y u → r x y H Q →
  wpAny (model X.prog X.w) X.A (f v u) (EP X pins σ Q) X.xe s
noncomputable def UnR (X : Cx) (f : Value → Sem Value) (r : V → Hp → VK → Prop) : Prop :=
 ∀ (pins : List (Addr × Obj)) (s : Shared) (σ : St) (H : Hp) (x : V) (v : Value) (Q : VK),Inv X pins σ H s → RelV x v → r x H Q →
  wpAny (model X.prog X.w) X.A (f v) (EP X pins σ Q) X.xe s
noncomputable def zce (X : Cx) (f : Value) (r : List V → Hp → VK → Prop) : Prop :=
 ∀ (pins : List (Addr × Obj)) (s : Shared) (σ : St) (H : Hp) (xs : List V) (us : List Value) (Q : VK),Inv X pins σ H s → Vals xs us → r xs H Q →
  wpAny (model X.prog X.w) X.A (call f us) (EP X pins σ Q) X.xe s
noncomputable def TruR (X : Cx) (r : V → Hp → (Bool → Hp → Prop) → Prop) : Prop :=
 ∀ (pins : List (Addr × Obj)) (s : Shared) (σ : St) (H : Hp) (x : V) (v : Value) (Q : Bool → Hp → Prop),Inv X pins σ H s → RelV x v → r x H Q →
  wpAny (model X.prog X.w) X.A (truthy v) (TP X pins σ Q) X.xe s
noncomputable def tOp (r : R2) (ta tb : TE) : TE:=fun σ H Q => ta σ H fun x H1 => tb σ H1 fun y H2 => r x y H2 Q
noncomputable def tUn (r : V → Hp → VK → Prop) (ta : TE) : TE:=fun σ H Q => ta σ H fun x H1 => r x H1 Q
noncomputable def rI (C : Int → Int → Prop) (g : Int → Int → V) : R2:=fun x y H Q => ∃ i j,x = .int i ∧ y = .int j ∧ C i j ∧ Q (g i j) H
noncomputable def rI0 (g : Int → Int → V) : R2:=fun x y H Q => ∃ i j,x = .int i ∧ y = .int j ∧ Q (g i j) H
noncomputable def rU (g : Int → V) : V → Hp → VK → Prop:=fun x H Q => ∃ i,x = .int i ∧ Q (g i) H
section
variable {X : Cx} {a b c : Expr} {ta tb tc : TE} {pos : Pos}
theorem binT (ha : PE X a ta) (hb : PE X b tb) {pins : List (Addr × Obj)} {s : Shared} {σ : St} {H : Hp} {R : V → V → Hp → Prop} (I : Inv X pins σ H s)
  (h : ta σ H fun x H1 => tb σ H1 fun y H2 => R x y H2) {Q : Value → Shared → Prop} {f : Value → Value → Sem Value}
  (hf : ∀ v u s2 x y H2,Inv X pins σ H2 s2 → RelV x v → RelV y u → R x y H2 → wpAny (model X.prog X.w) X.A (f v u) Q X.xe s2) :
  wpAny (model X.prog X.w) X.A (eval a X.env) (fun v s₁ => wpAny (model X.prog X.w) X.A (eval b X.env) (fun u s₂ => wpAny (model X.prog X.w) X.A (f v u) Q X.xe s₂) X.xe s₁) X.xe s:=by
 refine thn (ha pins s σ H _ I h) fun v s1 ⟨x,H1,I1,r1,q1⟩ => ?_
 refine thn (hb pins s1 σ H1 _ I1 q1) fun u s2 ⟨y,H2,I2,r2,q2⟩ => ?_
 exact hf v u s2 x y H2 I2 r1 r2 q2
theorem zaA {op : Operator} {r : R2} (ho : OpR X (binaryOp op) r) (ha : PE X a ta) (hb : PE X b tb) : PE X (.BinOp a op b pos) (tOp r ta tb):=by
 intro pins s σ H Q I h
 exact wpAny_BinOp (binT ha hb I h fun v u s2 x y H2 I2 rx ry q => ho pins s2 σ H2 x y v u Q I2 rx ry q)
theorem pe_un {op : UnaryOp} {r : V → Hp → VK → Prop} (ho : UnR X (unaryOp op) r) (ha : PE X a ta) : PE X (.UnaryOp op a pos) (tUn r ta):=by
 intro pins s σ H Q I h
 exact UnaryOp_ (thn (ha pins s σ H _ I h) fun v s1 ⟨x,H1,I1,r1,q1⟩ => ho pins s1 σ H1 x v Q I1 r1 q1)
theorem opI {f : Value → Value → Sem Value} {C : Int → Int → Prop} {g : Int → Int → Int}
  (rule : ∀ (i j : Int) (t u : Tok) (s : Shared) (Q : Value → Shared → Prop) (E : Value → Shared → Prop),C i j → Q (.int (g i j) s.toks) { s with toks:=s.toks + 1 } → wpAny (model X.prog X.w) X.A (f (.int i t) (.int j u)) Q E s) :
  OpR X f (rI C fun i j => .int (g i j)):=by
 intro pins s σ H x y v u Q I rx ry h
 obtain ⟨i,j,rfl,rfl,hc,q⟩:=h
 obtain ⟨t,rfl⟩:=rx
 obtain ⟨t',rfl⟩:=ry
 exact rule i j t t' s _ _ hc ⟨.int (g i j),H,I.tok _,⟨_,rfl⟩,q⟩
theorem opI0 {f : Value → Value → Sem Value} {g : Int → Int → Int}
  (rule : ∀ (i j : Int) (t u : Tok) (s : Shared) (Q : Value → Shared → Prop) (E : Value → Shared → Prop),Q (.int (g i j) s.toks) { s with toks:=s.toks + 1 } → wpAny (model X.prog X.w) X.A (f (.int i t) (.int j u)) Q E s) :
  OpR X f (rI0 fun i j => .int (g i j)):=by
 intro pins s σ H x y v u Q I rx ry h
 obtain ⟨i,j,rfl,rfl,q⟩:=h
 obtain ⟨t,rfl⟩:=rx
 obtain ⟨t',rfl⟩:=ry
 exact rule i j t t' s _ _ ⟨.int (g i j),H,I.tok _,⟨_,rfl⟩,q⟩
theorem opB0 {f : Value → Value → Sem Value} {g : Int → Int → Bool}
  (rule : ∀ (i j : Int) (t u : Tok) (s : Shared) (Q : Value → Shared → Prop) (E : Value → Shared → Prop),Q (.bool (g i j)) s → wpAny (model X.prog X.w) X.A (f (.int i t) (.int j u)) Q E s) :
  OpR X f (rI0 fun i j => .bl (g i j)):=by
 intro pins s σ H x y v u Q I rx ry h
 obtain ⟨i,j,rfl,rfl,q⟩:=h
 obtain ⟨t,rfl⟩:=rx
 obtain ⟨t',rfl⟩:=ry
 exact rule i j t t' s _ _ ⟨.bl (g i j),H,I,rfl,q⟩
noncomputable def CDiv (i j : Int) : Prop:=0 < j ∧ j < 1073741824
noncomputable def CMul (i j : Int) : Prop:=(-(2 ^ 64) < i ∧ i < 2 ^ 64) ∨ (-(2 ^ 64) < j ∧ j < 2 ^ 64)
theorem CMul.ok {i j : Int} (h : CMul i j) : IntMulOk i j:=by
 rcases h with ⟨h1,h2⟩ | ⟨h1,h2⟩
 ·exact .of_left (intBits_le_64 h1 h2)
 ·exact .of_right (intBits_le_64 h1 h2)
theorem zbz : OpR X (binaryOp .Add) (rI0 fun i j => .int (i + j)):=opI0 fun _ _ _ _ _ _ _ q => add_int q
theorem op_sub : OpR X (binaryOp .Sub) (rI0 fun i j => .int (i - j)):=opI0 fun _ _ _ _ _ _ _ q => sub_int q
theorem zhb : OpR X (binaryOp .Mult) (rI CMul fun i j => .int (i * j)):=opI fun _ _ _ _ _ _ _ hc q => mul_int q hc.ok
theorem zaX : OpR X (binaryOp .FloorDiv) (rI CDiv fun i j => .int (i / j)):=opI fun i j _ _ _ _ _ hc q => by
 have h1 : (0 : Int) < j:=hc.1
 have h2 : j < 1073741824:=hc.2
 exact floordiv_int (by omega) (by rw [Int.fdiv_eq_ediv_of_nonneg i (by omega)]; exact q) (.inl (PyProof.noPylong_small (by omega)))
theorem za1 : OpR X (binaryOp .Mod) (rI (fun _ j => 0 < j) fun i j => .int (i % j)):=opI fun i j _ _ _ _ _ hc q => by
 have h1 : (0 : Int) < j:=hc
 exact mod_int' (by omega) (by rw [Int.fmod_eq_emod_of_nonneg i (by omega)]; exact q)
theorem unI {f : Value → Sem Value} {g : Int → Int}
  (rule : ∀ (i : Int) (t : Tok) (s : Shared) (Q : Value → Shared → Prop) (E : Value → Shared → Prop),Q (.int (g i) s.toks) { s with toks:=s.toks + 1 } → wpAny (model X.prog X.w) X.A (f (.int i t)) Q E s) :
  UnR X f (rU fun i => .int (g i)):=by
 intro pins s σ H x v Q I rx h
 obtain ⟨i,rfl,q⟩:=h
 obtain ⟨t,rfl⟩:=rx
 exact rule i t s _ _ ⟨.int (g i),H,I.tok _,⟨_,rfl⟩,q⟩
theorem zh6 : UnR X (unaryOp .USub) (rU fun i => .int (-i)):=unI fun _ _ _ _ _ q => neg_int q
end
noncomputable def scal : V → V → Bool
 | .non,.non => true | .non,.int _ => true | .int _,.non => true | .non,.bl _ => true | .bl _,.non => true | .non,.str _ => true | .str _,.non => true
 | .int _,.int _ => true | .bl _,.bl _ => true | .str _,.str _ => true | .byt _,.byt _ => true
 | .int _,.str _ => true | .str _,.int _ => true | .bl _,.str _ => true | .str _,.bl _ => true
 | _,_ => false
noncomputable def rEq : R2:=fun x y H Q => scal x y = true ∧ Q (.bl (decide (x = y))) H
noncomputable def rNe : R2:=fun x y H Q => scal x y = true ∧ Q (.bl (!decide (x = y))) H
theorem zjO {i j : Int} : decide (V.int i = V.int j) = (i == j):=by
 rw [Bool.eq_iff_iff]
 simp
theorem dec_bl {i j : Bool} : decide (V.bl i = V.bl j) = (i == j):=by
 rw [Bool.eq_iff_iff]
 simp
theorem zjN {i j : Str} : decide (V.str i = V.str j) = (i == j):=by
 rw [Bool.eq_iff_iff]
 simp
theorem zjP {i j : Array UInt8} : decide (V.byt i = V.byt j) = (i.toList == j.toList):=by
 rw [Bool.eq_iff_iff]
 cases i
 cases j
 simp
section
variable {X : Cx} {a b c : Expr} {ta tb tc : TE} {pos : Pos}
theorem zaO {pins : List (Addr × Obj)} {σ : St} {H : Hp} {s : Shared} {Q : VK} {k k' : Bool} (I : Inv X pins σ H s) (q : Q (.bl k) H) (e : k = k') : EP X pins σ Q (.bool k') s:=by
 subst e
 exact ⟨.bl k,H,I,rfl,q⟩
theorem za3 : OpR X (compareOp .Eq) rEq:=by
 intro pins s σ H x y v u Q I rx ry h
 obtain ⟨hs,q⟩:=h
 cases x with
 | non =>
  cases rx
  cases y with
  | non => cases ry; exact PySem.EqNone.eq_none_none (zaO I q (by simp))
  | bl j => cases ry; exact PySem.EqNone.eq_none_bool (zaO I q (by simp))
  | int j => obtain ⟨t',rfl⟩:=ry; exact PySem.EqNone.eq_none_int (zaO I q (by simp))
  | str j => obtain ⟨t',rfl⟩:=ry; exact PySem.EqNone.eq_none_str (zaO I q (by simp))
  | _ => exact absurd (show false = true from hs) Bool.false_ne_true
 | bl i =>
  cases rx
  cases y with
  | non => cases ry; exact PySem.EqNone.eq_bool_none (zaO I q (by simp))
  | bl j => cases ry; exact eq_bool (zaO I q dec_bl)
  | str j => obtain ⟨t',rfl⟩:=ry; exact PySem.EqMixed.eq_bool_str (zaO I q (by simp))
  | _ => exact absurd (show false = true from hs) Bool.false_ne_true
 | int i =>
  obtain ⟨t,rfl⟩:=rx
  cases y with
  | non => cases ry; exact PySem.EqNone.eq_int_none (zaO I q (by simp))
  | int j => obtain ⟨t',rfl⟩:=ry; exact eq_int (zaO I q zjO)
  | str j => obtain ⟨t',rfl⟩:=ry; exact PySem.EqMixed.eq_int_str (zaO I q (by simp))
  | _ => exact absurd (show false = true from hs) Bool.false_ne_true
 | str i =>
  obtain ⟨t,rfl⟩:=rx
  cases y with
  | non => cases ry; exact PySem.EqNone.eq_str_none (zaO I q (by simp))
  | bl j => cases ry; exact PySem.EqMixed.eq_str_bool (zaO I q (by simp))
  | int j => obtain ⟨t',rfl⟩:=ry; exact PySem.EqMixed.eq_str_int (zaO I q (by simp))
  | str j => obtain ⟨t',rfl⟩:=ry; exact eq_str (zaO I q zjN)
  | _ => exact absurd (show false = true from hs) Bool.false_ne_true
 | byt i =>
  obtain ⟨t,rfl⟩:=rx
  cases y with
  | byt j => obtain ⟨t',rfl⟩:=ry; exact W.eq_bytes (zaO I q zjP)
  | _ => exact absurd (show false = true from hs) Bool.false_ne_true
 | _ => cases y <;> exact absurd (show false = true from hs) Bool.false_ne_true
theorem zfw : OpR X (compareOp .NotEq) rNe:=by
 intro pins s σ H x y v u Q I rx ry h
 obtain ⟨hs,q⟩:=h
 cases x with
 | non =>
  cases rx
  cases y with
  | non => cases ry; exact PySem.EqNone.ne_none_none (zaO I q (by simp))
  | bl j => cases ry; exact PySem.EqNone.ne_none_bool (zaO I q (by simp))
  | int j => obtain ⟨t',rfl⟩:=ry; exact PySem.EqNone.ne_none_int (zaO I q (by simp))
  | str j => obtain ⟨t',rfl⟩:=ry; exact PySem.EqNone.ne_none_str (zaO I q (by simp))
  | _ => exact absurd (show false = true from hs) Bool.false_ne_true
 | bl i =>
  cases rx
  cases y with
  | non => cases ry; exact PySem.EqNone.ne_bool_none (zaO I q (by simp))
  | bl j => cases ry; exact ne_bool (zaO I q (congrArg not dec_bl))
  | str j => obtain ⟨t',rfl⟩:=ry; exact PySem.EqMixed.ne_bool_str (zaO I q (by simp))
  | _ => exact absurd (show false = true from hs) Bool.false_ne_true
 | int i =>
  obtain ⟨t,rfl⟩:=rx
  cases y with
  | non => cases ry; exact PySem.EqNone.ne_int_none (zaO I q (by simp))
  | int j => obtain ⟨t',rfl⟩:=ry; exact ne_int (zaO I q (congrArg not zjO))
  | str j => obtain ⟨t',rfl⟩:=ry; exact PySem.EqMixed.ne_int_str (zaO I q (by simp))
  | _ => exact absurd (show false = true from hs) Bool.false_ne_true
 | str i =>
  obtain ⟨t,rfl⟩:=rx
  cases y with
  | non => cases ry; exact PySem.EqNone.ne_str_none (zaO I q (by simp))
  | bl j => cases ry; exact PySem.EqMixed.ne_str_bool (zaO I q (by simp))
  | int j => obtain ⟨t',rfl⟩:=ry; exact PySem.EqMixed.ne_str_int (zaO I q (by simp))
  | str j => obtain ⟨t',rfl⟩:=ry; exact ne_str (zaO I q (congrArg not zjN))
  | _ => exact absurd (show false = true from hs) Bool.false_ne_true
 | byt i =>
  obtain ⟨t,rfl⟩:=rx
  cases y with
  | byt j => obtain ⟨t',rfl⟩:=ry; exact W.ne_bytes (zaO I q (congrArg not zjP))
  | _ => exact absurd (show false = true from hs) Bool.false_ne_true
 | _ => cases y <;> exact absurd (show false = true from hs) Bool.false_ne_true
theorem op_lt : OpR X (compareOp .Lt) (rI0 fun i j => .bl (decide (i < j))):=opB0 fun _ _ _ _ _ _ _ q => lt_int q
theorem op_le : OpR X (compareOp .LtE) (rI0 fun i j => .bl (decide (i ≤ j))):=opB0 fun _ _ _ _ _ _ _ q => le_int q
theorem ziX : OpR X (compareOp .Gt) (rI0 fun i j => .bl (decide (j < i))):=opB0 fun _ _ _ _ _ _ _ q => gt_int q
theorem op_ge : OpR X (compareOp .GtE) (rI0 fun i j => .bl (decide (j ≤ i))):=opB0 fun _ _ _ _ _ _ _ q => ge_int q
theorem zat (b : Expr) {op : CmpOp} (h : op ≠ .In:=by decide) (h2 : op ≠ .NotIn:=by decide) : behindInMarks op b = false:=by
 have e1 : (op == CmpOp.In) = false:=by cases op <;> first | rfl | exact absurd rfl h
 have e2 : (op == CmpOp.NotIn) = false:=by cases op <;> first | rfl | exact absurd rfl h2
 cases b <;> simp [behindInMarks,e1,e2]
theorem zbn {op : CmpOp} {r : R2} (ho : OpR X (compareOp op) r) (ha : PE X a ta) (hb : PE X b tb) (hm : behindInMarks op b = false) : PE X (.Compare a [op] [b] pos) (tOp r ta tb):=by
 intro pins s σ H Q I h
 exact wpAny_Compare1 (binT ha hb I h fun v u s2 x y H2 I2 rx ry q => ho pins s2 σ H2 x y v u Q I2 rx ry q) hm
noncomputable def zib (t : TE) : TT:=fun σ H Q => t σ H fun x H' => ∃ k,x = .bl k ∧ Q k H'
theorem zao {op : CmpOp} {r : R2} (ho : OpR X (compareOp op) r) (ha : PE X a ta) (hb : PE X b tb) (hm : behindInMarks op b = false) : PT X (.Compare a [op] [b] pos) (zib (tOp r ta tb)):=by
 intro pins s σ H Q I h
 refine wpAny_isTrue_Compare1 (thn (ha pins s σ H _ I h) fun v s1 ⟨x,H1,I1,r1,q1⟩ => thn (hb pins s1 σ H1 _ I1 q1) fun u s2 ⟨y,H2,I2,r2,q2⟩ =>
  thn (ho pins s2 σ H2 x y v u _ I2 r1 r2 q2) fun c s3 ⟨z,H3,I3,r3,k,e,q3⟩ => ?_) hm
 subst e
 cases r3
 exact wpAny_truthy_bool ⟨H3,I3,q3⟩
noncomputable def TruV (K : W.Frag) (x : V) (H : Hp) (k : Bool) : Prop :=
 match x with
 | .non => k = false
 | .bl b => k = b
 | .int i => k = (i != 0)
 | .str y => y.length ≤ sizeLine ∧ k = ((y.length : Int) != 0)
 | .byt y => y.size ≤ sizeLine ∧ k = ((y.size : Int) != 0)
 | .ref p => (∃ xs,SqL K H p xs ∧ k = !xs.isEmpty) ∨ (∃ xs,SqT K H p xs ∧ k = !xs.isEmpty) ∨ ∃ kvs,H p = some (.dK kvs) ∧ k = !kvs.isEmpty
 | _ => False
theorem zhR {κ : Type} {kvs : List (κ × V)} {vs : List (κ × Value)} (r : KV kvs vs) : (!vs.isEmpty) = !kvs.isEmpty:=by
 cases r <;> rfl
theorem zeb {xs : List V} {its : List Value} (r : Vals xs its) : (!its.toArray.isEmpty) = !xs.isEmpty:=by
 cases r <;> simp
theorem zhf : (sizeLine : Nat) < 2 ^ 63:=by rw [sizeLine_eq]; decide
theorem tru_ok : TruR X (fun x H Q => ∃ k,TruV X.K x H k ∧ Q k H):=by
 intro pins s σ H x v Q I rx h
 obtain ⟨k,e,q⟩:=h
 have hl:=zhf
 have hs : sizeLine = 16777216:=sizeLine_eq
 cases x with
 | non =>
  cases rx
  have e' : k = false:=e
  subst e'
  exact truthy_none ⟨H,I,q⟩
 | bl b =>
  cases rx
  have e' : k = b:=e
  subst e'
  exact wpAny_truthy_bool ⟨H,I,q⟩
 | int i =>
  obtain ⟨t,rfl⟩:=rx
  have e' : k = (i != 0):=e
  subst e'
  exact PySem.P.truthy_int ⟨H,I,q⟩
 | str y =>
  obtain ⟨t,rfl⟩:=rx
  obtain ⟨hy,e'⟩ : y.length ≤ sizeLine ∧ k = ((y.length : Int) != 0):=e
  subst e'
  exact PySem.P.truthy_str (by omega) ⟨H,I.tok _,q⟩
 | byt y =>
  obtain ⟨t,rfl⟩:=rx
  obtain ⟨hy,e'⟩ : y.size ≤ sizeLine ∧ k = ((y.size : Int) != 0):=e
  subst e'
  exact W.truthy_bytes (by omega) ⟨H,I.tok _,q⟩
 | ref p =>
  cases rx
  have e' : (∃ xs,SqL X.K H p xs ∧ k = !xs.isEmpty) ∨ (∃ xs,SqT X.K H p xs ∧ k = !xs.isEmpty) ∨ ∃ kvs,H p = some (.dK kvs) ∧ k = !kvs.isEmpty:=e
  rcases e' with ⟨xs,hx,e'⟩ | ⟨xs,hx,e'⟩ | ⟨kvs,hx,e'⟩
  ·subst e'
   obtain ⟨its,r,pl,hz⟩:=I.list hx
   have hlen:=r.length
   exact wpAny_truthy_list pl.isList (by simp only [List.size_toArray]; omega) ⟨H,I.tok _,by rw [zeb r]; exact q⟩
  ·subst e'
   obtain ⟨its,r,pl,hz⟩:=I.tuple hx
   have hlen:=r.length
   exact truthy_tuple pl (by simp only [List.size_toArray]; omega) ⟨H,I.tok _,by rw [zeb r]; exact q⟩
  ·subst e'
   obtain ⟨hz,hS,vs,r,m⟩ : kvs.length ≤ sizeLine ∧ (p == sysModules) = false ∧ ∃ vs,KV kvs vs ∧ s.heap.DictOf (zaI X.prog X.w) p vs:=I.hok p _ hx
   have hlen : kvs.length = vs.length:=Paired.length r
   exact wpAny_truthy_dict hS m (by omega) ⟨H,I.tok _,by rw [zhR r]; exact q⟩
 | _ => exact (show False from e).elim
theorem zeI (ha : PE X a ta) (he : ∀ whole,isTrue a X.env whole = (do let v ← whole; standAt a.pos; holding [v] (truthy v))) :
  PT X a (fun σ H Q => ta σ H fun x H' => ∃ k,TruV X.K x H' k ∧ Q k H'):=by
 intro pins s σ H Q I h
 exact isTrue_plain (thn (ha pins s σ H _ I h) fun v s1 ⟨x,H1,I1,r1,q1⟩ => tru_ok pins s1 σ H1 x v Q I1 r1 q1) (he _)
theorem zbZ {x : V} {us : List Value} (r : Vals [x] us) : ∃ u,us = [u] ∧ RelV x u:=by
 cases r with
 | cons r1 r2 => cases r2; exact ⟨_,rfl,r1⟩
theorem vals2 {x y : V} {us : List Value} (r : Vals [x,y] us) : ∃ u w',us = [u,w'] ∧ RelV x u ∧ RelV y w':=by
 cases r with
 | cons r1 r2 =>
  cases r2 with
  | cons r3 r4 => cases r4; exact ⟨_,_,rfl,r1,r3⟩
theorem zhx : zce X (.builtin "abs") (fun xs H Q => ∃ i,xs = [.int i] ∧ Q (.int (if i < 0 then -i else i)) H):=by
 intro pins s σ H xs us Q I r h
 obtain ⟨i,rfl,q⟩:=h
 obtain ⟨u,rfl,t,rfl⟩:=zbZ r
 exact call_abs_int fun u tk => ⟨.int (if i < 0 then -i else i),H,I.tok _,⟨_,rfl⟩,q⟩
theorem zcU (hc : X.calm = true) : zce X (.builtin "min") (fun xs H Q => ∃ i j,xs = [.int i,.int j] ∧ Q (.int (if j < i then j else i)) H):=by
 intro pins s σ H xs us Q I r h
 obtain ⟨i,j,rfl,q⟩:=h
 obtain ⟨u,w',rfl,⟨t,rfl⟩,⟨t',rfl⟩⟩:=vals2 r
 refine min_two_ints (I.ok.hd hc) fun h' tk k => ⟨_,H,I.kept k,?_,q⟩
 by_cases hj : j < i
 ·rw [if_pos hj,if_pos hj]; exact ⟨_,rfl⟩
 ·rw [if_neg hj,if_neg hj]; exact ⟨_,rfl⟩
theorem zj3 : zce X (.type "int") (fun xs H Q => (∃ i,xs = [.int i] ∧ Q (.int i) H) ∨ ∃ k,xs = [.bl k] ∧ Q (.int (if k then 1 else 0)) H):=by
 intro pins s σ H xs us Q I r h
 rcases h with ⟨i,rfl,q⟩ | ⟨k,rfl,q⟩
 ·obtain ⟨u,rfl,t,rfl⟩:=zbZ r
  exact call_int_int ⟨.int i,H,I,⟨_,rfl⟩,q⟩
 ·obtain ⟨u,rfl,r1⟩:=zbZ r
  cases r1
  exact call_int_bool ⟨.int (if k then 1 else 0),H,I.tok _,⟨_,rfl⟩,q⟩
end
end L2
namespace L2
open PySem PySem.Spec PyProof.Rows
structure ObjM (h : Heap) (x dx C : Addr) (mA : Str → Option Value) : Prop where
 obj : h.get? x = some (W.instObj C dx)
 ns : h.Ns1 dx mA
 ne : dx ≠ x
theorem zjf {h : Heap} {dx : Addr} {mA : Str → Option Value} (n : h.Ns1 dx mA) : ∃ od,h.get? dx = some od ∧ ∀ name,W.lookIn name od = some (mA name):=by
 obtain ⟨o,es,ep,ho,hd,hk,_,hm⟩:=n
 refine ⟨o,ho,fun name => ?_⟩
 have e:=hm name
 unfold nsFind findBy at e
 rw [← Array.find?_toList] at e
 unfold W.lookIn
 rw [hd]
 dsimp only
 split
 ·rename_i y q
  rw [q] at e
  exact congrArg some e
 ·rename_i q
  rw [q] at e
  have a : es.toList.any (·.refKey) = false:=by
   rw [List.any_eq_false]
   intro y hy
   obtain ⟨z,t,hkey⟩:=hk y (Array.mem_toList_iff.mp hy)
   simp [DictEntry.refKey,hkey]
  have a' : ¬ es.toList.any (·.refKey) = true:=by rw [a]; exact Bool.false_ne_true
  rw [if_neg a']
  exact congrArg some e
theorem ObjM.look {h : Heap} {x dx C : Addr} {mA : Str → Option Value} (I : ObjM h x dx C mA) : ∃ od,W.InstAt h x (W.instObj C dx) C (some od) ∧ ∀ name,W.lookIn name od = some (mA name) :=
 let ⟨od,ho,hl⟩:=zjf I.ns
 ⟨od,⟨I.obj,rfl,rfl,ho⟩,hl⟩
section
variable {prog : Program} {w : World} {A : Around} {E : Value → Shared → Prop} {s : Shared} {K : W.Frag} {x dx C f : Addr} {mA : Str → Option Value} {name : Str} {v : Value}
theorem get_map {expr : Bool} {Q : Value → Shared → Prop} (X : K.In s.heap) (I : ObjM s.heap x dx C mA) (hg : W.plainGet K C name = true) (hh : W.hasDictIn K C = true)
  (ha : W.findIn K (.ref C) name = some none) (hv : mA name = some v) (hv' : W.handedIn v = true) (h : Q v { s with toks:=s.toks + 1 }) :
  wpAny (model prog w) A (getAttr (.ref x) name expr) Q E s:=by
 obtain ⟨od,J,hl⟩:=I.look
 exact W.get_value X J (W.plainGet_of hg).1 (W.findObj_own hh ha rfl (by rw [hl,hv])) hv' h
theorem get_meth {pl : Sem Bool} {Q : Value × List Value → Shared → Prop} (X : K.In s.heap) (I : ObjM s.heap x dx C mA) (hg : W.plainGet K C name = true)
  (hf : W.findIn K (.ref C) name = some (some (.ref f))) (ht : W.isFn K (.ref f) = true) (hv : mA name = none) (h : Q (.ref f,[.ref x]) s) :
  wpAny (model prog w) A (getMethod (.ref x) name pl) Q E s:=by
 obtain ⟨od,J,hl⟩:=I.look
 exact W.method_fn X J (W.plainGet_of hg).1 (W.plainGet_of hg).2 hf (beq_iff_eq.mp ht) (by show (W.lookIn name od).map (·.isSome) = some false; rw [hl,hv]; rfl) h
theorem set_map {ns : List Str} {Q : Unit → Shared → Prop} (X : K.In s.heap) (I : ObjM s.heap x dx C mA)
  (hs : W.findIn K (.ref C) "__setattr__" = some (some (.builtin "object.__setattr__"))) (hp : W.plainOver K C = true) (ht : W.takerIn K C name = some none) (hh : W.hasDictIn K C = true)
  (hw : PySem.Within mA ns) (hsz : ns.length ≤ sizeLine)
  (h : ∀ h',ObjM h' x dx C (fun y => if y = name then some v else mA y) → Heap.SameBut dx s.heap h' → Q () { s with heap:=h',toks:=s.toks + 2 }) :
  wpAny (model prog w) A (setAttr (.ref x) name v) Q E s:=by
 obtain ⟨od,J,hl⟩:=I.look
 refine W.set_plain X J hs (W.osa_open (s:={ s with toks:=s.toks + 1 }) (r:=none) X J hp ht fun b => ?_)
 obtain ⟨cd,hc,hd'⟩:=W.any_some hh
 have hx : s.heap.get? x = some ⟨.ref C,some dx,.plain,#[]⟩:=I.obj
 refine wpAny_bind (wpAny_pure (wpAny_bind (wpAny_bind (wpAny_loadPart hx (wpAny_bind (W.Looks.here (s:={ s with toks:=s.toks + 1 }) (W.looks_clsIn X hc) ?_))))))
 rw [hd']
 refine wpAny_pure (a:=some dx) (wpAny_bind (wpAny_pure (wpAny_bind ?_)))
 refine wpAny_nsSet1 (s:={ s with toks:=s.toks + 1 }) I.ns fun h' hn2 hs2 => ?_
 obtain ⟨oD,esD,epD,hoD,hdD,hcD⟩:=hn2.count (PySem.Within.cons name v hw)
 refine wpAny_bind (wpAny_lookBehind hoD (by rw [hdD]; exact pastItsLine_dict (Nat.le_trans hcD (by rw [List.length_cons]; omega))) ?_)
 exact wpAny_pure (h _ ⟨(hs2.2 _ (Ne.symm I.ne)).trans I.obj,hn2,I.ne⟩ hs2)
theorem make_map {R : Result → Shared → Prop} {vs : List Value} {kw : List (Str × Value)} (X : K.In s.heap) (hm : W.makesIn K C = true)
  (hi : W.findIn K (.ref C) "__init__" = some (some (.ref f))) (hf : W.typeIn K (.ref f) = some (.type "function"))
  (h : codeAny (model prog w) (A.under (.builtin "type.__call__" ⟨.ref C :: vs,kw⟩)) (.call (.ref f) ⟨.ref (s.heap.objs.size + 1) :: vs,kw⟩) (W.InitBack (s.heap.objs.size + 1) R)
   { s with heap:=(s.heap.push W.emptyDict).push (W.instObj C s.heap.objs.size) }) :
  codeAny (model prog w) A (.call (.ref C) ⟨vs,kw⟩) R s:=by
 obtain ⟨hh,g,d,t,os⟩:=s
 exact W.make_core (W.makes_of X hm) (W.looks_findIn X hi) (fun self => W.bind_fn X self hf) (.inl rfl) h
end
noncomputable def putF (f : Str) (v : V) : List (Str × V) → List (Str × V)
 | [] => [(f,v)]
 | (g,x) :: r => if g = f then (g,v) :: r else (g,x) :: putF f v r
theorem zdJ (f g : Str) (v : V) : ∀ fs : List (Str × V),(putF f v fs).lookup g = if g = f then some v else fs.lookup g
 | [] => by
  show List.lookup g [(f,v)] = _
  by_cases h : g = f
  ·have hb : (g == f) = true:=beq_iff_eq.mpr h
   simp only [List.lookup,hb,if_pos h]
  ·have hb : (g == f) = false:=beq_eq_false_iff_ne.mpr h
   simp only [List.lookup,hb,if_neg h]
 | (k,x) :: r => by
  have ih:=zdJ f g v r
  rw [show putF f v ((k,x) :: r) = (if k = f then (k,v) :: r else (k,x) :: putF f v r) from rfl]
  by_cases hk : k = f
  ·rw [if_pos hk]
   by_cases h : g = k
   ·have hb : (g == k) = true:=beq_iff_eq.mpr h
    simp only [List.lookup,hb,if_pos (h.trans hk)]
   ·have hb : (g == k) = false:=beq_eq_false_iff_ne.mpr h
    simp only [List.lookup,hb,if_neg (fun e : g = f => h (e.trans hk.symm))]
  ·rw [if_neg hk]
   by_cases h : g = k
   ·have hb : (g == k) = true:=beq_iff_eq.mpr h
    simp only [List.lookup,hb,if_neg (fun e : g = f => hk (h.symm.trans e))]
   ·have hb : (g == k) = false:=beq_eq_false_iff_ne.mpr h
    simp only [List.lookup,hb]
    exact ih
theorem zdM (f : Str) (v : V) : ∀ fs : List (Str × V),f ∈ (putF f v fs).map (·.1) ∧ ∀ g,g ∈ fs.map (·.1) → g ∈ (putF f v fs).map (·.1)
 | [] => ⟨by simp [putF],fun g h => by simp at h⟩
 | (k,x) :: r => by
  obtain ⟨i1,i2⟩:=zdM f v r
  rw [show putF f v ((k,x) :: r) = (if k = f then (k,v) :: r else (k,x) :: putF f v r) from rfl]
  by_cases hk : k = f
  ·rw [if_pos hk]
   subst hk
   exact ⟨by simp,fun g h => by simpa using h⟩
  ·rw [if_neg hk]
   refine ⟨?_,fun g h => ?_⟩
   ·rw [List.map_cons]
    exact List.mem_cons_of_mem _ i1
   ·rw [List.map_cons] at h ⊢
    rcases List.mem_cons.mp h with e | e
    ·exact List.mem_cons.mpr (.inl e)
    ·exact List.mem_cons_of_mem _ (i2 g e)
theorem zdL (f : Str) (v : V) : ∀ fs : List (Str × V),(putF f v fs).length ≤ fs.length + 1
 | [] => by simp [putF]
 | (k,x) :: r => by
  have ih:=zdL f v r
  rw [show putF f v ((k,x) :: r) = (if k = f then (k,v) :: r else (k,x) :: putF f v r) from rfl]
  by_cases hk : k = f
  ·rw [if_pos hk,List.length_cons,List.length_cons]; omega
  ·rw [if_neg hk,List.length_cons,List.length_cons]; omega
theorem RelO.some_of {v : V} {o : Option Value} (r : RelO (some v) o) : ∃ u,o = some u ∧ RelV v u:=by
 cases o with
 | none => exact (show False from r).elim
 | some u => exact ⟨u,rfl,r⟩
theorem RelO.none_of {o : Option Value} (r : RelO none o) : o = none:=by
 cases o with
 | none => rfl
 | some u => exact (show False from r).elim
theorem zjB {v : V} {u : Value} (r : RelV v u) : W.handedIn u = true:=by
 cases v with
 | non => cases (show u = Value.none from r); rfl
 | bl b => cases (show u = Value.bool b from r); rfl
 | int i => obtain ⟨t,e⟩:=(show ∃ t,u = Value.int i t from r); cases e; rfl
 | str x => obtain ⟨t,e⟩:=(show ∃ t,u = Value.str x t from r); cases e; rfl
 | byt b => obtain ⟨t,e⟩:=(show ∃ t,u = Value.bytes b t from r); cases e; rfl
 | flt b => obtain ⟨t,e⟩:=(show ∃ t,u = Value.float b t from r); cases e; rfl
 | ref a => cases (show u = Value.ref a from r); rfl
 | ty n => cases (show u = Value.type n from r); rfl
section
variable {P : Program} {w : World} {H H' : Hp} {h h' : Heap} {a C dx : Addr} {fs fs' : List (Str × V)}
theorem ze2 (hok : HOk P w H h) (e : H a = some (.ins C dx fs)) : ∃ mA,ObjM h a dx C mA ∧ (∀ f,RelO (fs.lookup f) (mA f)) ∧ PySem.Within mA (fs.map (·.1)) ∧ fs.length ≤ 1000 ∧ H dx = some (.own a):=by
 obtain ⟨d,z,ne,ob,mA,n,r,q⟩:=(show zaY P w H h a (.ins C dx fs) from hok a _ e)
 exact ⟨mA,⟨ob,n,ne⟩,r,q,z,d⟩
end
structure Cls (K : W.Frag) (C : Addr) : Prop where
 pg : W.plainGet K C Str.empty = true
 hd : W.hasDictIn K C = true
 po : W.plainOver K C = true
 sa : W.findIn K (.ref C) "__setattr__" = some (some (.builtin "object.__setattr__"))
theorem Cls.get {K : W.Frag} {C : Addr} (c : Cls K C) (f : Str) : W.plainGet K C f = true:=c.pg
noncomputable def zay (K : W.Frag) (C : Addr) (f : Str) : Prop:=W.findIn K (.ref C) f = some none
theorem zay.taker {K : W.Frag} {C : Addr} {f : Str} (n : zay K C f) : W.takerIn K C f = some none:=by
 unfold W.takerIn
 rw [show W.findIn K (.ref C) f = some none from n]
 rfl
structure Meth (K : W.Frag) (C : Addr) (m : Str) (f : Addr) : Prop where
 at_ : W.findIn K (.ref C) m = some (some (.ref f))
 fn : W.isFn K (.ref f) = true
 kp : W.keepIn K (.ref f) = true
section
variable {X : Cx} {pins : List (Addr × Obj)} {σ : St} {H : Hp} {s : Shared} {a C dx : Addr} {fs : List (Str × V)} {f : Str} {v : V} {A : Around} {E : Value → Shared → Prop}
theorem zed {b : Bool} {Q : Value → Shared → Prop} (I : Inv X pins σ H s) (e : H a = some (.ins C dx fs)) (c : Cls X.K C) (n : zay X.K C f) (l : fs.lookup f = some v)
  (h : ∀ u s',Inv X pins σ H s' → RelV v u → Q u s') : wpAny (model X.prog X.w) A (getAttr (.ref a) f b) Q E s:=by
 obtain ⟨mA,O,r,_,_,_⟩:=ze2 I.hok e
 obtain ⟨u,hu,ru⟩:=RelO.some_of (v:=v) (o:=mA f) (by rw [← l]; exact r f)
 exact get_map I.kIn O (c.get f) c.hd n hu (zjB ru) (h u _ (I.tok _) ru)
theorem zec {m : Str} {g : Addr} {pl : Sem Bool} {Q : Value × List Value → Shared → Prop} (I : Inv X pins σ H s) (e : H a = some (.ins C dx fs)) (c : Cls X.K C) (k : Meth X.K C m g) (l : fs.lookup m = none)
  (h : Q (.ref g,[.ref a]) s) : wpAny (model X.prog X.w) A (getMethod (.ref a) m pl) Q E s:=by
 obtain ⟨mA,O,r,_,_,_⟩:=ze2 I.hok e
 have hn : mA m = none:=RelO.none_of (by rw [← l]; exact r m)
 exact get_meth I.kIn O (c.get m) k.at_ k.fn hn h
theorem zd8 {y : V} {u : Value} {Q : Unit → Shared → Prop} (I : Inv X pins σ H s) (e : H a = some (.ins C dx fs)) (c : Cls X.K C) (n : zay X.K C f) (hl : fs.length < 1000) (ry : RelV y u)
  (h : ∀ s',Inv X pins σ (upd H a (.ins C dx (putF f y fs))) s' → Q () s') : wpAny (model X.prog X.w) A (setAttr (.ref a) f u) Q E s:=by
 obtain ⟨mA,O,r,wi,_,ho⟩:=ze2 I.hok e
 have hz : (fs.map (·.1)).length ≤ sizeLine:=by rw [List.length_map,sizeLine_eq]; omega
 refine set_map I.kIn O c.sa c.po n.taker c.hd wi hz fun h' O' sb => h _ ?_
 have hd : ∃ o,h'.get? dx = some o:=let ⟨o,_,_,e',_⟩:=O'.ns; ⟨o,e'⟩
 refine I.write (x:=a) (e:=dx) (by rw [e]; exact True.intro) (.inr ho) (fun b q hb z => (sb.2 b hb).trans z) hd ?_
 refine ⟨by rw [zad O.ne]; exact ho,?_,O.ne,O'.obj,_,O'.ns,fun g => ?_,fun g hg => ?_⟩
 ·have:=zdL f y fs; omega
 ·show RelO ((putF f y fs).lookup g) (if g = f then some u else mA g)
  rw [zdJ]
  by_cases q : g = f
  ·rw [if_pos q,if_pos q]; exact ry
  ·rw [if_neg q,if_neg q]; exact r g
 ·by_cases q : g = f
  ·rw [q]; exact (zdM f y fs).1
  ·refine (zdM f y fs).2 g (wi g fun z => hg ?_)
   show (if g = f then some u else mA g) = none
   rw [if_neg q]; exact z
theorem Inv.made (I : Inv X pins σ H s) : Inv X pins σ (upd (upd H s.heap.objs.size (.own (s.heap.objs.size + 1))) (s.heap.objs.size + 1) (.ins C s.heap.objs.size []))
  { s with heap:=(s.heap.push W.emptyDict).push (W.instObj C s.heap.objs.size) }:=by
 have e1 : (s.heap.push W.emptyDict).get? s.heap.objs.size = some W.emptyDict:=Heap.get?_push_size s.heap rfl
 have e2 : ((s.heap.push W.emptyDict).push (W.instObj C s.heap.objs.size)).get? (s.heap.objs.size + 1) = some (W.instObj C s.heap.objs.size):=by
  have:=Heap.get?_push_size (s.heap.push W.emptyDict) (o:=W.instObj C s.heap.objs.size) rfl
  rwa [Heap.size_push] at this
 have e3 : (s.heap.push W.emptyDict).Ns s.heap.objs.size (fun _ => none):=⟨W.emptyDict,#[],_,e1,rfl,(fun e he => absurd he (by simp)),fun _ => rfl⟩
 have I1:=I.laid (a:=s.heap.objs.size) (o:=.own (s.heap.objs.size + 1)) (h':=s.heap.push W.emptyDict) (t':=s.toks) (fun b u q => Heap.get?_push_of_some _ q) (Nat.le_refl _) ⟨_,e1⟩
 refine I1.laid (a:=s.heap.objs.size + 1) (o:=.ins C s.heap.objs.size []) (t':=s.toks) (fun b u q => Heap.get?_push_of_some _ q) (Nat.le_of_eq (Heap.size_push _ _)) ?_
 have ne : s.heap.objs.size ≠ s.heap.objs.size + 1:=Nat.ne_of_lt (Nat.lt_succ_self _)
 refine ⟨by rw [zad ne,zab],Nat.zero_le _,ne,e2,fun _ => none,(Heap.Ns1.of_empty e3).at fun o q => Heap.get?_push_of_some _ q,fun _ => True.intro,fun y hy => absurd rfl hy⟩
theorem attr_of {prog : Program} {w : World} {env : Env} {e : Expr} {f : Str} {pos : Pos} {s : Shared} {Q : Value → Shared → Prop} (hb : attributeBase e f env (eval e env) = eval e env)
  (h : wpAny (model prog w) A (eval e env) (fun o s₁ => wpAny (model prog w) A (getAttr o f true) Q E s₁) E s) : wpAny (model prog w) A (eval (.Attribute e f pos) env) Q E s :=
 Attribute_any_ h (by rw [arm_eval_Attribute,hb])
end
noncomputable def tFld (K : W.Frag) (ta : TE) (f : Str) : TE:=fun σ H Q => ta σ H fun x H1 => ∃ a C dx fs v,x = .ref a ∧ H1 a = some (.ins C dx fs) ∧ Cls K C ∧ zay K C f ∧ fs.lookup f = some v ∧ Q v H1
noncomputable def sFld (K : W.Frag) (ta tv : TE) (f : Str) : TS:=fun D σ H => tv σ H fun y H1 => ta σ H1 fun x H2 => ∃ a C dx fs,x = .ref a ∧ H2 a = some (.ins C dx fs) ∧ Cls K C ∧ zay K C f ∧ fs.length < 1000 ∧
 D.nx σ (upd H2 a (.ins C dx (putF f y fs)))
noncomputable def InOp (X : Cx) (op : Operator) (rd : V → V → Hp → VK → Prop) : Prop :=
 ∀ (pins : List (Addr × Obj)) (s : Shared) (σ : St) (H : Hp) (x y : V) (u v : Value) (Q : VK),Inv X pins σ H s → RelV x u → RelV y v → rd x y H Q → wpAny (model X.prog X.w) X.A (inplaceOp op u v) (EP X pins σ Q) X.xe s
noncomputable def sFldAug (K : W.Frag) (ta tv : TE) (rd : V → V → Hp → VK → Prop) (f : Str) : TS:=fun D σ H => ta σ H fun x H1 => ∃ a C dx fs v,x = .ref a ∧ H1 a = some (.ins C dx fs) ∧ Cls K C ∧ zay K C f ∧ fs.lookup f = some v ∧
 tv σ H1 fun y H2 => rd v y H2 fun z H3 => ∃ dx' fs',H3 a = some (.ins C dx' fs') ∧ fs'.length < 1000 ∧ D.nx σ (upd H3 a (.ins C dx' (putF f z fs')))
section
variable {X : Cx} {o e value : Expr} {f : Str} {pos pos' tpos : Pos} {ta tv : TE}
theorem zal (he : PE X e ta) (hb : attributeBase e f X.env (eval e X.env) = eval e X.env) : PE X (.Attribute e f pos) (tFld X.K ta f):=by
 intro pins s σ H Q I h
 refine attr_of hb (thn (he pins s σ H _ I h) fun u s1 ⟨x,H1,I1,rx,a,C,dx,fs,v,ex,ea,c,n,l,q⟩ => ?_)
 subst ex
 obtain rfl : u = Value.ref a:=rx
 exact zed I1 ea c n l fun u' s2 I2 ru => ⟨v,H1,I2,ru,q⟩
theorem zaP (ha : PE X o ta) (hv : PE X value tv) (hs : swapsWith value (some (.Attribute o f pos')) pos.line X.env = pure false) : PS X (.Assign [.Attribute o f pos'] value pos) (sFld X.K ta tv f):=by
 intro pins s σ H D I h
 refine plainObj_wpAny_Assign_Attribute (thn (hv pins s σ H _ I h) fun u s1 ⟨y,H1,I1,ry,q⟩ => thn (ha pins s1 σ H1 _ I1 q) fun ov s2 ⟨x,H2,I2,rx,a,C,dx,fs,ex,ea,c,n,l,q2⟩ => ?_) hs
 subst ex
 obtain rfl : ov = Value.ref a:=rx
 exact zd8 I2 ea c n l ry fun s3 I3 => ⟨σ,_,I3,q2⟩
theorem zbw {op : Operator} {rd : V → V → Hp → VK → Prop} (ha : PE X o ta) (hv : PE X value tv) (hop : InOp X op rd) : PS X (.AugAssign (.Attribute o f tpos) op value pos) (sFldAug X.K ta tv rd f):=by
 intro pins s σ H D I h
 refine wpAny_AugAssign_AttributeAny (thn (ha pins s σ H _ I h) fun ov s1 ⟨x,H1,I1,rx,a,C,dx,fs,v,ex,ea,c,n,l,q⟩ => ?_)
 subst ex
 obtain rfl : ov = Value.ref a:=rx
 refine zed I1 ea c n l fun u s2 I2 ru => thn (hv pins s2 σ H1 _ I2 q) fun w3 s3 ⟨y,H2,I3,ry,q3⟩ => thn (hop pins s3 σ H2 v y u w3 _ I3 ru ry q3) fun w4 s4 ⟨z,H3,I4,rz,dx',fs',ea',l',q4⟩ => ?_
 exact zd8 I4 ea' c n l' rz fun s5 I5 => ⟨σ,_,I5,q4⟩
noncomputable def rAdd : V → V → Hp → VK → Prop:=fun x y H Q => ∃ i j,x = .int i ∧ y = .int j ∧ Q (.int (i + j)) H
noncomputable def rSub : V → V → Hp → VK → Prop:=fun x y H Q => ∃ i j,x = .int i ∧ y = .int j ∧ Q (.int (i - j)) H
theorem zjx : InOp X .Add rAdd:=by
 rintro pins s σ H x y u v Q I rx ry ⟨i,j,rfl,rfl,q⟩
 obtain ⟨t,rfl⟩:=(show ∃ t,u = Value.int i t from rx)
 obtain ⟨t',rfl⟩:=(show ∃ t',v = Value.int j t' from ry)
 exact PyProof.Rows.iadd_int ⟨.int (i + j),H,I.tok _,⟨_,rfl⟩,q⟩
theorem zho : InOp X .Sub rSub:=by
 rintro pins s σ H x y u v Q I rx ry ⟨i,j,rfl,rfl,q⟩
 obtain ⟨t,rfl⟩:=(show ∃ t,u = Value.int i t from rx)
 obtain ⟨t',rfl⟩:=(show ∃ t',v = Value.int j t' from ry)
 exact PyProof.Rows.isub_int ⟨.int (i - j),H,I.tok _,⟨_,rfl⟩,q⟩
end
section
variable {X : Cx} {pins : List (Addr × Obj)} {σ : St} {H : Hp} {s : Shared} {A : Around} {E : Value → Shared → Prop} {Q : Value → Shared → Prop} {c : Value} {b : Bool}
inductive TyOf (K : W.Frag) (H : Hp) : V → Value → Prop where
 | non : TyOf K H .non (.type "NoneType")
 | bl (x : Bool) : TyOf K H (.bl x) (.type "bool")
 | int (i : Int) : TyOf K H (.int i) (.type "int")
 | str (x : Str) : TyOf K H (.str x) (.type "str")
 | flt (x : UInt64) : TyOf K H (.flt x) (.type "float")
 | lst {a : Addr} {xs : List V} (e : H a = some (.lst xs)) : TyOf K H (.ref a) (.type "list")
 | frz {a : Addr} {o : Obj} {xs : List V} (e : H a = some (.frz o (.lst xs))) : TyOf K H (.ref a) (.type "list")
 | tup {a : Addr} {xs : List V} (e : H a = some (.tup xs)) : TyOf K H (.ref a) (.type "tuple")
 | dK {a : Addr} {kvs : List (Key × V)} (e : H a = some (.dK kvs)) : TyOf K H (.ref a) (.type "dict")
 | dT {a : Addr} {kvs : List (List Key × V)} (e : H a = some (.dT kvs)) : TyOf K H (.ref a) (.type "dict")
 | ins {a C dx : Addr} {fs : List (Str × V)} (e : H a = some (.ins C dx fs)) (cl : Cls K C) (ha : W.findIn K (.ref C) "__class__" = some (some (.builtin "object.__class__")))
   (hn : W.specialIn K (.builtin "object.__class__") "__get__" = some (some (.builtin "getset_descriptor.__get__"))) (htk : W.takesIn K (.builtin "object.__class__") = some true)
   (hm : W.mroIn K C (.type "object") = some true) : TyOf K H (.ref a) (.ref C)
theorem zjs {x : V} {u t : Value} (I : Inv X pins σ H s) (rx : RelV x u) (ty : TyOf X.K H x t) (e : W.kitOne X.K t c = some b) (h : ∀ tk,Q (.bool b) { s with toks:=tk }) :
  wpAny (model X.prog X.w) A (call (.builtin "isinstance") [u,c]) Q E s:=by
 cases ty with
 | non => cases (show u = Value.none from rx); exact W.kia_one W.kitx_none I.kIn True.intro e (fun z => nomatch z) h
 | bl y => cases (show u = Value.bool y from rx); exact W.kia_one W.kitx_bool I.kIn True.intro e (fun z => nomatch z) h
 | int i => obtain ⟨t,q⟩:=(show ∃ t,u = Value.int i t from rx); cases q; exact W.kia_one W.kitx_int I.kIn True.intro e (fun z => nomatch z) h
 | str y => obtain ⟨t,q⟩:=(show ∃ t,u = Value.str y t from rx); cases q; exact W.kia_one W.kitx_str I.kIn True.intro e (fun z => nomatch z) h
 | flt y => obtain ⟨t,q⟩:=(show ∃ t,u = Value.float y t from rx); cases q; exact W.kia_one W.kitx_float I.kIn True.intro e (fun z => nomatch z) h
 | @lst a xs ea =>
  cases (show u = Value.ref a from rx)
  obtain ⟨_,_,n,_,h1⟩:=(show zaY X.prog X.w H s.heap a (.lst xs) from I.hok a _ ea)
  exact W.kia_one W.kitx_list I.kIn ⟨_,h1,rfl⟩ e (fun z => nomatch z) h
 | @frz a ob xs ea =>
  cases (show u = Value.ref a from rx)
  obtain ⟨_,_,_,n,_,h1⟩:=(show zaY X.prog X.w H s.heap a (.frz ob (.lst xs)) from I.hok a _ ea)
  exact W.kia_one W.kitx_list I.kIn ⟨_,h1,rfl⟩ e (fun z => nomatch z) h
 | @tup a xs ea =>
  cases (show u = Value.ref a from rx)
  obtain ⟨_,_,_,p⟩:=(show zaY X.prog X.w H s.heap a (.tup xs) from I.hok a _ ea)
  obtain ⟨o,h1,h2,_⟩:=p
  exact W.kia_one W.kitx_tuple I.kIn ⟨o,h1,h2⟩ e (fun z => nomatch z) h
 | @dK a kvs ea =>
  cases (show u = Value.ref a from rx)
  obtain ⟨_,_,vs,_,p⟩:=(show zaY X.prog X.w H s.heap a (.dK kvs) from I.hok a _ ea)
  obtain ⟨o,es,ep,h1,h2,_⟩:=p
  exact W.kia_one W.kitx_dict I.kIn ⟨o,h1,h2.1⟩ e (fun z => nomatch z) h
 | @dT a kvs ea =>
  cases (show u = Value.ref a from rx)
  obtain ⟨_,_,xs,_,o,es,ep,h1,h2,_⟩:=(show zaY X.prog X.w H s.heap a (.dT kvs) from I.hok a _ ea)
  exact W.kia_one W.kitx_dict I.kIn ⟨o,h1,h2.1⟩ e (fun z => nomatch z) h
 | @ins a C dx fs ea cl ha hn htk hm =>
  cases (show u = Value.ref a from rx)
  obtain ⟨mA,O,_⟩:=ze2 I.hok ea
  obtain ⟨od,J,_⟩:=O.look
  exact W.kia_one (W.kitx_own (cl.get _) cl.hd ha hn htk hm) I.kIn J e (fun z => nomatch z) h
end
end L2
namespace L2
open PySem PySem.Spec PyProof.Rows
structure Room (k : Nat) (A : Around) : Prop where
 hd : A.handled = none
 dp : A.depth + 3 * k + 5 < recursionLimit
 un : A.units + 16 * k + 200 < cLine
theorem Room.mono {j k : Nat} {A : Around} (r : Room k A) (h : j ≤ k) : Room j A:=⟨r.hd,by have:=r.dp; omega,by have:=r.un; omega⟩
theorem Room.deeper {k : Nat} {A : Around} (r : Room (k + 1) A) (env : Env) : Room k (A.deeper env) :=
 ⟨r.hd,by have:=r.dp; show A.depth + 1 + 3 * k + 5 < _; omega,by have:=r.un; show A.units + 3 + 16 * k + 200 < _; omega⟩
theorem zhL {A : Around} {C : Addr} {us : List Value} {kw : List (Str × Value)} : (A.under (.builtin "type.__call__" ⟨.ref C :: us,kw⟩)).depth = A.depth + 1:=by
 first | rfl | simp [Around.under,Code.weight,Code.isCreation,Code.isGuard,Code.isCaller,Code.frames,Code.isFrame,guardIds]
theorem zhK {A : Around} {C : Addr} {us : List Value} {kw : List (Str × Value)} : (A.under (.builtin "type.__call__" ⟨.ref C :: us,kw⟩)).units = A.units + 1:=by
 first | rfl | simp [Around.under,Code.cUnits,Code.frames,Code.isFrame]
theorem Room.make {k : Nat} {A : Around} (r : Room (k + 1) A) (C : Addr) (us : List Value) (kw : List (Str × Value)) : Room k (A.under (.builtin "type.__call__" ⟨.ref C :: us,kw⟩)) :=
 ⟨r.hd,by have:=r.dp; rw [zhL]; omega,by have:=r.un; rw [zhK]; omega⟩
theorem Room.depth {k : Nat} {A : Around} (r : Room k A) : A.depth < recursionLimit:=by have:=r.dp; omega
theorem Room.units {k : Nat} {A : Around} (r : Room k A) : A.units + 64 < cLine:=by have:=r.un; omega
noncomputable def tNil : TA:=fun _ H Q => Q [] H
noncomputable def zba (ta : TE) (tr : TA) : TA:=fun σ H Q => ta σ H fun x H1 => tr σ H1 fun xs H2 => Q (x :: xs) H2
section
variable {X : Cx} {e : Expr} {es : List Expr} {te : TE} {t : TA} {pos : Pos}
theorem zag : PA X [] tNil:=fun _ _ _ _ H Q I h => Calls.spliced_nil ⟨[],H,I,.nil,h⟩
theorem zaa (ha : PE X e te) (hr : PA X es t) (hs : starEach (e :: es) X.env = (false,eval e X.env) :: starEach es X.env:=by rfl) : PA X (e :: es) (zba te t):=by
 intro pos pins s σ H Q I h
 rw [hs]
 show wpAny _ _ (spliced ((false,eval e X.env) :: backTo pos (starEach es X.env))) _ _ s
 refine Calls.spliced_cons (thn (ha pins s σ H _ I h) fun u s1 ⟨x,H1,I1,r1,q1⟩ => ?_)
 exact thn (hr pos pins s1 σ H1 _ I1 q1) fun us s2 ⟨xs,H2,I2,r2,q2⟩ => ⟨x :: xs,H2,I2,.cons r1 r2,q2⟩
noncomputable def tTup (t : TA) : TE:=fun σ H Q => t σ H fun xs H1 => xs.length ≤ sizeLine ∧ ∀ p,H1 p = none → Q (.ref p) (upd H1 p (.tup xs))
noncomputable def tLst (t : TA) : TE:=fun σ H Q => t σ H fun xs H1 => xs.length ≤ sizeLine ∧ ∀ p,H1 p = none → Q (.ref p) (upd H1 p (.lst xs))
theorem zby {x1} (h : PA X es t) : PE X (.Tuple es x1 pos) (tTup t):=by
 intro pins s σ H Q I hq
 refine wpAny_Tuple_spliced (thn (h pos pins s σ H _ I hq) fun us s1 ⟨xs,H1,I1,r,z,q⟩ => ⟨by rw [← r.length]; exact z,?_⟩)
 have hf : H1 s1.heap.objs.size = none:=I1.hok.fresh (Nat.le_refl _)
 refine ⟨.ref s1.heap.objs.size,upd H1 s1.heap.objs.size (.tup xs),I1.laid (t':=s1.toks) (fun b u e => Heap.get?_push_of_some _ e) (Nat.le_refl _) ?_,rfl,q _ hf⟩
 exact ⟨z,us,r,⟨_,Heap.get?_push_size _ rfl,rfl,_,rfl⟩⟩
theorem zbg (h : PA X es t) : PE X (.List es pos) (tLst t):=by
 intro pins s σ H Q I hq
 refine wpAny_List_spliced (thn (h pos pins s σ H _ I hq) fun us s1 ⟨xs,H1,I1,r,z,q⟩ => ⟨by rw [← r.length]; exact z,?_⟩)
 have hf : H1 s1.heap.objs.size = none:=I1.hok.fresh (Nat.le_refl _)
 refine ⟨.ref s1.heap.objs.size,upd H1 s1.heap.objs.size (.lst xs),I1.laid (t':=s1.toks) (fun b u e => Heap.get?_push_of_some _ e) (Nat.le_refl _) ?_,rfl,q _ hf⟩
 exact ⟨z,us,0,r,Heap.get?_push_size _ rfl⟩
end
noncomputable abbrev Sp:=List V → Hp → VK → XK → Prop
noncomputable abbrev CXT:=List Env → Hp → Shared → XK → Value → Shared → Prop
structure Env0 (P : Program) (w : World) (K : W.Frag) (mg : Str → Option Value) (base : Heap) (A : Around) (outer : List Env) (s : Shared) (H : Hp) : Prop where
 frames : A.frames = some outer
 mod : Mod K mg base
 bs : ∀ b o,base.get? b = some o → s.heap.get? b = some o ∧ H b = none
 bsz : base.objs.size ≤ s.heap.objs.size
 funs : s.heap.FunFrames base outer
 frf : ∀ b ∈ frs outer,H b = none
 hok : HOk P w H s.heap
 bare : AllBare s.gens
noncomputable def CE (outer : List Env) (P : Program) (w : World) (H : Hp) (s : Shared) (Q : VK) (u : Value) (s' : Shared) : Prop :=
 ∃ v H',s'.os = s.os ∧ AllBare s'.gens ∧ Un (frs outer) [] H H' s.heap s'.heap ∧ HOk P w H' s'.heap ∧ RelV v u ∧ Q v H'
noncomputable def CR (CX : CXT) (outer : List Env) (P : Program) (w : World) (H : Hp) (s : Shared) (Q : VK) (E : XK) (r : Result) (s' : Shared) : Prop :=
 match r with
 | .ok (.ret u) => CE outer P w H s Q u s'
 | .ok _ => False
 | .error e => CX outer H s E e s'
structure FnOk (P : Program) (w : World) (K : W.Frag) (mg : Str → Option Value) (base : Heap) (CX : CXT) (k : Nat) (f : Addr) (fd : FuncData) (ps : List Str) (sp : Sp) : Prop where
 len : ∀ vs H Q E,sp vs H Q E → vs.length = ps.length
 run : ∀ (A : Around) (outer : List Env) (s : Shared) (H : Hp) (args : Args) (us : List Value) (vs : List V) (Q : VK) (E : XK),Room k A → Env0 P w K mg base A outer s H → BindsTo s fd args (ps.zip us) → Vals vs us → sp vs H Q E →
  codeAny (model P w) A (.call (.ref f) args) (CR CX outer P w H s Q E) s
theorem FnOk.imp {P : Program} {w : World} {K : W.Frag} {mg : Str → Option Value} {base : Heap} {CX : CXT} {k : Nat} {f : Addr} {fd : FuncData} {ps : List Str} {sp sp' : Sp} (F : FnOk P w K mg base CX k f fd ps sp)
  (h : ∀ vs H Q E,sp' vs H Q E → sp vs H Q E) : FnOk P w K mg base CX k f fd ps sp' :=
 ⟨fun vs H Q E q => F.len vs H Q E (h _ _ _ _ q),fun A outer s H args us vs Q E hr he hb hv hs => F.run A outer s H args us vs Q E hr he hb hv (h _ _ _ _ hs)⟩
theorem Env0.make {P : Program} {w : World} {K : W.Frag} {mg : Str → Option Value} {base : Heap} {A : Around} {outer : List Env} {s : Shared} {H : Hp} (e : Env0 P w K mg base A outer s H) (C : Addr) (us : List Value) (kw : List (Str × Value)) :
  Env0 P w K mg base (A.under (.builtin "type.__call__" ⟨.ref C :: us,kw⟩)) outer s H:=⟨by first | exact e.frames | (simpa [Around.under,Code.envs,Code.isFrame,pushEnvs] using e.frames),e.mod,e.bs,e.bsz,e.funs,e.frf,e.hok,e.bare⟩
section
variable {X : Cx} {pins : List (Addr × Obj)} {σ : St} {H : Hp} {s s' : Shared}
theorem Inv.env0 (I : Inv X pins σ H s) : Env0 X.prog X.w X.K X.mg X.base X.A X.stack s H :=
 ⟨I.ok.frames,I.ok.mod,I.bs,Nat.le_trans I.ok.bsz I.sz,I.stack,I.stkFree,I.hok,I.bare⟩
theorem Inv.after {Q : VK} {u : Value} (I : Inv X pins σ H s) (h : CE X.stack X.prog X.w H s Q u s') : EP X pins σ Q u s':=by
 obtain ⟨v,H',os,bare,un,hok,r,q⟩:=h
 obtain ⟨hh,g,d,t,os'⟩:=s'
 obtain rfl : os' = s.os:=os
 exact ⟨v,H',I.call (h':=hh) (g':=g) (d':=d) (t':=t) (ch:=[]) un hok bare (fun b z => absurd z (by simp)),r,q⟩
end
noncomputable def tCall (sp : Sp) (dvs : List V) (E : XK) (t : TA) : TE:=fun σ H Q => t σ H fun vs H1 => sp (vs ++ dvs) H1 Q E
noncomputable def zid (C : Addr) (m : Str) (sp : Sp) (dvs : List V) (E : XK) (ta : TE) (t : TA) : TE:=fun σ H Q => ta σ H fun x H1 => ∃ a dx fs,x = .ref a ∧ H1 a = some (.ins C dx fs) ∧ fs.lookup m = none ∧
 t σ H1 fun vs H2 => sp (x :: (vs ++ dvs)) H2 Q E
noncomputable def tMake (C : Addr) (sp : Sp) (dvs : List V) (E : XK) (t : TA) : TE:=fun σ H Q => t σ H fun vs H1 => ∀ x dx,H1 x = none → H1 dx = none → dx ≠ x →
 sp (.ref x :: (vs ++ dvs)) (upd (upd H1 dx (.own x)) x (.ins C dx [])) (fun v H2 => v = .non ∧ Q (.ref x) H2) E
noncomputable def zcf (K : W.Frag) (fd : FuncData) (ps : List Str) (ds : List Value) : Prop :=
 ∀ (s : Shared) (us : List Value),K.In s.heap → (us ++ ds).length = ps.length → BindsTo s fd ⟨us,[]⟩ (ps.zip (us ++ ds))
theorem zcf.all {K : W.Frag} {fd : FuncData} {ps : List Str} (h : ∀ us : List Value,us.length = ps.length → bindArgs fd ⟨us,[]⟩ = pure (ps.zip us)) : zcf K fd ps []:=fun s us _ hl => by
 rw [List.append_nil] at hl ⊢
 exact .of_eq (h us hl)
noncomputable def zcd (CX : CXT) (X : Cx) (E : XK) : Prop:=∀ (pins : List (Addr × Obj)) (σ : St) (H : Hp) (s : Shared) (e : Value) (s' : Shared),Inv X pins σ H s → CX X.stack H s E e s' → X.xe e s'
section
variable {X : Cx} {CX : CXT} {k : Nat} {f C : Addr} {fd : FuncData} {ps : List Str} {sp : Sp} {dvs : List V} {ds : List Value} {E : XK} {x m : Str} {p pos apos : Pos} {e o : Expr} {es : List Expr} {ta : TE} {t : TA}
theorem ziF {pins : List (Addr × Obj)} {σ : St} {H : Hp} {s : Shared} {Q : VK} {us : List Value} {vs : List V} (F : FnOk X.prog X.w X.K X.mg X.base CX k f fd ps sp) (hr : Room k X.A) (hb : zcf X.K fd ps ds) (hd : Vals dvs ds) (hx : zcd CX X E)
  (I : Inv X pins σ H s) (r : Vals vs us) (h : sp (vs ++ dvs) H Q E) : wpAny (model X.prog X.w) X.A (call (.ref f) us) (EP X pins σ Q) X.xe s:=by
 have r2 : Vals (vs ++ dvs) (us ++ ds):=r.append hd
 have hl : (us ++ ds).length = ps.length:=by rw [← r2.length]; exact F.len _ _ _ _ h
 refine wpAny_call (codeAny_mono (F.run X.A X.stack s H ⟨us,[]⟩ (us ++ ds) (vs ++ dvs) Q E hr I.env0 (hb s us I.kIn hl) r2 h) fun r s' hq => ?_)
 cases r with
 | error e => exact hx pins σ H s e s' I hq
 | ok fl =>
  cases fl with
  | ret u => exact I.after hq
  | next => exact False.elim hq
  | brk => exact False.elim hq
  | cont => exact False.elim hq
theorem zas (F : FnOk X.prog X.w X.K X.mg X.base CX k f fd ps sp) (hr : Room k X.A) (hg : Gl X x) (hm : X.mg x = some (.ref f)) (hk : W.keepIn X.K (.ref f) = true) (hb : zcf X.K fd ps ds) (hd : Vals dvs ds) (hx : zcd CX X E)
  (ha : PA X (e :: es) t) (hdb : (x == ("__debug__" : Str)) = false:=by decide) (he : starEach (e :: es) X.env = (false,eval e X.env) :: starEach es X.env:=by rfl) (hpl : (backTo pos (starEach es X.env)).any (·.1) = false:=by rfl) :
  PE X (.Call (.Name x p) (e :: es) [] pos) (tCall sp dvs E t):=by
 intro pins s σ H Q I h
 refine wpAny_Call_Name_kw (zc2 I hg hm ?_ hdb)
 refine W.callWith_K (h₀:=X.base) I.ok.mod.kin hk (thn (ha pos pins s σ H _ I h) fun us s1 ⟨vs,H1,I1,r,q⟩ => ⟨I1.kIn,?_⟩) he hpl
 exact ziF F hr hb hd hx I1 r q
theorem zaK {pl : Sem Bool} (he : PE X o ta) (c : Cls X.K C) (hm : Meth X.K C m f) (F : FnOk X.prog X.w X.K X.mg X.base CX k f fd ps sp) (hr : Room k X.A) (hb : zcf X.K fd ps ds) (hd : Vals dvs ds) (hx : zcd CX X E) (ha : PA X (e :: es) t)
  (hst : starEach (e :: es) X.env = (false,eval e X.env) :: starEach es X.env:=by rfl) (hpl : (backTo pos (starEach es X.env)).any (·.1) = false:=by rfl)
  (ht : eval (.Call (.Attribute o m apos) (e :: es) [] pos) X.env = (do
   let ov ← eval o X.env
   standAt apos.atName
   let (f,first) ← holding [ov] (getMethod ov m pl)
   callWith pos f first (backTo pos (starEach (e :: es) X.env)) (backToKw pos (keywordEach [] X.env))):=by rfl) :
  PE X (.Call (.Attribute o m apos) (e :: es) [] pos) (zid C m sp dvs E ta t):=by
 intro pins s σ H Q I h
 refine W.methodCall_KW (pl:=pl) (thn (he pins s σ H _ I h) fun u s1 ⟨x,H1,I1,rx,a,dx,fs,ex,ea,l,q⟩ => ?_) ht
 subst ex
 obtain rfl : u = Value.ref a:=rx
 refine zec I1 ea c hm l ?_
 refine W.callWith_K (first:=[.ref a]) (h₀:=X.base) I.ok.mod.kin hm.kp (thn (ha pos pins s1 σ H1 _ I1 q) fun us s2 ⟨vs,H2,I2,r,q2⟩ => ⟨I2.kIn,?_⟩) hst hpl
 exact ziF (us:=.ref a :: us) (vs:=.ref a :: vs) F hr hb hd hx I2 (.cons rfl r) q2
theorem zbC {pl : Sem Bool} (he : PE X o ta) (c : Cls X.K C) (hm : Meth X.K C m f) (F : FnOk X.prog X.w X.K X.mg X.base CX k f fd ps sp) (hr : Room k X.A) (hb : zcf X.K fd ps ds) (hd : Vals dvs ds) (hx : zcd CX X E)
  (ht : eval (.Call (.Attribute o m apos) [] [] pos) X.env = (do
   let ov ← eval o X.env
   standAt apos.atName
   let (f,first) ← holding [ov] (getMethod ov m pl)
   callWith pos f first (backTo pos (starEach [] X.env)) (backToKw pos (keywordEach [] X.env))):=by rfl) :
  PE X (.Call (.Attribute o m apos) [] [] pos) (zid C m sp dvs E ta tNil):=by
 intro pins s σ H Q I h
 refine W.methodCall_KW (pl:=pl) (thn (he pins s σ H _ I h) fun u s1 ⟨x,H1,I1,rx,a,dx,fs,ex,ea,l,q⟩ => ?_) ht
 subst ex
 obtain rfl : u = Value.ref a:=rx
 refine zec I1 ea c hm l ?_
 exact W.callWith_K0 (first:=[.ref a]) I1.kIn hm.kp (ziF (us:=[.ref a]) (vs:=[.ref a]) F hr hb hd hx I1 (.cons rfl .nil) q)
structure Mk (K : W.Frag) (C f : Addr) : Prop where
 makes : W.makesIn K C = true
 init : W.findIn K (.ref C) "__init__" = some (some (.ref f))
 fn : W.isFn K (.ref f) = true
 kp : W.keepIn K (.ref C) = true
theorem zgZ {pins : List (Addr × Obj)} {σ : St} {H : Hp} {s : Shared} {Q : VK} {us : List Value} {vs : List V} (M : Mk X.K C f) (F : FnOk X.prog X.w X.K X.mg X.base CX k f fd ps sp) (hr : Room (k + 1) X.A) (hb : zcf X.K fd ps ds) (hd : Vals dvs ds)
  (hx : zcd CX X E) (I : Inv X pins σ H s) (r : Vals vs us)
  (h : ∀ x dx,H x = none → H dx = none → dx ≠ x → sp (.ref x :: (vs ++ dvs)) (upd (upd H dx (.own x)) x (.ins C dx [])) (fun v H2 => v = .non ∧ Q (.ref x) H2) E) :
  wpAny (model X.prog X.w) X.A (call (.ref C) us) (EP X pins σ Q) X.xe s:=by
 have hq:=h (s.heap.objs.size + 1) s.heap.objs.size (I.hok.fresh (Nat.le_succ _)) (I.hok.fresh (Nat.le_refl _)) (Nat.ne_of_lt (Nat.lt_succ_self _))
 have I2:=Inv.made (C:=C) I
 have r2 : Vals (V.ref (s.heap.objs.size + 1) :: (vs ++ dvs)) (Value.ref (s.heap.objs.size + 1) :: (us ++ ds)):=.cons rfl (r.append hd)
 have hl : (Value.ref (s.heap.objs.size + 1) :: us ++ ds).length = ps.length:=by
  have e:=r2.length
  rw [F.len _ _ _ _ hq] at e
  exact e.symm
 refine wpAny_call (make_map (f:=f) I.kIn M.makes M.init (beq_iff_eq.mp M.fn) (codeAny_mono (F.run _ X.stack _ _ ⟨Value.ref (s.heap.objs.size + 1) :: us,[]⟩ (Value.ref (s.heap.objs.size + 1) :: (us ++ ds)) _ _ E (hr.make C us [])
  (I2.env0.make C us []) (hb _ (Value.ref (s.heap.objs.size + 1) :: us) I2.kIn hl) r2 hq) fun r s' hq' => ?_))
 cases r with
 | error e => exact hx pins σ _ _ e s' I2 hq'
 | ok fl =>
  cases fl with
  | ret u =>
   obtain ⟨v,H',I3,rv,ev,q3⟩:=I2.after hq'
   subst ev
   exact ⟨rv,⟨V.ref (s.heap.objs.size + 1),H',I3,rfl,q3⟩⟩
  | next => exact False.elim hq'
  | brk => exact False.elim hq'
  | cont => exact False.elim hq'
theorem ziP (M : Mk X.K C f) (F : FnOk X.prog X.w X.K X.mg X.base CX k f fd ps sp) (hr : Room (k + 1) X.A) (hg : Gl X x) (hm : X.mg x = some (.ref C)) (hb : zcf X.K fd ps ds) (hd : Vals dvs ds) (hx : zcd CX X E)
  (ha : PA X (e :: es) t) (hdb : (x == ("__debug__" : Str)) = false:=by decide) (he : starEach (e :: es) X.env = (false,eval e X.env) :: starEach es X.env:=by rfl) (hpl : (backTo pos (starEach es X.env)).any (·.1) = false:=by rfl) :
  PE X (.Call (.Name x p) (e :: es) [] pos) (tMake C sp dvs E t):=by
 intro pins s σ H Q I h
 refine wpAny_Call_Name_kw (zc2 I hg hm ?_ hdb)
 refine W.callWith_K (h₀:=X.base) I.ok.mod.kin M.kp (thn (ha pos pins s σ H _ I h) fun us s1 ⟨vs,H1,I1,r,q⟩ => ⟨I1.kIn,?_⟩) he hpl
 exact zgZ M F hr hb hd hx I1 r q
theorem zg7 (M : Mk X.K C f) (F : FnOk X.prog X.w X.K X.mg X.base CX k f fd ps sp) (hr : Room (k + 1) X.A) (hg : Gl X x) (hm : X.mg x = some (.ref C)) (hb : zcf X.K fd ps ds) (hd : Vals dvs ds) (hx : zcd CX X E)
  (hdb : (x == ("__debug__" : Str)) = false:=by decide) : PE X (.Call (.Name x p) [] [] pos) (tMake C sp dvs E tNil):=by
 intro pins s σ H Q I h
 refine wpAny_Call_Name_kw (zc2 I hg hm ?_ hdb)
 exact W.callWith_K0 I.kIn M.kp (zgZ (us:=[]) M F hr hb hd hx I .nil h)
end
section
variable {X : Cx} {CX : CXT} {k : Nat} {f C : Addr} {fd : FuncData} {ps ks : List Str} {sp : Sp} {E : XK} {x m : Str} {p pos apos kpos : Pos} {e o : Expr} {es : List Expr} {kws : List Keyword} {te ta : TE} {t tk : TA} {nm : Option Str}
variable {g : List Value → List Value → List Value} {gV : List V → List V → List V}
end
structure FnScope (N P : List Str) (sc : Scope) : Prop where
 kind : sc.kind = .function
 co : sc.isCoroutine = false
 gen : sc.isGenerator = false
 nd : N.Nodup
 pre : N.take P.length = P
 par : ∀ x ∈ P,sc.names.lookup x = some .local ∨ sc.names.lookup x = some .cell
 nofree : ∀ y ∈ sc.names,y.2 ≠ .free
theorem zf9 {kindOf : Str → Option NameKind} {x : Str} : ∀ {binds : List (Str × Value)} {m : Str → Option Value},(∀ v,(x,v) ∉ binds) → bindL kindOf binds m x = m x
 | [],_,_ => rfl
 | (n,v) :: r,m,h => by
  unfold bindL
  rw [zf9 fun w hw => h w (List.mem_cons_of_mem _ hw)]
  split
  ·have : x ≠ n:=by rintro rfl; exact h v List.mem_cons_self
   simp [this]
  ·rfl
theorem zgb {kindOf : Str → Option NameKind} {x : Str} : ∀ {binds : List (Str × Value)} {m : Str → Option Value},(∀ v,(x,v) ∉ binds) → bindC kindOf binds m x = m x
 | [],_,_ => rfl
 | (n,v) :: r,m,h => by
  unfold bindC
  rw [zgb fun w hw => h w (List.mem_cons_of_mem _ hw)]
  split
  ·rfl
  ·have : x ≠ n:=by rintro rfl; exact h v List.mem_cons_self
   simp [this]
theorem zga {kindOf : Str → Option NameKind} {x : Str} {v : Value} : ∀ {P : List Str} {vs : List Value} {i : Nat} {m : Str → Option Value},P.Nodup → P[i]? = some x → vs[i]? = some v → kindOf x = some .local →
  bindL kindOf (P.zip vs) m x = some v
 | [],_,_,_,_,h,_,_ => by simp at h
 | _ :: _,[],_,_,_,_,h,_ => by simp at h
 | p :: P,w :: vs,0,m,nd,h1,h2,hk => by
  simp at h1 h2; subst h1; subst h2
  show bindL kindOf ((p,w) :: P.zip vs) m p = _
  unfold bindL
  rw [zf9 fun v hv => (List.nodup_cons.mp nd).1 (List.of_mem_zip hv).1,if_pos hk]
  simp
 | p :: P,w :: vs,i + 1,m,nd,h1,h2,hk => by
  show bindL kindOf ((p,w) :: P.zip vs) m x = _
  unfold bindL
  exact zga (i:=i) (List.nodup_cons.mp nd).2 (by simpa using h1) (by simpa using h2) hk
theorem zgc {kindOf : Str → Option NameKind} {x : Str} {v : Value} : ∀ {P : List Str} {vs : List Value} {i : Nat} {m : Str → Option Value},P.Nodup → P[i]? = some x → vs[i]? = some v → kindOf x ≠ some .local →
  bindC kindOf (P.zip vs) m x = some v
 | [],_,_,_,_,h,_,_ => by simp at h
 | _ :: _,[],_,_,_,_,h,_ => by simp at h
 | p :: P,w :: vs,0,m,nd,h1,h2,hk => by
  simp at h1 h2; subst h1; subst h2
  show bindC kindOf ((p,w) :: P.zip vs) m p = _
  unfold bindC
  rw [zgb fun v hv => (List.nodup_cons.mp nd).1 (List.of_mem_zip hv).1,if_neg hk]
  simp
 | p :: P,w :: vs,i + 1,m,nd,h1,h2,hk => by
  show bindC kindOf ((p,w) :: P.zip vs) m x = _
  unfold bindC
  exact zgc (i:=i) (List.nodup_cons.mp nd).2 (by simpa using h1) (by simpa using h2) hk
noncomputable def zen (N : List Str) (vs : List V) : St:=vs.map some ++ List.replicate (N.length - vs.length) none
noncomputable def cxOf (CX : CXT) (P : Program) (w : World) (K : W.Frag) (mg : Str → Option Value) (base : Heap) (N : List Str) (qual : Str) (scope : Scope) (f : Addr) (cd : Value) (A : Around) (outer : List Env) (s : Shared) (H : Hp) (E : XK) : Cx where
 prog:=P
 w:=w
 K:=K
 mg:=mg
 base:=base
 A:=A.deeper (envOfC qual scope s.heap.objs.size f cd)
 N:=N
 s₀:=s
 H₀:=H
 env:=envOfC qual scope s.heap.objs.size f cd
 outer:=outer
 stack:=envOfC qual scope s.heap.objs.size f cd :: outer
 ex:=[]
 calm:=true
 fn:=fun _ => true
 pn:=[]
 xe:=fun e s' => wpAny (model P w) (A.deeper (envOfC qual scope s.heap.objs.size f cd)) (leaving (envOfC qual scope s.heap.objs.size f cd) e) (fun _ s'' => CX outer H s E e s'') (fun e' s'' => CX outer H s E e' s'') s'
theorem zhw {sc : Scope} {n : Nat} {x : Str} (h : sc.names.lookup x = some .cell) : ∃ c,(cellsFrom n sc.names []).lookup x = some c:=by
 have q:=W.cellsFrom_some sc.names n [] (.inl h)
 exact Option.isSome_iff_exists.mp q
theorem zjt {CX : CXT} {P : Program} {w : World} {K : W.Frag} {mg : Str → Option Value} {base : Heap} {N ps : List Str} {qual : Str} {scope : Scope} {f : Addr} {cd : Value} {A : Around} {outer : List Env} {s s1 : Shared} {H : Hp} {E : XK} {us : List Value} {vs : List V}
  (S : FnScope N ps scope) (hd : A.handled = none) (e0 : Env0 P w K mg base A outer s H) (hl : vs.length = ps.length) (r : Vals vs us)
  (x : InCallC s s.heap.objs.size (bindL (envOfC qual scope s.heap.objs.size f cd).kindOf (ps.zip us) fun _ => none) (cellsFrom (s.heap.objs.size + 1) scope.names []) (bindC (envOfC qual scope s.heap.objs.size f cd).kindOf (ps.zip us) fun _ => none) s1) :
  Inv (cxOf CX P w K mg base N qual scope f cd A outer s H E) [] (zen N vs) H s1:=by
 have hpl : ps.length ≤ N.length:=by have:=congrArg List.length S.pre; rw [List.length_take] at this; omega
 obtain ⟨h1,tk,rfl,hk⟩:=x.done
 have noA : ∀ b : Addr,b ∉ (cxOf CX P w K mg base N qual scope f cd A outer s H E).ex:=fun b z => absurd (show b ∈ ([] : List Addr) from z) (by simp)
 refine ⟨⟨e0.mod,S.kind,rfl,rfl,Nat.le_refl _,fun y z c h1 h2 => ?_,fun y hy => ?_,fun y c _ h => ?_,fun _ => hd,Around.frames_deeper e0.frames,.inr ⟨rfl,rfl⟩,fun b z => absurd z (noA b),e0.bs,e0.bsz,fun b _ _ => noA b,fun b z => absurd z (noA b),e0.funs,e0.frf⟩,
  rfl,e0.bare,Un.kept hk,⟨_,x.toInCall.ns,fun i y v h1 h2 h3 => ?_⟩,fun y c h => ⟨_,x.cell y c h⟩,e0.hok.fresh (Nat.le_refl _),fun y c h => ?_,fun p hp => absurd (show p ∈ ([] : List (Addr × Obj)) from hp) (by simp),e0.hok.kept hk,?_⟩
 ·exact name_of_addr x.apart (PySem.mem_of_lookup h1) (PySem.mem_of_lookup h2)
 ·have hy : scope.names.lookup y = some .cell ∨ scope.names.lookup y = some .free:=hy
  rcases hy with hy | hy
  ·exact zhw hy
  ·exact absurd rfl (S.nofree _ (PySem.mem_of_lookup hy))
 ·exact Nat.le_of_lt (x.above y c (PySem.mem_of_lookup h))
 ·have hi : i < vs.length:=by
   unfold zen at h2
   by_cases hi : i < vs.length
   ·exact hi
   ·rw [List.getElem?_append_right (by simpa using hi)] at h2
    rw [List.getElem?_replicate] at h2
    split at h2 <;> cases h2
  have ha : vs[i]? = some v:=by
   unfold zen at h2
   rw [List.getElem?_append_left (by simpa using hi),List.getElem?_map] at h2
   cases e : vs[i]? with
   | none => rw [e] at h2; cases h2
   | some a => rw [e] at h2; cases h2; rfl
  obtain ⟨u,hu,rv⟩:=r.get ha
  have hp : ps[i]? = some y:=by
   rw [← S.pre,List.getElem?_take_of_lt (by omega)]; exact h1
  have ndP : ps.Nodup:=by rw [← S.pre]; exact S.nd.sublist (List.take_sublist _ _)
  refine ⟨u,rv,?_⟩
  rcases S.par y (List.mem_of_getElem? hp) with k | k
  ·exact .inl ⟨k,zga ndP hp hu k⟩
  ·obtain ⟨c,e⟩:=zhw (n:=s.heap.objs.size + 1) k
   refine .inr ⟨.inl k,c,e,?_⟩
   have q:=x.cell y c e
   rw [zgc ndP hp hu (by show scope.names.lookup y ≠ _; rw [k]; decide)] at q
   exact q
 ·exact e0.hok.fresh (Nat.le_of_lt (x.above y c (PySem.mem_of_lookup h)))
 ·unfold zen
  show _ = N.length
  rw [List.length_append,List.length_map,List.length_replicate]
  omega
theorem fn_of {CX : CXT} {P : Program} {w : World} {K : W.Frag} {mg : Str → Option Value} {base : Heap} {k : Nat} {f : Addr} {name qual : Str} {params : Arguments} {body : List Stmt} {scope : Scope} {dV kV doc pm cdv ct oc : Value} {an od : Option Addr}
  {osl : Array (Option Value)} {N ps : List Str} {sp : Sp} (lk : K.lookup f = some ⟨oc,od,.func (W.fnOf name qual params body scope dV kV doc pm an cdv ct),osl⟩) (hcd : W.codeIn K cdv qual = true) (S : FnScope N ps scope)
  (len : ∀ vs H Q E,sp vs H Q E → vs.length = ps.length)
  (hbody : ∀ (A : Around) (outer : List Env) (s : Shared) (H : Hp) (vs : List V) (Q : VK) (E : XK),Room k (A.deeper (envOfC qual scope s.heap.objs.size f cdv)) → sp vs H Q E →
   ∃ t,PSs (cxOf CX P w K mg base N qual scope f cdv A outer s H E) body t ∧ t { nx:=fun _ H' => Q .non H',rt:=Q } (zen N vs) H) :
  FnOk P w K mg base CX (k + 1) f (W.fnOf name qual params body scope dV kV doc pm an cdv ct) ps sp:=by
 refine ⟨len,fun A outer s H args us vs Q E hr e0 hb r hsp => ?_⟩
 have hl:=len _ _ _ _ hsp
 have KX : K.In s.heap:=e0.mod.kin.keeps fun b o e => (e0.bs b o e).1
 have lim : s.heap.NoLimit:=e0.mod.nolimit.keeps fun b o e => (e0.bs b o e).1
 have hkind : ∀ y ∈ ps.zip us,scope.names.lookup y.1 = some .local ∨ (scope.names.lookup y.1 = some .cell ∧ ((cellsFrom (s.heap.objs.size + 1) scope.names []).lookup y.1).isSome = true):=fun ⟨n,v⟩ hy => by
  rcases S.par n (List.of_mem_zip hy).1 with q | q
  ·exact .inl q
  ·exact .inr ⟨q,W.cellsFrom_some _ _ _ (.inl q)⟩
 refine codeAny_call_function hr.depth (KX _ _ lk) rfl S.co S.gen rfl (W.codeRec_of KX hcd) (hb _ _ _ _ ?_)
 refine wpAny_newFunctionEnv_cells S.kind hkind fun env he s1 x => ?_
 subst he
 refine ⟨lim.keeps x.toInCall.keep,codeAny_func ?_⟩
 obtain ⟨t,ht,hq⟩:=hbody A outer s H vs Q E (hr.deeper _) hsp
 have I : Inv (cxOf CX P w K mg base N qual scope f cdv A outer s H E) [] (zen N vs) H s1:=zjt S hr.hd e0 hl r x
 refine wpAny_mono (ht [] s1 (zen N vs) H _ I hq) (fun fl s' hs => ?_) fun e s' hs => hs
 have fin : ∀ {σ' : St} {H' : Hp} {v : V} {u : Value},Inv (cxOf CX P w K mg base N qual scope f cdv A outer s H E) [] σ' H' s' → RelV v u → Q v H' → CE outer P w H s Q u s' :=
  fun {σ' H' v u} J rv q => ⟨v,H',J.os,J.bare,J.base,J.hok,rv,q⟩
 cases fl with
 | ret u =>
  obtain ⟨v,σ',H',J,rv,q⟩:=hs
  exact fin J rv q
 | next =>
  obtain ⟨σ',H',J,q⟩:=hs
  exact fin (v:=V.non) (u:=Value.none) J rfl q
 | brk =>
  obtain ⟨_,_,_,q⟩:=hs
  exact False.elim q
 | cont =>
  obtain ⟨_,_,_,q⟩:=hs
  exact False.elim q
end L2
namespace L2
open PySem PySem.Spec PyProof.Rows
section
variable {X : Cx} {x : Str} {p pos : Pos} {e : Expr} {es : List Expr} {t : TA} {id T : String} {r : List V → Hp → VK → Prop}
noncomputable def tCB (r : List V → Hp → VK → Prop) (t : TA) : TE:=fun σ H Q => t σ H fun vs H1 => r vs H1 Q
theorem zaE (hc : zce X (.builtin id) r) (hg : Gl X x) (hm : X.mg x = none) (hv : bootBuiltins x = some (.builtin id)) (ha : PA X (e :: es) t) (hn : x ≠ "__name__":=by decide) (hdb : (x == ("__debug__" : Str)) = false:=by decide)
  (he : starEach (e :: es) X.env = (false,eval e X.env) :: starEach es X.env:=by rfl) (hpl : (backTo pos (starEach es X.env)).any (·.1) = false:=by rfl) : PE X (.Call (.Name x p) (e :: es) [] pos) (tCB r t):=by
 intro pins s σ H Q I h
 refine wpAny_Call_Name_kw (zfG I hg hm hv ?_ hn hdb)
 exact PyProof.Rows.callWith_builtin1 (thn (ha pos pins s σ H _ I h) fun us s1 ⟨vs,H1,I1,r1,q1⟩ => hc pins s1 σ H1 vs us Q I1 r1 q1) he hpl
theorem zb5 (hc : zce X (.type T) r) (hg : Gl X x) (hm : X.mg x = none) (hv : bootBuiltins x = some (.type T)) (ha : PA X (e :: es) t) (hn : x ≠ "__name__":=by decide) (hdb : (x == ("__debug__" : Str)) = false:=by decide)
  (he : starEach (e :: es) X.env = (false,eval e X.env) :: starEach es X.env:=by rfl) (hpl : (backTo pos (starEach es X.env)).any (·.1) = false:=by rfl) : PE X (.Call (.Name x p) (e :: es) [] pos) (tCB r t):=by
 intro pins s σ H Q I h
 refine wpAny_Call_Name_kw (zfG I hg hm hv ?_ hn hdb)
 exact PyProof.Rows.callWith_type1 (thn (ha pos pins s σ H _ I h) fun us s1 ⟨vs,H1,I1,r1,q1⟩ => hc pins s1 σ H1 vs us Q I1 r1 q1) he hpl
end
end L2
namespace HT
open PySem PyProof.Rows
noncomputable def lexLt : List Int → List Int → Bool
 | [],[] => false
 | [],_ :: _ => true
 | _ :: _,[] => false
 | x :: xs,y :: ys => if x = y then lexLt xs ys else decide (x < y)
theorem lexLt_cons (x y : Int) (xs ys : List Int) : lexLt (x :: xs) (y :: ys) = if x = y then lexLt xs ys else decide (x < y):=rfl
theorem lexLt_nil_nil : lexLt [] [] = false:=rfl
theorem zdZ (y : Int) (ys : List Int) : lexLt [] (y :: ys) = true:=rfl
theorem zd0 (x : Int) (xs : List Int) : lexLt (x :: xs) [] = false:=rfl
theorem eqAt_int (A : Around) (s : Shared) (a : Int) (t : Tok) (c : Int) (u : Tok) : ∃ e,SeqAt.EqAt A s (.int a t) (.int c u) e ∧ (e = true ↔ a = c) :=
 ⟨(a == c),SeqAt.EqAt.int_int a t c u,by simp⟩
theorem rcLt_int (A : Around) (s : Shared) (a : Int) (t : Tok) (c : Int) (u : Tok) (prog : Program) (w : World) (E : Value → Shared → Prop) (Q : Value → Shared → Prop) (h : Q (.bool (decide (a < c))) s) :
  wpAny (model prog w) A (richCompare .Lt (.int a t) (.int c u)) Q E s :=
 (PyProof.Rows.lt_int h : wpAny (model prog w) A (compareOp .Lt (.int a t) (.int c u)) Q E s)
section
open PySem.SeqAt
open PySem.AutoSeq1 (wpAny_loadPart')
open PySem.MeetsSeq PySem.MeetsSeq2 PySem.MeetsSeq3
theorem zel (l b : Addr) (items items2 : Array Value) (n n2 : Nat) (dd dd2 : Option Addr) (sl sl2 : Array (Option Value)) (ns ms : List Int) (hi : IntsAre items.toList ns) (hj : IntsAre items2.toList ms) :
  Meets (Builtin.«tuple.__lt__» ⟨[.ref l,.ref b],[]⟩)
   (fun _ R s => s.heap.get? l = some { cls:=.type "tuple",dict:=dd,data:=.seq items n,slots:=sl } ∧ s.heap.get? b = some { cls:=.type "tuple",dict:=dd2,data:=.seq items2 n2,slots:=sl2 } ∧
    R (.ok (.ret (.bool (lexLt ns ms)))) s) :=
 .of_wp fun prog w A R s h => by
  obtain ⟨hp,g,d,tk,os⟩:=s; obtain ⟨hl,hb,h⟩:=h
  have f2:=AutoSeq1.sub_tuple_tuple
  have z1 : items.size = ns.length:=by rw [← hi.length]; simp
  have z2 : items2.size = ms.length:=by rw [← hj.length]; simp
  wp_walk using wpAny_loadPart' hl,wpAny_loadPart' hb,wpAny_forIn_list _ (fun rest b s' => b.1 = none ∧ s' = ⟨hp,g,d,tk,os⟩ ∧ ∃ (vs ws : List Value) (ns' ms' : List Int),rest = vs.zip ws ∧
   IntsAre vs ns' ∧ IntsAre ws ms' ∧ ns'.length + items2.size = ms'.length + items.size ∧ R (.ok (.ret (.bool (lexLt ns' ms')))) ⟨hp,g,d,tk,os⟩) _
  case turn =>
   rintro ⟨y,x⟩ rest b s' ⟨hb',rfl,vs,ws,ns',ms',hz,hvi,hwi,hlen,hR⟩
   cases hvi with
   | nil => rw [List.zip_nil_left] at hz; cases hz
   | cons a t hvi' =>
    cases hwi with
    | nil => rw [List.zip_nil_right] at hz; cases hz
    | cons c u hwi' =>
     rw [List.zip_cons_cons] at hz
     injection hz with hyx hrest
     injection hyx with hy hx
     subst hy hx
     rw [lexLt_cons] at hR
     simp only [List.length_cons] at hlen
     obtain ⟨e,he,hiff⟩:=eqAt_int A.in1 ⟨hp,g,d,tk,os⟩ a t c u
     refine wpAny_bind (he prog w _ _ ?_)
     cases e with
     | true =>
      rw [if_pos (hiff.mp rfl)] at hR
      wp_walk
      exact ⟨rfl,rfl,_,_,_,_,hrest,hvi',hwi',by omega,hR⟩
     | false =>
      rw [if_neg (fun q => absurd (hiff.mpr q) Bool.false_ne_true)] at hR
      have hri:=rcLt_int A.in1 ⟨hp,g,d,tk,os⟩ a t c u prog w
      wp_walk using hri
      exact ⟨_,rfl,by simpa using hR⟩
  case fin =>
   rintro ⟨b1,b2⟩ s' ⟨hb',rfl,vs,ws,ns',ms',hz,hvi,hwi,hlen,hR⟩
   simp only at hb'
   subst hb'
   have hv : lexLt ns' ms' = decide (items.size < items2.size):=by
    cases hvi with
    | nil =>
     cases hwi with
     | nil =>
      simp only [List.length_nil] at hlen
      rw [lexLt_nil_nil]
      exact (decide_eq_false (by omega)).symm
     | cons c u hw =>
      simp only [List.length_nil,List.length_cons] at hlen
      rw [zdZ]
      exact (decide_eq_true (by omega)).symm
    | cons a t hv =>
     cases hwi with
     | nil =>
      simp only [List.length_nil,List.length_cons] at hlen
      rw [zd0]
      exact (decide_eq_false (by omega)).symm
     | cons c u hw =>
      rw [List.zip_cons_cons] at hz
      cases hz
   rw [hv] at hR
   wp_walk
   exact ⟨_,rfl,by simpa [Builtin.Tuple.tupleCompareSizes] using hR⟩
  case h =>
   exact ⟨rfl,rfl,items.toList,items2.toList,ns,ms,rfl,hi,hj,by omega,h⟩
end
section
variable {prog : Program} {w : World} {A : Around} {E : Value → Shared → Prop} {s : Shared}
theorem lt_tupInts {l b : Addr} {items items2 : Array Value} {ns ms : List Int} {Q : Value → Shared → Prop} (hl : IsTup s.heap l items) (hb : IsTup s.heap b items2) (hi : IntsAre items.toList ns) (hj : IntsAre items2.toList ms)
  (hu : A.units < cLine) (h : Q (.bool (lexLt ns ms)) s) : wpAny (model prog w) A (compareOp .Lt (.ref l) (.ref b)) Q E s:=by
 obtain ⟨⟨cls,dd,data,sl⟩,ho,hc,n,hd⟩:=id hl
 obtain ⟨⟨cls2,dd2,data2,sl2⟩,ho2,hc2,n2,hd2⟩:=id hb
 simp only at hc hd hc2 hd2
 subst hc hd hc2 hd2
 exact richCompare_meets_room (op:=.Lt) ⟨_,ho,rfl⟩ ⟨_,ho2,rfl⟩ PySem.F.slot_tuple_lt PySem.F.entry_tuple_lt (PySem.F.args_tuple_lt_2 _ _) (zel l b items items2 n n2 dd dd2 sl sl2 ns ms hi hj)
  ⟨ho,ho2,show Value.bool (lexLt ns ms) ≠ Value.notImplemented ∧ Q (.bool (lexLt ns ms)) s from ⟨(fun x => nomatch x),h⟩⟩ hu
end
end HT
namespace L2
open PySem PySem.Spec PyProof.Rows
theorem zbr {ns : List Int} : ∀ {us : List Value},Vals (ns.map V.int) us → IntsAre us ns:=by
 induction ns with
 | nil => intro us r; rw [List.map_nil] at r; cases r; exact .nil
 | cons n ns ih =>
  intro us r
  rw [List.map_cons] at r
  cases r with
  | cons r1 r2 =>
   obtain ⟨t,e⟩:=r1
   subst e
   exact .cons n t (ih r2)
section
variable {X : Cx} {e : Expr} {te : TE} {lo hi : Option Expr} {tl th : TO} {pos p2 : Pos}
noncomputable def rLtT (K : W.Frag) : R2:=fun x y H Q => ∃ a b ns ms,x = .ref a ∧ y = .ref b ∧ SqT K H a (ns.map V.int) ∧ SqT K H b (ms.map V.int) ∧ Q (.bl (HT.lexLt ns ms)) H
theorem op_ltT (hu : X.A.units < cLine) : OpR X (compareOp .Lt) (rLtT X.K):=by
 intro pins s σ H x y v u Q I rx ry h
 obtain ⟨a,b,ns,ms,rfl,rfl,ha,hb,q⟩:=h
 cases rx
 cases ry
 obtain ⟨its,r1,p1,_⟩:=I.tuple ha
 obtain ⟨its2,r2,p2,_⟩:=I.tuple hb
 have i1 : IntsAre its.toArray.toList ns:=zbr r1
 have i2 : IntsAre its2.toArray.toList ms:=zbr r2
 exact HT.lt_tupInts p1 p2 i1 i2 hu ⟨.bl (HT.lexLt ns ms),H,I,rfl,q⟩
end
end L2
namespace L2
open PySem PySem.Spec PyProof.Rows
noncomputable def ixN (n : Nat) (i : Int) : Option Nat:=if 0 ≤ i then (if i < n then some i.toNat else none) else if -(n : Int) ≤ i then some (i + n).toNat else none
noncomputable def atI {α : Type} (xs : List α) (i : Int) : Option α:=(ixN xs.length i).bind fun j => xs[j]?
theorem zjr {n : Nat} {i : Int} {j : Nat} (h : ixN n i = some j) : seqIndex? i n = some j ∧ j < n ∧ -(n : Int) ≤ i ∧ i < n:=by
 unfold ixN at h
 by_cases h0 : 0 ≤ i
 ·rw [if_pos h0] at h
  by_cases h1 : i < n
  ·rw [if_pos h1] at h
   have e : i.toNat = j:=Option.some.inj h
   exact ⟨by rw [seqIndex_of h0 h1,e],by omega,by omega,h1⟩
  ·rw [if_neg h1] at h; cases h
 ·rw [if_neg h0] at h
  by_cases h1 : -(n : Int) ≤ i
  ·rw [if_pos h1] at h
   have e : (i + n).toNat = j:=Option.some.inj h
   exact ⟨by rw [seqIndex_neg (by omega) h1,e],by omega,h1,by omega⟩
  ·rw [if_neg h1] at h; cases h
theorem zj9 {α : Type} {xs : List α} {i : Int} {v : α} (h : atI xs i = some v) : ∃ j,seqIndex? i xs.length = some j ∧ xs[j]? = some v ∧ j < xs.length ∧ -(xs.length : Int) ≤ i ∧ i < xs.length:=by
 unfold atI at h
 cases e : ixN xs.length i with
 | none => rw [e] at h; cases h
 | some j =>
  rw [e] at h
  obtain ⟨h1,h2,h3,h4⟩:=zjr e
  exact ⟨j,h1,h,h2,h3,h4⟩
theorem zaj {α : Type} {xs : List α} {j : Nat} {v : α} (h : xs[j]? = some v) : atI xs (j : Int) = some v:=by
 have hj : j < xs.length:=(List.getElem?_eq_some_iff.mp h).1
 have e : ixN xs.length (j : Int) = some j:=by
  unfold ixN
  rw [if_pos (by omega),if_pos (by omega)]; simp
 unfold atI; rw [e]; exact h
noncomputable def PlainIx (b : Expr) : Prop:=∀ o i,subscripted b false o i = operate [o,i] (getItem o i)
noncomputable def IxR (X : Cx) (r : R2) : Prop :=
 ∀ (value slice : Expr) (pins : List (Addr × Obj)) (s : Shared) (σ : St) (H : Hp) (x y : V) (v u : Value) (Q : VK),Inv X pins σ H s → RelV x v → RelV y u → r x y H Q →
  subscripted slice false v u = operate [v,u] (getItem v u) → wpAny (model X.prog X.w) X.A (subscriptTail value slice v u) (EP X pins σ Q) X.xe s
noncomputable def MtR (X : Cx) (id : String) (r : V → List V → Hp → VK → Prop) : Prop :=
 ∀ (pins : List (Addr × Obj)) (s : Shared) (σ : St) (H : Hp) (x : V) (xs : List V) (v : Value) (us : List Value) (Q : VK),Inv X pins σ H s → RelV x v → Vals xs us → r x xs H Q →
  wpAny (model X.prog X.w) X.A (call (.builtin id) (v :: us)) (EP X pins σ Q) X.xe s
section
variable {X : Cx} {a b : Expr} {ta tb : TE} {pos : Pos}
theorem zaB {r : R2} (hr : IxR X r) (ha : PE X a ta) (hb : PE X b tb) (hs : PlainIx b) : PE X (.Subscript a b pos) (tOp r ta tb):=by
 intro pins s σ H Q I h
 exact Subscript_ (binT ha hb I h fun v u s2 x y H2 I2 rx ry q => hr a b pins s2 σ H2 x y v u Q I2 rx ry q (hs _ _))
noncomputable def rIxL (K : W.Frag) : R2:=fun x y H Q => ∃ p xs i v,x = .ref p ∧ y = .int i ∧ SqL K H p xs ∧ atI xs i = some v ∧ Q v H
noncomputable def rIxT (K : W.Frag) : R2:=fun x y H Q => ∃ p xs i v,x = .ref p ∧ y = .int i ∧ SqT K H p xs ∧ atI xs i = some v ∧ Q v H
theorem zbe : IxR X (rIxL X.K):=by
 intro value slice pins s σ H x y v u Q I rx ry h hs
 obtain ⟨p,xs,i,z,rfl,rfl,hq,he,q⟩:=h
 cases rx
 obtain ⟨t,rfl⟩:=ry
 obtain ⟨its,r,pl,hz⟩:=I.list hq
 obtain ⟨j,h1,h2,h3,h4,h5⟩:=zj9 he
 obtain ⟨w,ew,rw'⟩:=r.get h2
 have hl:=r.length
 have hn:=zhf
 have fin : EP X pins σ Q w s:=⟨z,H,I,rw',q⟩
 by_cases h0 : 0 ≤ i
 ·have hj : i.toNat = j:=by
   rw [seqIndex_of h0 h5] at h1
   exact Option.some.inj h1
  exact item_listR pl.isList h0 (by omega) (by rw [hj]; simpa using ew) fin hs
 ·have hj : (i + (its.toArray.size : Int)).toNat = j:=by
   rw [seqIndex_neg (by omega) h4] at h1
   rw [List.size_toArray,← hl]
   exact Option.some.inj h1
  exact subscriptTail_builtinR (x:=w) pl.isList.typeIs slot_list_getitem.lookup
   (wpAny_getItem_list_neg (Q:=fun r s' => r = w ∧ EP X pins σ Q r s') pl.isList (by omega) (by rw [List.size_toArray] <;> omega) (by omega) (by rw [hj]; simpa using ew) ⟨rfl,fin⟩) hs
theorem zax : IxR X (rIxT X.K):=by
 intro value slice pins s σ H x y v u Q I rx ry h hs
 obtain ⟨p,xs,i,z,rfl,rfl,hq,he,q⟩:=h
 cases rx
 obtain ⟨t,rfl⟩:=ry
 obtain ⟨its,r,pl,hz⟩:=I.tuple hq
 obtain ⟨j,h1,h2,h3,h4,h5⟩:=zj9 he
 obtain ⟨w,ew,rw'⟩:=r.get h2
 have hl:=r.length
 have hn:=zhf
 have fin : EP X pins σ Q w s:=⟨z,H,I,rw',q⟩
 exact subscriptTail_builtinR (x:=w) pl.typeIs slot_tuple_getitem.lookup
  (getItem_tuple (j:=j) (Q:=fun r s' => r = w ∧ EP X pins σ Q r s') pl (by omega) (by omega) (by rw [List.size_toArray,← hl]; exact h1) (by simpa using ew) ⟨rfl,fin⟩) hs
noncomputable def ze6 : V → Bool
 | .non => true
 | .bl _ => true
 | .int _ => true
 | .str _ => true
 | _ => false
noncomputable def eqV : V → V → Bool
 | .non,.non => true
 | .bl a,.bl b => a == b
 | .bl a,.int b => (if a then 1 else 0) == b
 | .int a,.bl b => a == (if b then 1 else 0)
 | .int a,.int b => a == b
 | .str a,.str b => a == b
 | _,_ => false
theorem eqAt_V {A : Around} {s : Shared} {y x : V} {u v : Value} (ry : RelV y u) (rx : RelV x v) (fy : ze6 y = true) (fx : ze6 x = true) : SeqAt.EqAt A s u v (eqV y x):=by
 cases y with
 | non =>
  cases ry
  cases x with
  | non => cases rx; exact SeqAt.EqAt.same _
  | bl b => cases rx; exact SeqAt.EqAt.none_bool b
  | int b => obtain ⟨t,rfl⟩:=rx; exact SeqAt.EqAt.none_int b t
  | str b => obtain ⟨t,rfl⟩:=rx; exact SeqAt.EqAt.none_str b t
  | _ => exact absurd (show false = true from fx) Bool.false_ne_true
 | bl a =>
  cases ry
  cases x with
  | non => cases rx; exact SeqAt.EqAt.bool_none a
  | bl b => cases rx; exact SeqAt.EqAt.bool_bool a b
  | int b => obtain ⟨t,rfl⟩:=rx; exact SeqAt.EqAt.bool_int a b t
  | str b => obtain ⟨t,rfl⟩:=rx; exact SeqAt.EqAt.bool_str a b t
  | _ => exact absurd (show false = true from fx) Bool.false_ne_true
 | int a =>
  obtain ⟨t',rfl⟩:=ry
  cases x with
  | non => cases rx; exact SeqAt.EqAt.int_none a t'
  | bl b => cases rx; exact SeqAt.EqAt.int_bool a t' b
  | int b => obtain ⟨t,rfl⟩:=rx; exact SeqAt.EqAt.int_int a t' b t
  | str b => obtain ⟨t,rfl⟩:=rx; exact SeqAt.EqAt.int_str a t' b t
  | _ => exact absurd (show false = true from fx) Bool.false_ne_true
 | str a =>
  obtain ⟨t',rfl⟩:=ry
  cases x with
  | non => cases rx; exact SeqAt.EqAt.str_none a t'
  | bl b => cases rx; exact SeqAt.EqAt.str_bool a t' b
  | int b => obtain ⟨t,rfl⟩:=rx; exact SeqAt.EqAt.str_int a t' b t
  | str b => obtain ⟨t,rfl⟩:=rx; exact SeqAt.EqAt.str_str a t' b t
  | _ => exact absurd (show false = true from fx) Bool.false_ne_true
 | _ => exact absurd (show false = true from fy) Bool.false_ne_true
noncomputable def eqU (x : V) (u : Value) : Bool:=match u with
 | .none => eqV .non x
 | .bool b => eqV (.bl b) x
 | .int i _ => eqV (.int i) x
 | .str z _ => eqV (.str z) x
 | _ => false
theorem eqU_of {x y : V} {u : Value} (r : RelV y u) (f : ze6 y = true) : eqU x u = eqV y x:=by
 cases y with
 | non => cases r; rfl
 | bl b => cases r; rfl
 | int i => obtain ⟨t,rfl⟩:=r; rfl
 | str z => obtain ⟨t,rfl⟩:=r; rfl
 | _ => exact absurd (show false = true from f) Bool.false_ne_true
theorem zdU {x : V} : ∀ {xs : List V} {us : List Value},Vals xs us → xs.all ze6 = true → us.any (eqU x) = xs.any fun y => eqV y x
 | _,_,.nil,_ => rfl
 | y :: xs,u :: us,.cons r t,f => by
  rw [List.all_cons,Bool.and_eq_true] at f
  rw [List.any_cons,List.any_cons,eqU_of r f.1,zdU t f.2]
theorem zcI {A : Around} {s : Shared} {x : V} {v : Value} (rx : RelV x v) (fx : ze6 x = true) : ∀ {xs : List V} {us : List Value},Vals xs us → xs.all ze6 = true → ∀ u ∈ us,SeqAt.EqAt A s u v (eqU x u)
 | _,_,.nil,_ => fun u hu => by cases hu
 | y :: xs,u :: us,.cons r t,f => fun u' hu => by
  rw [List.all_cons,Bool.and_eq_true] at f
  rcases List.mem_cons.mp hu with rfl | hu
  ·rw [eqU_of r f.1]; exact eqAt_V r rx f.1 fx
  ·exact zcI rx fx t f.2 u' hu
noncomputable def inV (x : V) (xs : List V) : Bool:=xs.any fun y => eqV y x
noncomputable def rIn (K : W.Frag) (neg : Bool) : R2:=fun x y H Q => ∃ p xs,y = .ref p ∧ (SqL K H p xs ∨ SqT K H p xs) ∧ ze6 x = true ∧ xs.all ze6 = true ∧ Q (.bl (if neg then !inV x xs else inV x xs)) H
theorem ziW : OpR X (compareOp .In) (rIn X.K false):=by
 intro pins s σ H x y v u Q I rx ry h
 obtain ⟨p,xs,rfl,hq,fx,fs,q⟩:=h
 cases ry
 rcases hq with hq | hq
 ·obtain ⟨its,r,pl,hz⟩:=I.list hq
  refine SeqAt.in_listAt (eqU x) pl.isList (fun w hw => zcI rx fx r fs w (by simpa using hw)) ⟨.bl _,H,I,rfl,?_⟩
  rw [show its.toArray.any (eqU x) = its.any (eqU x) by simp,zdU r fs]
  exact q
 ·obtain ⟨its,r,pl,hz⟩:=I.tuple hq
  refine SeqAt.in_tupleAt (eqU x) pl (fun w hw => zcI rx fx r fs w (by simpa using hw)) ⟨.bl _,H,I,rfl,?_⟩
  rw [show its.toArray.any (eqU x) = its.any (eqU x) by simp,zdU r fs]
  exact q
theorem zb6 : OpR X (compareOp .NotIn) (rIn X.K true):=by
 intro pins s σ H x y v u Q I rx ry h
 obtain ⟨p,xs,rfl,hq,fx,fs,q⟩:=h
 cases ry
 rcases hq with hq | hq
 ·obtain ⟨its,r,pl,hz⟩:=I.list hq
  refine SeqAt.notIn_listAt (eqU x) pl.isList (fun w hw => zcI rx fx r fs w (by simpa using hw)) ⟨.bl _,H,I,rfl,?_⟩
  rw [show its.toArray.any (eqU x) = its.any (eqU x) by simp,zdU r fs]
  exact q
 ·obtain ⟨its,r,pl,hz⟩:=I.tuple hq
  refine SeqAt.notIn_tupleAt (eqU x) pl (fun w hw => zcI rx fx r fs w (by simpa using hw)) ⟨.bl _,H,I,rfl,?_⟩
  rw [show its.toArray.any (eqU x) = its.any (eqU x) by simp,zdU r fs]
  exact q
theorem zbE : zce X (.builtin "len") (fun xs H Q => ∃ p ys,xs = [.ref p] ∧ (SqL X.K H p ys ∨ SqT X.K H p ys) ∧ Q (.int ys.length) H):=by
 intro pins s σ H xs us Q I r h
 obtain ⟨p,ys,rfl,hq,q⟩:=h
 obtain ⟨u,rfl,rx⟩:=zbZ r
 cases rx
 have hn:=zhf
 rcases hq with hq | hq
 ·obtain ⟨its,r',pl,hz⟩:=I.list hq
  have hlen:=r'.length
  exact Calls.call_len_list pl.isList (by simp only [List.size_toArray] <;> omega) ⟨.int ys.length,H,I.tok _,⟨s.toks + 1,by rw [List.size_toArray,hlen]⟩,q⟩
 ·obtain ⟨its,r',pl,hz⟩:=I.tuple hq
  have hlen:=r'.length
  exact len_tuple pl (by simp only [List.size_toArray] <;> omega) ⟨.int ys.length,H,I.tok _,⟨s.toks + 1,by rw [List.size_toArray,hlen]⟩,q⟩
theorem zf7 : zce X (.type "list") (fun xs H Q => ∃ p ys,xs = [.ref p] ∧ (SqL X.K H p ys ∨ SqT X.K H p ys) ∧ ∀ l,H l = none → Q (.ref l) (upd H l (.lst ys))):=by
 intro pins s σ H xs us Q I r h
 obtain ⟨p,ys,rfl,hq,q⟩:=h
 obtain ⟨u,rfl,rx⟩:=zbZ r
 cases rx
 have fin : ∀ (its : List Value),Vals ys its → ys.length ≤ sizeLine → ∀ (h' : Heap) (c' : Nat),(∀ b o',s.heap.get? b = some o' → h'.get? b = some o') →
   h'.get? s.heap.objs.size = some { cls:=.type "list",dict:=none,data:=.seq its.toArray c',slots:=#[] } → EP X pins σ Q (.ref s.heap.objs.size) { s with heap:=h' }:=fun its r' hz h' c' kp e =>
  ⟨.ref s.heap.objs.size,_,I.laid (t':=s.toks) kp (Nat.le_refl _) (show zaY X.prog X.w _ h' _ (.lst ys) from ⟨hz,its,c',r',e⟩),rfl,q _ (I.hok.fresh (Nat.le_refl _))⟩
 rcases hq with hq | hq
 ·obtain ⟨its,r',pl,hz⟩:=I.list hq
  have hlen:=r'.length
  obtain ⟨o,ho,hc,n,hd⟩:=pl.isList
  exact call_list_seq p (.inl rfl) ho hc hd (fun h' c' kp e => fin its r' hz h' c' kp e) (by simp only [List.size_toArray] <;> omega)
 ·obtain ⟨its,r',pl,hz⟩:=I.tuple hq
  have hlen:=r'.length
  obtain ⟨o,ho,hc,n,hd⟩:=pl
  exact call_list_seq p (.inr rfl) ho hc hd (fun h' c' kp e => fin its r' hz h' c' kp e) (by simp only [List.size_toArray] <;> omega)
noncomputable def tyV (K : W.Frag) (T : String) (x : V) (H : Hp) : Prop:=match x with
 | .str _ => T = "str"
 | .int _ => T = "int"
 | .ref p => (T = "list" ∧ ∃ xs,SqL K H p xs) ∨ (T = "tuple" ∧ ∃ o,K.lookup p = some o ∧ o.cls = .type "tuple" ∧ o.dict = none) ∨
   (T = "dict" ∧ ((∃ kvs,H p = some (.dK kvs)) ∨ ∃ kvs,H p = some (.dT kvs))) ∨ (T = "set" ∧ ∃ S n,H p = some (.set S n))
 | _ => False
theorem tyV_is {pins : List (Addr × Obj)} {σ : St} {H : Hp} {s : Shared} {T : String} {x : V} {v : Value} (I : Inv X pins σ H s) (r : RelV x v) (ty : tyV X.K T x H) :
  s.TypeIs v T ∧ ∀ a,v = .ref a → ∃ ob,s.heap.get? a = some ob ∧ ob.dict = none:=by
 cases x with
 | str z =>
  obtain ⟨t,rfl⟩:=r
  cases (show T = "str" from ty)
  exact ⟨typeIs_str s z t,fun _ e => nomatch e⟩
 | int i =>
  obtain ⟨t,rfl⟩:=r
  cases (show T = "int" from ty)
  exact ⟨typeIs_int s i t,fun _ e => nomatch e⟩
 | ref p =>
  cases r
  rcases ty with ⟨rfl,xs,hq⟩ | ⟨rfl,o,hk,hc,hd⟩ | ⟨rfl,hk⟩ | ⟨rfl,S,n,hk⟩
  ·obtain ⟨its,_,pl,_⟩:=I.list hq
   refine ⟨pl.isList.typeIs,fun a e => ?_⟩
   cases e
   obtain ⟨o,n,e,c,hd,_⟩:=pl
   exact ⟨o,e,hd⟩
  ·refine ⟨⟨o,I.kIn p o hk,hc⟩,fun a e => ?_⟩
   cases e
   exact ⟨o,I.kIn _ o hk,hd⟩
  ·have z : ∃ o,s.heap.get? p = some o ∧ o.ExactDict:=by
    rcases hk with ⟨kvs,hk⟩ | ⟨kvs,hk⟩
    ·obtain ⟨_,_,_,_,o,_,_,e,ex,_⟩:=I.hok p _ hk
     exact ⟨o,e,ex⟩
    ·obtain ⟨_,_,_,_,o,_,_,e,ex,_⟩:=I.hok p _ hk
     exact ⟨o,e,ex⟩
   obtain ⟨o,e,ex⟩:=z
   refine ⟨⟨o,e,ex.1⟩,fun a e2 => ?_⟩
   cases e2
   exact ⟨o,e,ex.2.1⟩
  ·obtain ⟨o,_,_,_,e,ex,_⟩:=I.hok p _ hk
   refine ⟨⟨o,e,ex.1⟩,fun a e2 => ?_⟩
   cases e2
   exact ⟨o,e,ex.2.1⟩
 | _ => exact False.elim ty
noncomputable def tBM0 (K : W.Frag) (T : String) (r : V → List V → Hp → VK → Prop) (to : TE) : TE:=fun σ H Q => to σ H fun x H1 => tyV K T x H1 ∧ r x [] H1 Q
noncomputable def tBM (K : W.Frag) (T : String) (r : V → List V → Hp → VK → Prop) (to : TE) (t : TA) : TE:=fun σ H Q => to σ H fun x H1 => tyV K T x H1 ∧ t σ H1 fun xs H2 => r x xs H2 Q
variable {o e : Expr} {es : List Expr} {to : TE} {t : TA} {name : Str} {apos cpos : Pos} {T id : String} {r : V → List V → Hp → VK → Prop}
theorem pe_bm0 (pa : PlainAttrs T) (slot : Slot T name id) (hty : typeOf (.builtin id) = pure (.type "method_descriptor")) (hm : MtR X id r) (ho : PE X o to)
  (hbase : attributeBase o name X.env (eval o X.env) = eval o X.env:=by rfl) (hline : (apos.endLine == cpos.line) = true:=by rfl) : PE X (.Call (.Attribute o name apos) [] [] cpos) (tBM0 X.K T r to):=by
 intro pins s σ H Q I h
 refine wpAny_Call_method0_late hbase hline (thn (ho pins s σ H _ I h) fun v s1 ⟨x,H1,I1,r1,ty,q1⟩ => ?_)
 obtain ⟨h1,h2⟩:=tyV_is I1 r1 ty
 exact ⟨T,id,pa,slot,hty,h1,h2,Calls.callWith_builtin rfl (PySem.evalArgs_none (hm pins s1 σ H1 x [] v [] Q I1 r1 .nil q1))⟩
theorem zgx (pa : PlainAttrs T) (slot : Slot T name id) (hty : typeOf (.builtin id) = pure (.type "method_descriptor")) (hm : MtR X id r) (ho : PE X o to) (ha : PA X (e :: es) t)
  (hbase : attributeBase o name X.env (eval o X.env) = eval o X.env:=by rfl)
  (hfew : ((backTo cpos (starEach (e :: es) X.env)).all (fun x => !x.1) && (backToKw cpos (keywordEach [] X.env)).all (fun x => x.1.isSome)
   && decide ((e :: es).length + ([] : List Keyword).length + (if ([] : List Keyword).isEmpty then 0 else 1) < 30)) = true:=by rfl)
  (hline : (apos.endLine == cpos.line) = true:=by rfl) (hs : starEach (e :: es) X.env = (false,eval e X.env) :: starEach es X.env:=by rfl) (hplain : (backTo cpos (starEach es X.env)).any (·.1) = false:=by rfl) :
  PE X (.Call (.Attribute o name apos) (e :: es) [] cpos) (tBM X.K T r to t):=by
 intro pins s σ H Q I h
 refine wpAny_Call_method_late hbase hfew hline rfl (thn (ho pins s σ H _ I h) fun v s1 ⟨x,H1,I1,r1,ty,q1⟩ => ?_)
 obtain ⟨h1,h2⟩:=tyV_is I1 r1 ty
 refine ⟨T,id,pa,slot,hty,h1,h2,?_⟩
 have hA:=ha cpos pins s1 σ H1 _ I1 q1
 rw [hs] at hA ⊢
 refine Calls.callWith_builtin (by show (false || (backTo cpos (starEach es X.env)).any (·.1)) = false; rw [hplain] <;> rfl) (Calls.evalArgs_plain ?_)
 exact thn hA fun us s2 ⟨vs,H2,I2,r2,q2⟩ => hm pins s2 σ H2 x vs v us Q I2 r1 r2 q2
/- xs.append(e),list.index on a module's tuple .. are MtR facts of 06m -/
end
end L2
namespace L2
open PySem PySem.Spec PyProof.Rows
noncomputable def MtM (X : Cx) (id : String) (r : V → List V → Hp → VK → Prop) : Prop :=
 ∀ (pins : List (Addr × Obj)) (s : Shared) (σ : St) (H : Hp) (x : V) (xs : List V) (v : Value) (us : List Value) (Q : VK),Inv X pins σ H s → RelV x v → Vals xs us → r x xs H Q →
  wpAny (model X.prog X.w) X.A (call (.builtin id) (v :: us)) (EP X pins σ Q) X.xe s
theorem Vals.one : ∀ {x : V} {us : List Value},Vals [x] us → ∃ u,us = [u] ∧ RelV x u
 | _,_,.cons r .nil => ⟨_,rfl,r⟩
theorem Vals.two : ∀ {x y : V} {us : List Value},Vals [x,y] us → ∃ u v,us = [u,v] ∧ RelV x u ∧ RelV y v
 | _,_,_,.cons r (.cons q .nil) => ⟨_,_,rfl,r,q⟩
theorem Vals.eraseIdx : ∀ {xs : List V} {us : List Value} (i : Nat),Vals xs us → Vals (xs.eraseIdx i) (us.eraseIdx i)
 | _,_,_,.nil => .nil
 | _,_,0,.cons _ t => t
 | _,_,i + 1,.cons r t => .cons r (Vals.eraseIdx i t)
theorem zfF {α : Type} : ∀ (l : List α) (i : Nat),(l.eraseIdx i).length ≤ l.length
 | [],_ => Nat.le_refl _
 | _ :: _,0 => Nat.le_succ _
 | _ :: r,i + 1 => Nat.succ_le_succ (zfF r i)
section
variable {X : Cx} {pins : List (Addr × Obj)} {σ : St} {H : Hp} {s : Shared} {l b : Addr} {xs ys zs : List V}
theorem Inv.lset {its its' : List Value} {n : Nat} {f : Array Value → Array Value} {t' : Nat} (I : Inv X pins σ H s) (hH : H l = some (.lst xs))
  (e : s.heap.get? l = some { cls:=.type "list",data:=.seq its.toArray n }) (hf : f its.toArray = its'.toArray) (hv : Vals ys its') (hz : ys.length ≤ sizeLine) :
  Inv X pins σ (upd H l (.lst ys)) { s with heap:=s.heap.update l (Obj.mapSeq f),toks:=t' }:=by
 have q:=PySem.IsL.update e f
 rw [hf] at q
 refine I.write (x:=l) (e:=l) (by rw [hH]; exact trivial) (.inl rfl) (fun b' u hb hu => (Heap.get?_update_other s.heap (Obj.mapSeq f) (Ne.symm hb)).trans hu) ⟨_,q⟩ ?_
 exact ⟨hz,its',_,hv,q⟩
theorem Inv.lstM (I : Inv X pins σ H s) (hH : H l = some (.lst xs)) : xs.length ≤ sizeLine ∧ ∃ (its : List Value) (n : Nat),Vals xs its ∧ xs.length = its.length ∧ s.heap.get? l = some { cls:=.type "list",data:=.seq its.toArray n }:=by
 obtain ⟨z,its,n,r,e⟩:=I.hok l _ hH
 exact ⟨z,its,n,r,r.length,e⟩
end
section
variable {X : Cx}
noncomputable def rAppend : V → List V → Hp → VK → Prop:=fun x vs H Q => ∃ l xs y,x = .ref l ∧ vs = [y] ∧ H l = some (.lst xs) ∧ xs.length < sizeLine ∧ Q .non (upd H l (.lst (xs ++ [y])))
theorem zdG : MtM X "list.append" rAppend:=by
 intro pins s σ H x vs v us Q I rx rv h
 obtain ⟨l,xs,y,rfl,rfl,hH,hz,q⟩:=h
 cases rx
 obtain ⟨u,rfl,ru⟩:=rv.one
 obtain ⟨z,its,n,r,hl,e⟩:=I.lstM hH
 refine call_meets F.slot_list_append ⟨_,e,rfl⟩ F.entry_list_append (F.args_list_append_2 _ _) (PySem.list_append l its.toArray n u (by rw [List.size_toArray]; omega)) ⟨e,?_⟩
 refine ⟨.non,_,I.lset (its':=its ++ [u]) hH e (by simp) (r.append (.cons ru .nil)) ?_,rfl,q⟩
 rw [List.length_append,List.length_singleton]
 omega
noncomputable def rPopAt : V → List V → Hp → VK → Prop:=fun x vs H Q => ∃ l xs i k y,x = .ref l ∧ vs = [.int i] ∧ H l = some (.lst xs) ∧ -(2 ^ 63) ≤ i ∧ i < 2 ^ 63 ∧ seqIndex? i xs.length = some k ∧ xs[k]? = some y ∧ Q y (upd H l (.lst (xs.eraseIdx k)))
theorem mt_popAt : MtM X "list.pop" rPopAt:=by
 intro pins s σ H x vs v us Q I rx rv h
 obtain ⟨l,xs,i,k,y,rfl,rfl,hH,h1,h2,hk,hy,q⟩:=h
 cases rx
 obtain ⟨u,rfl,ru⟩:=rv.one
 obtain ⟨t,rfl⟩:=ru
 obtain ⟨z,its,n,r,hl,e⟩:=I.lstM hH
 obtain ⟨w,hw,rw'⟩:=r.get hy
 refine call_meets F.slot_list_pop ⟨_,e,rfl⟩ F.entry_list_pop (F.args_list_pop_2 _ _)
  (MeetsSeq.list_pop_at l its.toArray n i t k w (fitsIndex_both h1 h2) (by rw [List.size_toArray,← hl]; exact hk) (by rw [← Array.getElem?_toList]; exact hw) (by rw [List.size_toArray]; omega)) ⟨e,?_⟩
 refine ⟨y,_,I.lset (its':=its.eraseIdx k) hH e ?_ (r.eraseIdx k) ?_,rw',q⟩
 ·show its.toArray.eraseIdxIfInBounds k = (its.eraseIdx k).toArray
  rw [List.eraseIdxIfInBounds_toArray]
 ·have:=zfF xs k
  omega
end
section
variable {prog : Program} {w : World} {A : Around} {E : Value → Shared → Prop} {s : Shared}
end
section
variable {X : Cx}
end
end L2
namespace L2
open PySem PySem.Spec PyProof.Rows
section
variable {κ : Type} [DecidableEq κ]
noncomputable def valV (kvs : List (κ × V)) (k : κ) : Option V:=(kvs.find? fun kv => decide (kv.1 = k)).map (·.2)
noncomputable def putK (kvs : List (κ × V)) (k : κ) (v : V) : List (κ × V) :=
 if (kvs.any fun kv => decide (kv.1 = k)) = true then kvs.map (fun kv => if kv.1 = k then (kv.1,v) else kv) else kvs ++ [(k,v)]
noncomputable def zbT (kvs : List (κ × V)) (k : κ) : List (κ × V):=kvs.filter fun kv => decide (kv.1 ≠ k)
theorem zaZ {p : κ × V} {r : List (κ × V)} {k : κ} (e : p.1 = k) : valV (p :: r) k = some p.2:=by simp [valV,List.find?_cons,e]
theorem zaU {p : κ × V} {r : List (κ × V)} {k : κ} (e : ¬ p.1 = k) : valV (p :: r) k = valV r k:=by simp [valV,List.find?_cons,e]
theorem zbL (k : κ) : ∀ kvs : List (κ × V),(kvs.any fun kv => decide (kv.1 = k)) = (valV kvs k).isSome
 | [] => rfl
 | p :: r => by
  rw [List.any_cons]
  by_cases e : p.1 = k
  ·simp only [zaZ e,decide_eq_true e,Bool.true_or,Option.isSome_some]
  ·rw [zaU e,decide_eq_false e,Bool.false_or]; exact zbL k r
theorem zgQ (k j : κ) (y : V) : ∀ kvs : List (κ × V),valV (kvs.map fun kv => if kv.1 = k then (kv.1,y) else kv) j = (valV kvs j).map fun x => if j = k then y else x
 | [] => rfl
 | p :: r => by
  have ih:=zgQ k j y r
  rw [List.map_cons]
  by_cases h : p.1 = k
  ·rw [if_pos h]
   by_cases e : p.1 = j
   ·rw [zaZ (p:=(p.1,y)) e,zaZ e,Option.map_some,if_pos (e.symm.trans h)]
   ·rw [zaU (p:=(p.1,y)) e,zaU e,ih]
  ·rw [if_neg h]
   by_cases e : p.1 = j
   ·rw [zaZ (p:=p) e,zaZ e,Option.map_some,if_neg (fun z => h (e.trans z))]
   ·rw [zaU (p:=p) e,zaU e,ih]
theorem zfg (k j : κ) (y : V) : ∀ kvs : List (κ × V),valV kvs k = none → valV (kvs ++ [(k,y)]) j = if j = k then some y else valV kvs j
 | [],_ => by
  by_cases e : k = j
  ·rw [if_pos e.symm]; exact zaZ (p:=(k,y)) e
  ·rw [if_neg (fun z => e z.symm)]; exact zaU (p:=(k,y)) e
 | p :: r,hn => by
  rw [List.cons_append]
  have hk : ¬ p.1 = k:=fun z => by rw [zaZ z] at hn; cases hn
  rw [zaU hk] at hn
  have ih:=zfg k j y r hn
  by_cases e : p.1 = j
  ·rw [zaZ e,zaZ e,if_neg (fun z => hk (e.trans z))]
  ·rw [zaU e,zaU e,ih]
theorem zek (kvs : List (κ × V)) (k j : κ) (y : V) : valV (putK kvs k y) j = if j = k then some y else valV kvs j:=by
 unfold putK
 by_cases a : (kvs.any fun kv => decide (kv.1 = k)) = true
 ·rw [if_pos a,zgQ]
  rw [zbL] at a
  by_cases e : j = k
  ·obtain ⟨x,hx⟩:=Option.isSome_iff_exists.mp a
   rw [if_pos e,e,hx,Option.map_some,if_pos rfl]
  ·rw [if_neg e]
   cases valV kvs j with
   | none => rfl
   | some x => rw [Option.map_some,if_neg e]
 ·rw [if_neg a]
  refine zfg k j y kvs ?_
  rw [zbL] at a
  cases q : valV kvs k with
  | none => rfl
  | some x => rw [q] at a; exact (a rfl).elim
theorem zcw (kvs : List (κ × V)) (k : κ) (v : V) : (putK kvs k v).length ≤ kvs.length + 1:=by
 unfold putK
 split
 ·rw [List.length_map]; omega
 ·rw [List.length_append,List.length_cons,List.length_nil]; omega
theorem zg3 {kvs : List (κ × V)} {k : κ} (v : V) (h : valV kvs k = none) : putK kvs k v = kvs ++ [(k,v)]:=by
 unfold putK
 rw [zbL,h]
 exact if_neg (by decide)
theorem RelO.isSome_eq {o : Option V} {u : Option Value} (r : RelO o u) : o.isSome = u.isSome:=by
 cases o with
 | none => cases u with
  | none => rfl
  | some _ => exact (show False from r).elim
 | some _ => cases u with
  | none => exact (show False from r).elim
  | some _ => rfl
theorem RelO.getD {o : Option V} {u : Option Value} {d : V} {d' : Value} (r : RelO o u) (rd : RelV d d') : RelV (o.getD d) (u.getD d'):=by
 cases o with
 | none => cases u with
  | none => exact rd
  | some _ => exact (show False from r).elim
 | some _ => cases u with
  | none => exact (show False from r).elim
  | some _ => exact r
theorem KV.val {kvs : List (κ × V)} {vs : List (κ × Value)} (r : KV kvs vs) (k : κ) : RelO (valV kvs k) (valueAt vs k):=by
 unfold KV at r
 induction r with
 | nil => exact True.intro
 | @cons p q ps qs h t ih =>
  obtain ⟨h1,h2⟩:=h
  by_cases e : p.1 = k
  ·have e' : q.1 = k:=h1.symm.trans e
   have b : valueAt (q :: qs) k = some q.2:=by simp [valueAt,List.find?_cons,e']
   rw [zaZ e,b]; exact h2
  ·have e' : ¬ q.1 = k:=fun z => e (h1.trans z)
   have b : valueAt (q :: qs) k = valueAt qs k:=by simp [valueAt,List.find?_cons,e']
   rw [zaU e,b]; exact ih
theorem KV.any {kvs : List (κ × V)} {vs : List (κ × Value)} (r : KV kvs vs) (k : κ) : (kvs.any fun kv => decide (kv.1 = k)) = vs.any fun kv => decide (kv.1 = k):=by
 unfold KV at r
 induction r with
 | nil => rfl
 | cons h t ih => rw [List.any_cons,List.any_cons,ih,h.1]
theorem KV.repl {kvs : List (κ × V)} {vs : List (κ × Value)} (r : KV kvs vs) (k : κ) {y : V} {u : Value} (ry : RelV y u) :
  KV (kvs.map fun kv => if kv.1 = k then (kv.1,y) else kv) (vs.map fun kv => if kv.1 = k then (kv.1,u) else kv):=by
 unfold KV at r ⊢
 induction r with
 | nil => exact .nil
 | @cons p q ps qs h t ih =>
  rw [List.map_cons,List.map_cons]
  refine .cons ?_ ih
  obtain ⟨h1,h2⟩:=h
  by_cases e : p.1 = k
  ·rw [if_pos e,if_pos (h1.symm.trans e)]; exact ⟨h1,ry⟩
  ·rw [if_neg e,if_neg (fun z => e (h1.trans z))]; exact ⟨h1,h2⟩
theorem KV.put {kvs : List (κ × V)} {vs : List (κ × Value)} (r : KV kvs vs) (k : κ) {y : V} {u : Value} (ry : RelV y u) : KV (putK kvs k y) (stored vs k u):=by
 unfold putK stored
 rw [r.any k]
 by_cases e : (vs.any fun kv => decide (kv.1 = k)) = true
 ·rw [if_pos e,if_pos e]; exact r.repl k ry
 ·rw [if_neg e,if_neg e]; exact Paired.snoc r ⟨rfl,ry⟩
theorem KV.drop {kvs : List (κ × V)} {vs : List (κ × Value)} (r : KV kvs vs) (k : κ) : KV (zbT kvs k) (without vs k):=by
 unfold KV at r ⊢
 unfold zbT without
 induction r with
 | nil => exact .nil
 | @cons p q ps qs h t ih =>
  obtain ⟨h1,h2⟩:=h
  rw [List.filter_cons,List.filter_cons]
  by_cases e : p.1 = k
  ·have a : ¬ decide (p.1 ≠ k) = true:=by simp [e]
   have b : ¬ decide (q.1 ≠ k) = true:=by simp [h1.symm.trans e]
   rw [if_neg a,if_neg b]; exact ih
  ·have e' : ¬ q.1 = k:=fun z => e (h1.trans z)
   have a : decide (p.1 ≠ k) = true:=by simp [e]
   have b : decide (q.1 ≠ k) = true:=by simp [e']
   rw [if_pos a,if_pos b]; exact .cons ⟨h1,h2⟩ ih
theorem KV.length {kvs : List (κ × V)} {vs : List (κ × Value)} (r : KV kvs vs) : kvs.length = vs.length:=Paired.length r
theorem dropK_le (kvs : List (κ × V)) (k : κ) : (zbT kvs k).length ≤ kvs.length:=List.length_filter_le _ _
end
theorem zgF {P : Program} {w : World} {k : Key} {u : Value} (r : RelV (kV k) u) : (zaI P w).is k u = true:=by
 cases k with
 | inl i => obtain ⟨t,e⟩:=(show ∃ t,u = Value.int i t from r); subst e; exact zgB P w i t
 | inr x => obtain ⟨t,e⟩:=(show ∃ t,u = Value.str x t from r); subst e; exact zgA P w x t
theorem zfN {P : Program} {w : World} : ∀ {ks : List Key} {us : List Value},Vals (ks.map kV) us → ItemsAre (zaI P w) ks us
 | [],_,r => by rw [List.map_nil] at r; cases r; exact .nil
 | k :: ks,_,r => by
  rw [List.map_cons] at r
  cases r with
  | cons h t => exact .cons (zgF h) (zfN t)
noncomputable abbrev KT (H : Hp) : List (List Key × V) → List (List Key × Addr × Value) → Prop:=Paired fun p q => p.1 = q.1 ∧ H q.2.1 = some (.tup (p.1.map kV)) ∧ RelV p.2 q.2.2
theorem KT.val {H : Hp} {kvs : List (List Key × V)} {xs : List (List Key × Addr × Value)} (r : KT H kvs xs) (k : List Key) : RelO (valV kvs k) ((atKey xs k).map (·.2)):=by
 induction r with
 | nil => exact True.intro
 | @cons p q ps qs h t ih =>
  obtain ⟨h1,_,h2⟩:=h
  by_cases e : p.1 = k
  ·have e' : q.1 = k:=h1.symm.trans e
   have b : atKey (q :: qs) k = some q.2:=by simp [atKey,List.find?_cons,e']
   rw [zaZ e,b]; exact h2
  ·have e' : ¬ q.1 = k:=fun z => e (h1.trans z)
   have b : atKey (q :: qs) k = atKey qs k:=by simp [atKey,List.find?_cons,e']
   rw [zaU e,b]; exact ih
theorem KT.repl {H : Hp} {kvs : List (List Key × V)} {xs : List (List Key × Addr × Value)} (r : KT H kvs xs) (k : List Key) {y : V} {u : Value} (ry : RelV y u) :
  KT H (kvs.map fun kv => if kv.1 = k then (kv.1,y) else kv) (xs.map (putAt k u)):=by
 induction r with
 | nil => exact .nil
 | @cons p q ps qs h t ih =>
  rw [List.map_cons,List.map_cons]
  refine .cons ?_ ih
  obtain ⟨h1,h2,h3⟩:=h
  unfold putAt
  by_cases e : p.1 = k
  ·rw [if_pos e,if_pos (h1.symm.trans e)]; exact ⟨h1,h2,ry⟩
  ·rw [if_neg e,if_neg (fun z => e (h1.trans z))]; exact ⟨h1,h2,h3⟩
theorem KT.put {H : Hp} {kvs : List (List Key × V)} {xs : List (List Key × Addr × Value)} (r : KT H kvs xs) (k : List Key) {b : Addr} {y : V} {u : Value} (hb : H b = some (.tup (k.map kV))) (ry : RelV y u) :
  KT H (putK kvs k y) (storedH xs k b u):=by
 have e : (kvs.any fun kv => decide (kv.1 = k)) = (atKey xs k).isSome:=by
  rw [zbL,(r.val k).isSome_eq,Option.isSome_map]
 unfold putK storedH
 rw [e]
 by_cases q : (atKey xs k).isSome = true
 ·rw [if_pos q,if_pos q]; exact r.repl k ry
 ·rw [if_neg q,if_neg q]; exact Paired.snoc r ⟨rfl,hb,ry⟩
theorem KT.keeps {H H' : Hp} {kvs : List (List Key × V)} {xs : List (List Key × Addr × Value)} (r : KT H kvs xs) (ht : ∀ b ys,H b = some (.tup ys) → H' b = some (.tup ys)) : KT H' kvs xs :=
 Paired.mapP r fun _ _ z => ⟨z.1,ht _ _ z.2.1,z.2.2⟩
section
variable {P : Program} {w : World} {H : Hp} {h : Heap} {a : Addr}
theorem rd_of {u : HO} (ok : HOk P w H h) (e : Rd H a u) : zaY P w H h a u:=e.ok ok
theorem zhW {kvs : List (Key × V)} (ok : HOk P w H h) (e : Rd H a (.dK kvs)) : kvs.length ≤ sizeLine ∧ (a == sysModules) = false ∧ ∃ vs,KV kvs vs ∧ h.DictOf (zaI P w) a vs :=
 show zaY P w H h a (.dK kvs) from rd_of ok e
theorem zfV {kvs : List (Key × V)} (ok : HOk P w H h) (e : H a = some (.dK kvs)) : kvs.length ≤ sizeLine ∧ (a == sysModules) = false ∧ ∃ vs,KV kvs vs ∧ h.DictOf (zaI P w) a vs:=zhW ok (.inl e)
theorem zfJ {ks : List Key} (ok : HOk P w H h) (e : H a = some (.tup (ks.map kV))) : (tupleKind (zaI P w)).is h ks a:=by
 obtain ⟨_,its,r,o,h1,h2,n,h3⟩:=(show zaY P w H h a (.tup (ks.map kV)) from ok a _ e)
 exact ⟨o,its.toArray,n,h1,h2,h3,by simpa using zfN r⟩
theorem zhV {kvs : List (List Key × V)} (ok : HOk P w H h) (e : Rd H a (.dT kvs)) : kvs.length ≤ sizeLine ∧ (a == sysModules) = false ∧
  ∃ xs,KT H kvs xs ∧ h.DictOfH (tupleKind (zaI P w)) a xs:=by
 obtain ⟨z,y,xs,r,o,es,ep,h1,h2,h3,h4,h5⟩:=(show zaY P w H h a (.dT kvs) from rd_of ok e)
 refine ⟨z,y,xs,r,o,es,ep,h1,h2,h3,h4,fun x hx => ?_,h5⟩
 have all : ∀ {l : List (List Key × V)} {m : List (List Key × Addr × Value)},KT H l m → ∀ x ∈ m,(tupleKind (zaI P w)).is h x.1 x.2.1:=by
  intro l m q
  induction q with
  | nil => intro x hx; exact nomatch hx
  | @cons p q ps qs hq t ih =>
   intro x hx
   rcases List.mem_cons.mp hx with e | hx
   ·subst e
    exact zfJ ok (by rw [← hq.1]; exact hq.2.1)
   ·exact ih x hx
 exact all r x hx
theorem dt_of {kvs : List (List Key × V)} (ok : HOk P w H h) (e : H a = some (.dT kvs)) : kvs.length ≤ sizeLine ∧ (a == sysModules) = false ∧
  ∃ xs,KT H kvs xs ∧ h.DictOfH (tupleKind (zaI P w)) a xs:=zhV ok (.inl e)
end
noncomputable def DGet (H : Hp) (a : Addr) (y : V) (r : Option V) : Prop :=
 (∃ kvs k,Rd H a (.dK kvs) ∧ y = kV k ∧ r = valV kvs k) ∨ ∃ kvs k b,Rd H a (.dT kvs) ∧ y = .ref b ∧ H b = some (.tup (k.map kV)) ∧ r = valV kvs k
noncomputable def DPut (H : Hp) (a : Addr) (y v : V) (H' : Hp) : Prop :=
 (∃ kvs k,H a = some (.dK kvs) ∧ y = kV k ∧ kvs.length < sizeLine ∧ H' = upd H a (.dK (putK kvs k v))) ∨
 ∃ kvs k b,H a = some (.dT kvs) ∧ y = .ref b ∧ H b = some (.tup (k.map kV)) ∧ kvs.length < sizeLine ∧ H' = upd H a (.dT (putK kvs k v))
theorem DGet.k {H : Hp} {a : Addr} {kvs : List (Key × V)} {k : Key} (e : H a = some (.dK kvs)) : DGet H a (kV k) (valV kvs k):=.inl ⟨kvs,k,.inl e,rfl,rfl⟩
theorem DPut.k {H : Hp} {a : Addr} {kvs : List (Key × V)} {k : Key} {v : V} (e : H a = some (.dK kvs)) (hl : kvs.length < sizeLine) : DPut H a (kV k) v (upd H a (.dK (putK kvs k v))):=.inl ⟨kvs,k,e,rfl,hl,rfl⟩
section
variable {X : Cx} {pins : List (Addr × Obj)} {σ : St} {H : Hp} {s : Shared} {a : Addr} {y v : V} {u r : Value} {o : Option V} {A : Around} {E : Value → Shared → Prop}
theorem Inv.big (I : Inv X pins σ H s) : sysModules < s.heap.objs.size:=by
 have h : mainGlobals < s.heap.objs.size:=(I.mod.glob.keeps I.bk).lt
 exact Nat.lt_trans (by decide) h
theorem zjR {Q : Value → Shared → Prop} (hu : A.units + 1 < cLine) (I : Inv X pins σ H s) (g : DGet H a y (some v)) (ry : RelV y u) (h : ∀ w' s',Inv X pins σ H s' → RelV v w' → Q w' s') :
  wpAny (model X.prog X.w) A (getItem (.ref a) u) Q E s:=by
 rcases g with ⟨kvs,k,e,ey,l⟩ | ⟨kvs,k,b,e,ey,eb,l⟩
 ·subst ey
  obtain ⟨z,hd,vs,rel,dd⟩:=zhW I.hok e
  obtain ⟨w',hw,rw'⟩:=RelO.some_of (v:=v) (o:=valueAt vs k) (by rw [l]; exact rel.val k)
  exact wpAny_getItem_of (zgF ry) dd.mapOf hw (h w' _ (I.tok _) rw')
 ·subst ey
  cases (show u = Value.ref b from ry)
  obtain ⟨z,hd,xs,rel,dd⟩:=zhV I.hok e
  obtain ⟨w',hw,rw'⟩:=RelO.some_of (v:=v) (o:=(atKey xs k).map (·.2)) (by rw [l]; exact rel.val k)
  obtain ⟨p,hp,hp2⟩:=Option.map_eq_some_iff.mp hw
  refine wpAny_getItem_heap (tupleKind_room_in1 hu) (zfJ I.hok eb) dd hp ?_
  rw [hp2]
  exact h w' _ (I.tok _) rw'
theorem d_notIn {Q : Value → Shared → Prop} (hu : A.units + 1 < cLine) (I : Inv X pins σ H s) (g : DGet H a y o) (ry : RelV y u) (h : ∀ s',Inv X pins σ H s' → Q (.bool (!o.isSome)) s') :
  wpAny (model X.prog X.w) A (compareOp .NotIn u (.ref a)) Q E s:=by
 rcases g with ⟨kvs,k,e,ey,l⟩ | ⟨kvs,k,b,e,ey,eb,l⟩
 ·subst ey
  obtain ⟨z,hd,vs,rel,dd⟩:=zhW I.hok e
  refine wpAny_notIn_of (zgF ry) hd dd.mapOf ?_
  rw [← (rel.val k).isSome_eq,← l]
  exact h _ (I.tok _)
 ·subst ey
  cases (show u = Value.ref b from ry)
  obtain ⟨z,hd,xs,rel,dd⟩:=zhV I.hok e
  refine wpAny_notIn_heap (tupleKind_room_in1 hu) (zfJ I.hok eb) hd dd ?_
  have q:=(rel.val k).isSome_eq
  rw [Option.isSome_map] at q
  rw [← q,← l]
  exact h _ (I.tok _)
theorem ze8 {h' : Heap} {t' : Nat} {ob : HO} (I : Inv X pins σ H s) (mu : Mut (H a)) (hs : Heap.SameBut a s.heap h') (he : ∃ q,h'.get? a = some q) (new : zaY X.prog X.w (upd H a ob) h' a ob) :
  Inv X pins σ (upd H a ob) { s with heap:=h',toks:=t' } :=
 I.write (x:=a) (e:=a) mu (.inl rfl) (fun b q hb z => (hs.2 b hb).trans z) he new
theorem zjM {P : Program} {w : World} {H' : Hp} {h' : Heap} {kvs : List (Key × V)} {vs : List (Key × Value)} (z : kvs.length ≤ sizeLine) (hd : (a == sysModules) = false) (rel : KV kvs vs) (dd : h'.DictOf (zaI P w) a vs) :
  zaY P w H' h' a (.dK kvs):=⟨z,hd,vs,rel,dd⟩
theorem zjQ {H' : Hp} {Q : Unit → Shared → Prop} (hu : A.units + 1 < cLine) (I : Inv X pins σ H s) (g : DPut H a y v H') (ry : RelV y u) (rv : RelV v r) (h : ∀ s',Inv X pins σ H' s' → Q () s') :
  wpAny (model X.prog X.w) A (setItem (.ref a) u r) Q E s:=by
 rcases g with ⟨kvs,k,e,ey,l,eH⟩ | ⟨kvs,k,b,e,ey,eb,l,eH⟩
 ·subst ey eH
  obtain ⟨z,hd,vs,rel,dd⟩:=zfV I.hok e
  have hz : vs.length ≤ sizeLine:=by rw [← rel.length]; exact z
  have hl : (putK kvs k v).length ≤ sizeLine:=by have:=zcw kvs k v; omega
  refine wpAny_setItem_pairs (hsz:=hz) (zgF ry) dd fun h' dd' hs => h _ ?_
  have he : ∃ q,h'.get? a = some q:=let ⟨q,_,_,hq,_⟩:=dd'; ⟨q,hq⟩
  exact ze8 I (by rw [e]; exact True.intro) hs he (zjM hl hd (rel.put k rv) dd')
 ·subst ey eH
  cases (show u = Value.ref b from ry)
  obtain ⟨z,hd,xs,rel,dd⟩:=dt_of I.hok e
  have hz : xs.length ≤ sizeLine:=by rw [← Paired.length rel]; exact z
  have hl : (putK kvs k v).length ≤ sizeLine:=by have:=zcw kvs k v; omega
  refine wpAny_setItem_heap (hsz:=hz) (tupleKind_room_in1 hu) (zfJ I.hok eb) dd fun h' dd' hs => h _ ?_
  obtain ⟨q,es,ep,hq,h2,h3,h4,_,h5⟩:=dd'
  refine ze8 I (by rw [e]; exact True.intro) hs ⟨q,hq⟩ ⟨hl,hd,_,(rel.put k eb rv).keeps fun c ys ec => ?_,q,es,ep,hq,h2,h3,h4,h5⟩
  rw [zad (zhJ ec e (fun z => nomatch z))]
  exact ec
end
section
variable {X : Cx} {pins : List (Addr × Obj)} {σ : St} {H : Hp} {s : Shared} {a : Addr} {kvs : List (Key × V)} {k : Key} {u : Value} {A : Around} {E : Value → Shared → Prop}
theorem d_pop {v : V} {more : List Value} {Q : Value → Shared → Prop} (I : Inv X pins σ H s) (e : H a = some (.dK kvs)) (ry : RelV (kV k) u) (l : valV kvs k = some v) (hm : more = [] ∨ ∃ x,more = [x])
  (h : ∀ w' s',Inv X pins σ (upd H a (.dK (zbT kvs k))) s' → RelV v w' → Q w' s') : wpAny (model X.prog X.w) A (call (.builtin "dict.pop") (.ref a :: u :: more)) Q E s:=by
 obtain ⟨z,hd,vs,rel,dd⟩:=zfV I.hok e
 obtain ⟨w',hw,rw'⟩:=RelO.some_of (v:=v) (o:=valueAt vs k) (by rw [← l]; exact rel.val k)
 have hp : (keyPart u).isSome = true:=by
  cases k with
  | inl i => obtain ⟨t,q⟩:=(show ∃ t,u = Value.int i t from ry); subst q; rfl
  | inr x => obtain ⟨t,q⟩:=(show ∃ t,u = Value.str x t from ry); subst q; rfl
 have ha : argsOk "dict.pop" ⟨.ref a :: u :: more,[]⟩:=by
  rcases hm with q | ⟨x,q⟩
  ·subst q; exact PySem.F.args_dict_pop_2 _ _
  ·subst q; exact PySem.F.args_dict_pop_3 _ _ _
 refine call_meetsIn PySem.F.slot_dict_pop dd.typeIs PySem.F.entry_dict_pop ha (meets_dict_pop_there (zaI X.prog X.w) a (zgF ry) more hm hp)
  ⟨vs,w',dd,by rw [← rel.length]; exact z,hw,fun h' dd' hs => h w' _ ?_ rw'⟩
 have he : ∃ q,h'.get? a = some q:=let ⟨q,_,_,hq,_⟩:=dd'; ⟨q,hq⟩
 exact ze8 I (by rw [e]; exact True.intro) hs he (zjM (Nat.le_trans (dropK_le kvs k) z) hd (rel.drop k) dd')
end
noncomputable def NoSl (i : Expr) : Prop:=∀ ov iv,subscripted i false ov iv = operate [ov,iv] (getItem ov iv)
theorem subD_of {prog : Program} {w : World} {A : Around} {E : Value → Shared → Prop} {s : Shared} {env : Env} {value slice : Expr} {pos : Pos} {T id : String} {Q : Value → Shared → Prop}
  (hl : typeLookup (.type T) "__getitem__" = pure (some (.builtin id))) (hs : NoSl slice)
  (h : wpAny (model prog w) A (eval value env) (fun o s₁ => wpAny (model prog w) A (eval slice env) (fun i s₂ => s₂.TypeIs o T ∧ wpAny (model prog w) A (getItem o i) Q E s₂) E s₁) E s) :
  wpAny (model prog w) A (eval (.Subscript value slice pos) env) Q E s:=by
 refine Subscript_ (wpAny_mono h (fun o s₁ h₁ => wpAny_mono h₁ (fun i s₂ h₂ => ?_) fun _ _ x => x) fun _ _ x => x)
 obtain ⟨hT,h₂⟩:=h₂
 unfold subscriptTail
 refine wpAny_bind ?_
 rw [getitemInPython_of_ne hT.not_modules]
 refine wpAny_bind (wpAny_specialOf hT hl ?_)
 have fin : wpAny (model prog w) A (subscripted slice false o i) (fun r s₃ => wpAny (model prog w) A (letTemporaryGo value o r >>= fun _ => pure r) Q E s₃) E s₂:=by
  rw [hs o i]
  exact wpAny_operating (wpAny_mono h₂ (fun r s₃ h₃ => wpAny_bind (wpAny_letTemporaryGo (wpAny_pure h₃))) fun _ _ x => x)
 first
  | exact wpAny_pure (wpAny_bind fin)
  | exact wpAny_bind (wpAny_pure (wpAny_bind fin))
  | exact wpAny_bind fin
theorem zgI {X : Cx} {pins : List (Addr × Obj)} {σ : St} {H : Hp} {s : Shared} {a : Addr} {y : V} {o : Option V} (I : Inv X pins σ H s) (g : DGet H a y o) : s.TypeIs (.ref a) "dict":=by
 rcases g with ⟨kvs,k,e,_,_⟩ | ⟨kvs,k,b,e,_,_,_⟩
 ·obtain ⟨_,_,vs,_,dd⟩:=zhW I.hok e
  exact dd.typeIs
 ·obtain ⟨_,_,xs,_,dd⟩:=zhV I.hok e
  exact dd.typeIs
noncomputable def zem (td ty : TE) : TE:=fun σ H Q => td σ H fun x H1 => ty σ H1 fun y H2 => ∃ a v,x = .ref a ∧ DGet H2 a y (some v) ∧ Q v H2
noncomputable def tDNotIn (ty td : TE) : TE:=fun σ H Q => ty σ H fun y H1 => td σ H1 fun x H2 => ∃ a o,x = .ref a ∧ DGet H2 a y o ∧ Q (.bl (!o.isSome)) H2
noncomputable def sDPut (td ty tv : TE) : TS:=fun D σ H => tv σ H fun v H1 => td σ H1 fun x H2 => ty σ H2 fun y H3 => ∃ a H4,x = .ref a ∧ DPut H3 a y v H4 ∧ D.nx σ H4
section
variable {X : Cx} {o i e value : Expr} {pos pos' tpos : Pos} {td ty tv : TE}
theorem zbm (hu : X.A.units + 1 < cLine) (ho : PE X o td) (hi : PE X i ty) (hs : NoSl i) : PE X (.Subscript o i pos) (zem td ty):=by
 intro pins s σ H Q I h
 refine subD_of PySem.F.slot_dict_getitem.lookup hs (thn (ho pins s σ H _ I h) fun u s1 ⟨x,H1,I1,rx,q1⟩ => thn (hi pins s1 σ H1 _ I1 q1) fun iv s2 ⟨y,H2,I2,ry,a,v,ex,g,q2⟩ => ?_)
 subst ex
 obtain rfl : u = Value.ref a:=rx
 exact ⟨zgI I2 g,zjR hu I2 g ry fun w' s3 I3 rw' => ⟨v,H2,I3,rw',q2⟩⟩
theorem ziU (hu : X.A.units + 1 < cLine) (hi : PE X i ty) (ho : PE X o td) : PC X .NotIn i o (tDNotIn ty td):=by
 intro pins s σ H Q I h
 refine thn (hi pins s σ H _ I h) fun iv s1 ⟨y,H1,I1,ry,q1⟩ => thn (ho pins s1 σ H1 _ I1 q1) fun u s2 ⟨x,H2,I2,rx,a,ov,ex,g,q2⟩ => ?_
 subst ex
 obtain rfl : u = Value.ref a:=rx
 exact d_notIn hu I2 g ry fun s3 I3 => ⟨.bl (!ov.isSome),H2,I3,rfl,q2⟩
theorem zdA (hu : X.A.units + 1 < cLine) (ho : PE X o td) (hi : PE X i ty) (hv : PE X value tv) (hs : swapsWith value (some (.Subscript o i pos')) pos.line X.env = pure false) :
  PS X (.Assign [.Subscript o i pos'] value pos) (sDPut td ty tv):=by
 intro pins s σ H D I h
 refine wpAny_Assign_Subscript (thn (hv pins s σ H _ I h) fun r s1 ⟨v,H1,I1,rv,q1⟩ => thn (ho pins s1 σ H1 _ I1 q1) fun u s2 ⟨x,H2,I2,rx,q2⟩ => thn (hi pins s2 σ H2 _ I2 q2) fun iv s3 ⟨y,H3,I3,ry,a,H4,ex,g,q3⟩ => ?_) hs
 subst ex
 obtain rfl : u = Value.ref a:=rx
 exact zjQ hu I3 g ry rv fun s4 I4 => ⟨σ,H4,I4,q3⟩
end
theorem zht {P : Program} {w : World} {H : Hp} (h : Heap) (hb : sysModules < h.objs.size) : zaY P w H (h.push { cls:=.type "dict",data:=.dict #[] }) h.objs.size (.dK []) :=
 ⟨Nat.zero_le _,beq_eq_false_iff_ne.mpr (Ne.symm (Nat.ne_of_lt hb)),[],.nil,Heap.DictOf.new h⟩
noncomputable def tDNewK : TE:=fun _ H Q => ∀ p,H p = none → Q (.ref p) (upd H p (.dK []))
section
variable {X : Cx} {pos : Pos}
theorem zeL : PE X (.Dict [] [] pos) tDNewK:=fun pins s σ H Q I h =>
 wpAny_Dict_empty ⟨.ref s.heap.objs.size,_,I.laid (a:=s.heap.objs.size) (o:=.dK []) (t':=s.toks) (fun _ _ q => Heap.get?_push_of_some _ q) (Nat.le_refl _) (zht s.heap I.big),rfl,h _ (I.hok.fresh (Nat.le_refl _))⟩
end
noncomputable def zic : List (TE × TE) → St → Hp → (List (V × V) → Hp → Prop) → Prop
 | [],_,H,Q => Q [] H
 | (tk,tv) :: r,σ,H,Q => tk σ H fun x H1 => tv σ H1 fun y H2 => zic r σ H2 fun ps H3 => Q ((x,y) :: ps) H3
noncomputable abbrev VV : List (V × V) → List (Value × Value) → Prop:=Paired fun p q => RelV p.1 q.1 ∧ RelV p.2 q.2
noncomputable def PPs (X : Cx) (pos : Pos) (keys : List (Option Expr)) (values : List Expr) (trs : List (TE × TE)) : Prop :=
 ∀ (pins : List (Addr × Obj)) (s : Shared) (σ : St) (H : Hp) (Q : List (V × V) → Hp → Prop),Inv X pins σ H s → zic trs σ H Q →
  wpAny (model X.prog X.w) X.A (evalPairs (pairTrees keys values X.env pos)) (fun vs s' => ∃ ps H',Inv X pins σ H' s' ∧ VV ps vs ∧ Q ps H') X.xe s
theorem ziK {X : Cx} {pos : Pos} : PPs X pos [] [] []:=fun pins s σ H Q I h => pairTrees_nil_walk ⟨[],H,I,.nil,h⟩
theorem zbP {X : Cx} {pos : Pos} {k v : Expr} {ks : List (Option Expr)} {vs : List Expr} {tk tv : TE} {trs : List (TE × TE)} (hk : PE X k tk) (hv : PE X v tv) (hr : PPs X pos ks vs trs) :
  PPs X pos (some k :: ks) (v :: vs) ((tk,tv) :: trs):=fun pins s σ H Q I h =>
 pairTrees_cons_walk (thn (hk pins s σ H _ I h) fun u s1 ⟨x,H1,I1,rx,q1⟩ => thn (hv pins s1 σ H1 _ I1 q1) fun w2 s2 ⟨y,H2,I2,ry,q2⟩ =>
  thn (hr pins s2 σ H2 _ I2 q2) fun ws s3 ⟨ps,H3,I3,rel,q3⟩ => ⟨(x,y) :: ps,H3,I3,.cons ⟨rx,ry⟩ rel,q3⟩)
noncomputable def zdH (kvs more : List (Key × V)) : List (Key × V):=more.foldl (fun acc kv => putK acc kv.1 kv.2) kvs
theorem KV.merge : ∀ {more : List (Key × V)} {rs : List (Key × Value)} {kvs : List (Key × V)} {vs : List (Key × Value)},KV more rs → KV kvs vs → KV (zdH kvs more) (merged vs rs):=by
 intro more rs kvs vs r
 unfold KV at r
 induction r generalizing kvs vs with
 | nil => intro q; exact q
 | @cons p q ps qs h t ih =>
  intro r0
  have e : KV (putK kvs p.1 p.2) (stored vs q.1 q.2):=by
   have:=r0.put p.1 h.2
   rw [← h.1]; exact this
  exact ih e
theorem zcL : ∀ (more kvs : List (Key × V)),(zdH kvs more).length ≤ kvs.length + more.length
 | [],kvs => by show kvs.length ≤ kvs.length + 0; omega
 | p :: r,kvs => by
  have h1:=zcL r (putK kvs p.1 p.2)
  have h2:=zcw kvs p.1 p.2
  show (zdH (putK kvs p.1 p.2) r).length ≤ _
  rw [List.length_cons]; omega
theorem zeh {P : Program} {w : World} : ∀ {kvs : List (Key × V)} {ws : List (Value × Value)},VV (kvs.map fun kv => (kV kv.1,kv.2)) ws → ∃ rs,Carries (zaI P w) ws rs ∧ KV kvs rs
 | [],_,r => by rw [List.map_nil] at r; cases r; exact ⟨[],True.intro,.nil⟩
 | p :: kvs,_,r => by
  rw [List.map_cons] at r
  cases r with
  | @cons a b as bs h t =>
   obtain ⟨rs,c,q⟩:=zeh (P:=P) (w:=w) t
   obtain ⟨b1,b2⟩:=b
   exact ⟨(p.1,b2) :: rs,⟨zgF h.1,rfl,c⟩,.cons ⟨rfl,h.2⟩ q⟩
noncomputable def tDisp (trs : List (TE × TE)) : TE:=fun σ H Q => ∀ p,H p = none → zic trs σ (upd H p (.dK [])) fun ps H2 => H2 p = some (.dK []) ∧ ∃ kvs : List (Key × V),ps = kvs.map (fun kv => (kV kv.1,kv.2)) ∧ kvs.length ≤ 15 ∧ Q (.ref p) (upd H2 p (.dK (zdH [] kvs)))
theorem ziT {X : Cx} {pos : Pos} {keys : List (Option Expr)} {values : List Expr} {trs : List (TE × TE)} (h : PPs X pos keys values trs) (hall : keys.all (·.isSome) = true) (hl : keys.length = values.length) (h0 : keys ≠ [])
  (h15 : keys.length ≤ 15) : PE X (.Dict keys values pos) (tDisp trs):=by
 intro pins s σ H Q I q
 have hn:=I.hok.fresh (Nat.le_refl s.heap.objs.size)
 have I1:=I.laid (a:=s.heap.objs.size) (o:=.dK []) (h':=s.heap.push { cls:=.type "dict",data:=.dict #[] }) (t':=s.toks) (fun _ _ q => Heap.get?_push_of_some _ q) (Nat.le_refl _) (zht s.heap I.big)
 refine wpAny_Dict_walk (knd:=zaI X.prog X.w) hall hl h0 h15 (thn (h pins _ σ _ _ I1 (q _ hn)) fun ws s2 ⟨ps,H2,I2,rel,e,kvs,ep,lk,q2⟩ => ?_)
 subst ep
 obtain ⟨rs,c,rk⟩:=zeh (P:=X.prog) (w:=X.w) rel
 obtain ⟨z,hd,vs0,r0,dd⟩:=zfV I2.hok e
 cases r0
 refine ⟨rs,c,dd,fun h' dd' hs => ⟨.ref s.heap.objs.size,_,?_,rfl,q2⟩⟩
 have hz : (zdH [] kvs).length ≤ sizeLine:=by
  have h1:=zcL kvs []
  rw [List.length_nil] at h1
  rw [sizeLine_eq]; omega
 have he : ∃ q,h'.get? s.heap.objs.size = some q:=let ⟨q,_,_,hq,_⟩:=dd'; ⟨q,hq⟩
 exact ze8 I2 (by rw [e]; exact True.intro) hs he (zjM hz hd (rk.merge .nil) dd')
structure M1 (X : Cx) (o : Expr) (m : Str) (apos : Pos) (e : Expr) (cpos : Pos) : Prop where
 base : attributeBase o m X.env (eval o X.env) = eval o X.env
 few : ((backTo cpos (starEach [e] X.env)).all (fun x => !x.1) && (backToKw cpos (keywordEach [] X.env)).all (fun x => x.1.isSome)
  && decide (([e] : List Expr).length + ([] : List Keyword).length + (if ([] : List Keyword).isEmpty then 0 else 1) < 30)) = true
 line : (apos.endLine == cpos.line) = true
 trees : backTo cpos (starEach [e] X.env) = [(false,eval e X.env)]
structure M2 (X : Cx) (o : Expr) (m : Str) (apos : Pos) (e f : Expr) (cpos : Pos) : Prop where
 base : attributeBase o m X.env (eval o X.env) = eval o X.env
 few : ((backTo cpos (starEach [e,f] X.env)).all (fun x => !x.1) && (backToKw cpos (keywordEach [] X.env)).all (fun x => x.1.isSome)
  && decide (([e,f] : List Expr).length + ([] : List Keyword).length + (if ([] : List Keyword).isEmpty then 0 else 1) < 30)) = true
 line : (apos.endLine == cpos.line) = true
 trees : backTo cpos (starEach [e,f] X.env) = [(false,eval e X.env),(false,eval f X.env)]
noncomputable def IsD (H : Hp) (a : Addr) : Prop:=(∃ kvs,Rd H a (.dK kvs)) ∨ ∃ kvs,Rd H a (.dT kvs)
theorem isD_at {X : Cx} {pins : List (Addr × Obj)} {σ : St} {H : Hp} {s : Shared} {a : Addr} (I : Inv X pins σ H s) (d : IsD H a) :
  s.TypeIs (.ref a) "dict" ∧ (∀ b,Value.ref a = .ref b → ∃ ob,s.heap.get? b = some ob ∧ ob.dict = none) ∧ (a == sysModules) = false:=by
 rcases d with ⟨kvs,e⟩ | ⟨kvs,e⟩
 ·obtain ⟨_,hd,vs,_,dd⟩:=zhW I.hok e
  refine ⟨dd.typeIs,fun b q => ?_,hd⟩
  cases q
  obtain ⟨ob,_,_,h1,h2,_⟩:=dd
  exact ⟨ob,h1,h2.2.1⟩
 ·obtain ⟨_,hd,xs,_,dd⟩:=zhV I.hok e
  refine ⟨dd.typeIs,fun b q => ?_,hd⟩
  cases q
  obtain ⟨ob,_,_,h1,h2,_⟩:=dd
  exact ⟨ob,h1,h2.2.1⟩
section
variable {X : Cx} {pins : List (Addr × Obj)} {σ : St} {H : Hp} {s : Shared} {a : Addr} {y d : V} {u r : Value} {o : Option V} {A : Around} {E : Value → Shared → Prop}
theorem d_get2 {Q : Value → Shared → Prop} (hu : A.units + 1 < cLine) (I : Inv X pins σ H s) (g : DGet H a y o) (ry : RelV y u) (rd : RelV d r) (h : ∀ w' s',Inv X pins σ H s' → RelV (o.getD d) w' → Q w' s') :
  wpAny (model X.prog X.w) A (call (.builtin "dict.get") [.ref a,u,r]) Q E s:=by
 rcases g with ⟨kvs,k,e,ey,l⟩ | ⟨kvs,k,b,e,ey,eb,l⟩
 ·subst ey
  obtain ⟨z,hd,vs,rel,dd⟩:=zhW I.hok e
  refine call_meetsIn PySem.F.slot_dict_get dd.typeIs PySem.F.entry_dict_get (PySem.F.args_dict_get_3 _ _ _) (meets_dict_get_default (zaI X.prog X.w) a (zgF ry) hd r) ⟨_,dd.mapOf,h _ _ (I.tok _) ?_⟩
  rw [l]
  exact (rel.val k).getD rd
 ·subst ey
  cases (show u = Value.ref b from ry)
  obtain ⟨z,hd,xs,rel,dd⟩:=zhV I.hok e
  refine call_meetsIn PySem.F.slot_dict_get dd.typeIs PySem.F.entry_dict_get (PySem.F.args_dict_get_3 _ _ _) (meetsH_dict_get_default (tupleKind (zaI X.prog X.w)) a b hd r) ⟨tupleKind_room_in1 hu,k,xs,zfJ I.hok eb,dd,h _ _ (I.tok _) ?_⟩
  rw [l]
  exact (rel.val k).getD rd
end
noncomputable def tDGet2 (td ty tx : TE) : TE:=fun σ H Q => td σ H fun x H1 => ∃ a,x = .ref a ∧ IsD H1 a ∧ ty σ H1 fun y H2 => tx σ H2 fun z H3 => ∃ o,DGet H3 a y o ∧ Q (o.getD z) H3
noncomputable def tDPop1 (td ty : TE) : TE:=fun σ H Q => td σ H fun x H1 => ∃ a,x = .ref a ∧ IsD H1 a ∧ ty σ H1 fun y H2 => ∃ kvs k v,H2 a = some (.dK kvs) ∧ y = kV k ∧ valV kvs k = some v ∧ Q v (upd H2 a (.dK (zbT kvs k)))
section
variable {X : Cx} {o e f : Expr} {apos cpos : Pos} {td ty tx : TE}
theorem zdj (hu : X.A.units + 1 < cLine) (ho : PE X o td) (he : PE X e ty) (hf : PE X f tx) (m : M2 X o "get" apos e f cpos) : PE X (.Call (.Attribute o "get" apos) [e,f] [] cpos) (tDGet2 td ty tx):=by
 intro pins s σ H Q I h
 refine wpAny_Call_method m.base m.few m.line PySem.F.plainAttrs_dict PySem.F.slot_dict_get PySem.F.type_dict_get (thn (ho pins s σ H _ I h) fun u s1 ⟨x,H1,I1,rx,a,ex,d,q1⟩ => ?_)
 subst ex
 obtain rfl : u = Value.ref a:=rx
 obtain ⟨t1,t2,_⟩:=isD_at I1 d
 refine ⟨t1,t2,?_⟩
 rw [m.trees]
 refine Calls.callWith_builtin rfl (Calls.evalArgs_plain (Calls.spliced_cons (thn (he pins s1 σ H1 _ I1 q1) fun iv s2 ⟨y,H2,I2,ry,q2⟩ =>
  Calls.spliced_cons (thn (hf pins s2 σ H2 _ I2 q2) fun fv s3 ⟨z,H3,I3,rz,ov,g,q3⟩ => Calls.spliced_nil ?_))))
 exact d_get2 hu I3 g ry rz fun w' s4 I4 rw' => ⟨_,H3,I4,rw',q3⟩
theorem pe_dpop1 (ho : PE X o td) (he : PE X e ty) (m : M1 X o "pop" apos e cpos) : PE X (.Call (.Attribute o "pop" apos) [e] [] cpos) (tDPop1 td ty):=by
 intro pins s σ H Q I h
 refine wpAny_Call_method m.base m.few m.line PySem.F.plainAttrs_dict PySem.F.slot_dict_pop PySem.F.type_dict_pop (thn (ho pins s σ H _ I h) fun u s1 ⟨x,H1,I1,rx,a,ex,d,q1⟩ => ?_)
 subst ex
 obtain rfl : u = Value.ref a:=rx
 obtain ⟨t1,t2,_⟩:=isD_at I1 d
 refine ⟨t1,t2,?_⟩
 rw [m.trees]
 refine Calls.callWith_builtin rfl (Calls.evalArgs_plain (Calls.spliced_cons (thn (he pins s1 σ H1 _ I1 q1) fun iv s2 ⟨y,H2,I2,ry,kvs,k,v,ea,ey,l,q2⟩ => Calls.spliced_nil ?_)))
 subst ey
 exact d_pop I2 ea ry l (.inl rfl) fun w' s3 I3 rw' => ⟨v,_,I3,rw',q2⟩
end
section
variable {X : Cx} {pins : List (Addr × Obj)} {σ : St} {H : Hp} {s : Shared} {a : Addr} {kvs : List (Key × V)} {A : Around} {E : Value → Shared → Prop}
end
section
variable {X : Cx} {pins : List (Addr × Obj)} {σ : St} {H : Hp} {s : Shared} {a : Addr} {y : V} {u : Value} {A : Around} {E : Value → Shared → Prop}
end
end L2
namespace Att
open PySem PySem.W PySem.Calls PyProof.Rows
theorem zdN {P : Params} {h : Heap} : ∀ (ns : List Int) (vs : List Value),WellAll P h vs (ns.map WData.int) → IntsAre vs ns:=by
 intro ns
 induction ns with
 | nil =>
  intro vs w
  rw [List.map_nil] at w
  cases w
  exact .nil
 | cons n ns ih =>
  intro vs w
  rw [List.map_cons] at w
  cases w with
  | cons a b =>
   cases a
   exact .cons _ _ (ih _ b)
theorem ziz {l : OpenLaw} {n : Nat} (hn : l.most = some n) {P : Params} {h : Heap} {args : List WData} {vals : List Value}
  (hpre : l.row.toRowW.claim.pre args = true) (hwl : WellAll P h vals args) :
  ∃ a vs ns,vals = [Value.ref a] ∧ args = [WData.list (ns.map WData.int)] ∧ h.get? a = some { cls:=.type "list",data:=.seq vs.toArray } ∧ IntsAre vs ns ∧ ns.length ≤ n:=by
 have hsh : WShape.hasAll [] args [.list .int] = true:=(pre_splitW hpre).1
 have hc : l.pre.holds [] { args:=args } = true:=(pre_splitW hpre).2
 obtain ⟨d,r,rfl,h1,h2⟩:=hasAllW_cons hsh
 obtain rfl:=hasAllW_nil h2
 obtain ⟨xs,rfl,h3⟩:=hasW_list h1
 obtain ⟨ns,rfl⟩:=items_int h3
 have hlen : ns.length ≤ n:=by
  unfold OpenLaw.pre at hc
  have h4 : (WTm.not (.lt (.lit (.int (n : Int))) (.len (.arg 0)))).holds [] { args:=[.list (ns.map .int)] } = true:=by
   have h4:=(holds_andW hc).1
   rw [hn] at h4
   exact h4
  have h5:=condW_of h4 (w_not (w_lt w_lit (w_len_list (w_arg rfl))))
  rw [List.length_map] at h5
  refine Nat.le_of_not_lt fun q => ?_
  have q' : (n : Int) < ((ns.length : Nat) : Int):=by omega
  first
   | (rw [decide_eq_true q'] at h5; exact absurd h5 (by decide))
   | (simp at h5; omega)
 cases hwl with
 | cons w1 w2 =>
  cases w2
  cases w1 with
  | list ho hall => exact ⟨_,_,ns,rfl,rfl,ho,zdN ns _ hall,hlen⟩
theorem ziL (l : OpenLaw) (args : List WData) : l.row.toRowW.claim.post args (.bool true) args = true :=
 postW_of (r:=l.row.toRowW) (X:=(true == true))
  (show WShape.has [] (.bool true) .bool = true by first | rfl | decide | simp [WShape.has,WShape.arms,WShape.armsAll])
  (show (WTm.eq .res (.lit (.bool true))).value [] { args:=args,res:=some (.bool true),after:=args } = some (.bool (true == true)) from w_eq_bool (w_res rfl) w_lit) rfl
theorem attach_call {l : OpenLaw} {n : Nat} {q : Program} {loose : List Str} {XP : (Str → Option Value) → Heap → Prop} {YP : World → Heap → Prop} {d : DefRec}
  (hn : l.most = some n) (hdf : d.params.defaults = [])
  (call : ∀ (w : World) (s₀ s₁ : Shared) (mg mb : Str → Option Value) (fa : Addr) (o : Obj) (pm cd doc : Value) (a : Addr) (vs : List Value) (ns : List Int),
   Ground q loose [] XP w s₀ mg mb s₁.heap → YP w s₁.heap →
   s₁.heap.get? fa = some o → o.data = .func (docDef d.name d.params d.body d.scope pm cd doc) → s₁.heap.CodeRec cd d.name → mg d.name = some (.ref fa) →
   s₁.heap.get? a = some { cls:=.type "list",data:=.seq vs.toArray } → IntsAre vs ns → ns.length ≤ n → s₁.gens = #[] →
   codeAny (model l.prog w) callerA (.call (.ref fa) ⟨[.ref a],[]⟩) (fun r s' => r = .ok (.ret (.bool true)) ∧ OldK s₁.heap s'.heap ∧ s'.os = s₁.os ∧ AllBare s'.gens) s₁) :
  WalkO q loose XP YP l.row.toRowW d [] (fun f vs => PySem.call f vs):=by
 intro w s₀ s₁ mg mb G Y fa o pm cd doc dV kV ho hd hcd hD hmg hg args vals as hpre hlay hrd hwl hlo
 obtain rfl : dV = .none:=Dflts.none hD hdf
 obtain rfl : kV = .none:=Dflts.noKw hD
 obtain ⟨a,vs,ns,rfl,rfl,hobj,hints,hlen⟩:=ziz hn hpre hwl
 refine enter_call (codeAny_mono (call w s₀ s₁ mg mb fa o pm cd doc a vs ns G Y ho (fd_plain hd) hcd hmg hobj hints hlen hg) fun r s' hq => ?_)
 obtain ⟨rfl,h2,h3,h4⟩:=hq
 exact ⟨.inl ⟨.bool true,.bool true,[],rfl,fun _ => rfl,.bool true,ziL l _,fun _ => ⟨List.Pairwise.nil,fun _ hm => (nomatch hm)⟩⟩,h2,h3,h4⟩
section
variable {prog : Program} {w : World} {A : Around} {E : Value → Shared → Prop} {s : Shared} {K : Frag}
end
end Att
namespace L2
open PySem PySem.Spec PyProof.Rows
theorem zff : ∀ {vs : List Value} {ns : List Int},IntsAre vs ns → Vals (ns.map V.int) vs
 | _,_,.nil => .nil
 | _,_,.cons n t h => .cons ⟨t,rfl⟩ (zff h)
noncomputable def Only (H : Hp) : Prop:=∀ b,H b = none ∨ ∃ o xs,H b = some (.frz o (.lst xs))
theorem law_call {P : Program} {w : World} {K : W.Frag} {mg mb : Str → Option Value} {CX : CXT} {k : Nat} {fa a : Addr} {fd : FuncData} {x : Str} {sp : Sp} {s₁ : Shared} {vs : List Value} {ns : List Int}
  (KX : K.In s₁.heap) (hns : s₁.heap.Ns mainGlobals mg) (hb : s₁.heap.Ns builtinsNs mb) (hbb : ∀ x : Str,x ≠ "__name__" → mb x = bootBuiltins x) (hlim : s₁.heap.NoLimit) (hg : s₁.gens = #[])
  (ha : s₁.heap.get? a = some { cls:=.type "list",data:=.seq vs.toArray }) (hi : IntsAre vs ns) (hl : ns.length ≤ sizeLine) (hr : Room k callerA)
  (F : ∀ base : Heap,K.In base → base.Ns mainGlobals mg → FnOk P w K mg base CX k fa fd [x] sp) (hbind : ∀ (s : Shared) (u : Value),BindsTo s fd ⟨[u],[]⟩ [(x,u)])
  (hsp : ∀ H : Hp,Only H → SqL K H a (ns.map V.int) → sp [.ref a] H (fun v _ => v = .bl true) fun _ _ _ => False)
  (hCX : ∀ H e s',CX [] H s₁ (fun _ _ _ => False) e s' → False) :
  codeAny (model P w) callerA (.call (.ref fa) ⟨[.ref a],[]⟩) (fun r s' => r = .ok (.ret (.bool true)) ∧ OldK s₁.heap s'.heap ∧ s'.os = s₁.os ∧ AllBare s'.gens) s₁:=by
 have rv:=zff hi
 have lenV:=hi.length
 have core : ∀ H : Hp,Only H → SqL K H a (ns.map V.int) → HOk P w H s₁.heap → (∀ b,H b ≠ none → b = a) → (H a ≠ none → K.lookup a = none) →
   codeAny (model P w) callerA (.call (.ref fa) ⟨[.ref a],[]⟩) (fun r s' => r = .ok (.ret (.bool true)) ∧ OldK s₁.heap s'.heap ∧ s'.os = s₁.os ∧ AllBare s'.gens) s₁:=by
  intro H hO hS hok hA hK
  have base_of : ∀ {b : Addr} {o : Obj},s₁.heap.get? b = some o → H b = none → (hidT s₁.heap H).get? b = some o:=fun e n => hidT_get e n
  have noA : ∀ {b : Addr} {o : Obj} {es : Array DictEntry} {ep : Nat},s₁.heap.get? b = some o → o.data = .dict es ep → H b = none:=fun {b o es ep} e d => by
   cases q : H b with
   | none => rfl
   | some u =>
    have e' : b = a:=hA b (by rw [q]; simp)
    subst e'
    rw [ha] at e; cases e
    have d' : Data.seq vs.toArray _ = Data.dict es ep:=d
    cases d'
  have nsK : ∀ {b : Addr} {m : Str → Option Value},s₁.heap.Ns b m → (hidT s₁.heap H).Ns b m:=fun {b m} ⟨o,es,ep,e,d,r⟩ => ⟨o,es,ep,base_of e (noA e d),d,r⟩
  have hKb : K.In (hidT s₁.heap H):=fun b o e => base_of (KX b o e) (by
   cases q : H b with
   | none => rfl
   | some u =>
    have e' : b = a:=hA b (by rw [q]; simp)
    subst e'
    rw [hK (by rw [q]; simp)] at e; cases e)
  have hM : Mod K mg (hidT s₁.heap H):=⟨hKb,nsK hns,⟨mb,nsK hb,hbb⟩,let ⟨mc,h1,h2⟩:=hlim; ⟨mc,nsK h1,h2⟩⟩
  have e0 : Env0 P w K mg (hidT s₁.heap H) callerA [] s₁ H:=⟨rfl,hM,fun b o e => of_hidT e,Nat.le_of_eq (zjz _ _),trivial,fun b hb => absurd (show b ∈ ([] : List Addr) from hb) (by simp),hok,.of_eq hg⟩
  refine codeAny_mono ((F _ hKb (nsK hns)).run callerA [] s₁ H ⟨[.ref a],[]⟩ [.ref a] [.ref a] _ _ hr e0 (hbind s₁ (.ref a)) (.cons rfl .nil) (hsp H hO hS)) fun r s' h => ?_
  cases r with
  | error e => exact (hCX H e s' h).elim
  | ok fl =>
   cases fl with
   | next => exact False.elim h
   | brk => exact False.elim h
   | cont => exact False.elim h
   | ret u =>
    obtain ⟨v,H',os,bare,un,hok',r',q⟩:=h
    have q' : v = .bl true:=q
    subst q'
    obtain rfl : u = Value.bool true:=r'
    refine ⟨rfl,OldK.of_keep fun b o e => ?_,os,bare⟩
    cases q : H b with
    | none => exact un.keep b o e q (by intro z; exact absurd (show b ∈ ([] : List Addr) from z) (by simp)) (by simp)
    | some u =>
     rcases hO b with z | ⟨ob,xs,z⟩
     ·rw [q] at z; cases z
     ·have z2:=un.frzs b ob _ z
      obtain ⟨e1,_⟩:=hok b _ z
      obtain ⟨e2,_⟩:=hok' b _ z2
      rw [e] at e1; cases e1
      exact e2
 cases hk : K.lookup a with
 | some o =>
  have e:=KX a o hk
  rw [ha] at e
  cases e
  refine core (fun _ => none) (fun _ => .inl rfl) (.inr ⟨_,vs.toArray,_,hk,rfl,rfl,rfl,by rw [List.size_toArray,lenV]; exact hl,by simpa using rv⟩) (fun b u z => by have z' : (none : Option HO) = some u:=z; cases z') (fun b z => absurd rfl z) fun z => absurd rfl z
 | none =>
  refine core (fun b => if b = a then some (.frz { cls:=.type "list",data:=.seq vs.toArray } (.lst (ns.map V.int))) else none) (fun b => ?_) (.inl (.inr ⟨{ cls:=.type "list",data:=.seq vs.toArray },if_pos rfl⟩)) (fun b u z => ?_) (fun b z => ?_) fun _ => hk
  ·by_cases hb : b = a
   ·exact .inr ⟨_,_,if_pos hb⟩
   ·exact .inl (if_neg hb)
  ·by_cases hb : b = a
   ·have z':=(if_pos hb).symm.trans z
    cases z'
    subst hb
    exact ⟨ha,by rw [List.length_map]; exact hl,vs,_,rv,ha⟩
   ·have z':=(if_neg hb).symm.trans z
    cases z'
  ·by_cases hb : b = a
   ·exact hb
   ·exact absurd (if_neg hb) z
end L2
namespace L2
open PySem PySem.Spec PyProof.Rows
theorem walk_of {l : W.OpenLaw} {n k : Nat} {q : Program} {loose : List Str} {XP : (Str → Option Value) → Heap → Prop} {YP : World → Heap → Prop} {d : DefRec} {K : Params → W.Frag} {CX : World → CXT} {sp : World → Sp} {x : Str}
  (hn : l.most = some n) (hn2 : n ≤ sizeLine) (hdf : d.params.defaults = []) (hr : Room k callerA)
  (hY : ∀ (w : World) (h : Heap),YP w h → (K w.params).In h)
  (F : ∀ (w : World) (mg : Str → Option Value) (fa : Addr) (h : Heap),(K w.params).In h → h.Ns mainGlobals mg → mg d.name = some (.ref fa) →
   ∃ fd : FuncData,(∀ (s : Shared) (u : Value),BindsTo s fd ⟨[u],[]⟩ [(x,u)]) ∧
    ∀ base : Heap,(K w.params).In base → base.Ns mainGlobals mg → FnOk l.prog w (K w.params) mg base (CX w) k fa fd [x] (sp w))
  (hsp : ∀ (w : World) (H : Hp) (a : Addr) (ns : List Int),ns.length ≤ n → Only H → SqL (K w.params) H a (ns.map V.int) → sp w [.ref a] H (fun v _ => v = .bl true) fun _ _ _ => False)
  (hCX : ∀ (w : World) (H : Hp) (s : Shared) (e : Value) (s' : Shared),CX w [] H s (fun _ _ _ => False) e s' → False) :
  W.WalkO q loose XP YP l.row.toRowW d [] (fun f vs => PySem.call f vs):=by
 refine Att.attach_call hn hdf fun w s₀ s₁ mg mb fa o pm cd doc a vs ns G Y ho hd hcd hmg hobj hints hlen hg => ?_
 have KX:=hY w _ Y
 obtain ⟨fd,hb,hF⟩:=F w mg fa _ KX G.T.g hmg
 exact law_call KX G.T.g G.T.b G.T.builtins G.T.nolimit hg hobj hints (Nat.le_trans hlen hn2) hr hF hb (fun H hO hS => hsp w H a ns hlen hO hS) fun H e s' => hCX w H s₁ e s'
end L2
namespace L2
open PySem PySem.Spec PyProof.Rows
noncomputable def zaW (s : Stmt) (j : Nat) : Stmt:=match s with
 | .ClassDef _ _ _ body _ _ _ _ _ _ _ => body.getD j (.Pass ⟨0,0,0,0⟩)
 | _ => .Pass ⟨0,0,0,0⟩
noncomputable def zc3 (s : Stmt) : Arguments:=match s with
 | .FunctionDef _ a _ _ _ _ _ _ _ _ => a
 | _ => { posonlyargs:=[],args:=[],vararg:=none,kwonlyargs:=[],kw_defaults:=[],kwarg:=none,defaults:=[] }
noncomputable def zca (s : Stmt) : List Stmt:=match s with
 | .FunctionDef _ _ b _ _ _ _ _ _ _ => b
 | _ => []
noncomputable def zak (s : Stmt) : Scope:=match s with
 | .FunctionDef _ _ _ _ _ _ sc _ _ _ => sc
 | _ => { kind:=.function,names:=[],isGenerator:=false,isCoroutine:=false }
noncomputable abbrev E0 : XK:=fun _ _ _ => False
structure Fun (K : W.Frag) (x qual : Str) (st : Stmt) (f : Addr) (fd : FuncData) : Prop where
 ex : ∃ (oc : Value) (od : Option Addr) (kV doc pm : Value) (an : Option Addr) (cdv ct : Value) (osl : Array (Option Value)),
  fd = W.fnOf x qual (zc3 st) (zca st) (zak st) .none kV doc pm an cdv ct ∧ K.lookup f = some ⟨oc,od,.func fd,osl⟩ ∧ W.codeIn K cdv qual = true
 kp : W.keepIn K (.ref f) = true
section
variable {P : Program} {w : World} {K : W.Frag} {mg : Str → Option Value} {base : Heap}
theorem Fun.binds {x qual : Str} {st : Stmt} {f : Addr} {fd : FuncData} {ps : List Str} (F : Fun K x qual st f fd)
  (h : ∀ (kV doc pm : Value) (an : Option Addr) (cdv ct : Value) (us : List Value),us.length = ps.length → bindArgs (W.fnOf x qual (zc3 st) (zca st) (zak st) .none kV doc pm an cdv ct) ⟨us,[]⟩ = pure (ps.zip us)) : zcf K fd ps []:=by
 obtain ⟨oc,od,kV,doc,pm,an,cdv,ct,osl,rfl,lk,hcd⟩:=F.ex
 exact .all (h kV doc pm an cdv ct)
theorem fun_mk {x qual : Str} {st : Stmt} {f : Addr} {oc : Value} {od an : Option Addr} {osl : Array (Option Value)} {kV doc pm cdv ct : Value} (l : K.lookup f = some ⟨oc,od,.func (W.fnOf x qual (zc3 st) (zca st) (zak st) .none kV doc pm an cdv ct),osl⟩)
  (c : W.codeIn K cdv qual = true) (k : W.keepIn K (.ref f) = true) : Fun K x qual st f (W.fnOf x qual (zc3 st) (zca st) (zak st) .none kV doc pm an cdv ct):=⟨⟨oc,od,kV,doc,pm,an,cdv,ct,osl,rfl,l,c⟩,k⟩
end
theorem zdd {A : Around} {k : Nat} (hr : Room k A) : A.units + 1 < cLine:=Nat.lt_of_le_of_lt (Nat.add_le_add_left (by decide : 1 ≤ 64) _) hr.units
section
variable {X : Cx}
theorem pv (i : Nat) {x : Str} {pos : Pos} (hN : X.N[i]? = some x:=by rfl) (hv : Vis X.env.scope x:=by first | exact Or.inl rfl | exact Or.inr (Or.inl rfl) | exact Or.inr (Or.inr rfl)) (hd : (x == ("__debug__" : Str)) = false:=by decide)
  (hcd : (x == ("__classdict__" : Str)) = false:=by decide) : PE X (.Name x pos) (tVar i):=pe_var hN hv hd hcd
end
theorem iteF {A B : Prop} (h : B) : if false = true then A else B:=by
 rw [if_neg Bool.false_ne_true]
 exact h
theorem iteT {A B : Prop} (h : A) : if true = true then A else B:=by
 rw [if_pos rfl]
 exact h
theorem ite2 {c A B : Prop} [Decidable c] (h1 : c → A) (h2 : ¬ c → B) : if c then A else B:=by
 by_cases h : c
 ·rw [if_pos h]
  exact h1 h
 ·rw [if_neg h]
  exact h2 h
theorem iteNS {c A B : Prop} [Decidable c] (hc : c) (h : B) : if (!decide c) = true then A else B:=by
 rw [decide_eq_true hc]
 exact iteF h
noncomputable def Same (H H' : Hp) : Prop:=∀ b o,H b = some o → H' b = some o
theorem Same.refl (H : Hp) : Same H H:=fun _ _ h => h
theorem Same.trans {H H1 H2 : Hp} (a : Same H H1) (b : Same H1 H2) : Same H H2:=fun c o h => b c o (a c o h)
theorem Same.free {H H' : Hp} (e : Same H H') {l : Addr} (h : H' l = Option.none) : H l = Option.none:=by
 cases q : H l with
 | none => rfl
 | some o =>
  rw [e l o q] at h
  cases h
section
variable {κ : Type} [DecidableEq κ]
theorem valV_not {kvs : List (κ × V)} {k : κ} (h : valV kvs k = none) : ¬ k ∈ kvs.map (·.1):=by
 intro m
 obtain ⟨p,hp,e⟩:=List.mem_map.mp m
 have q : (kvs.any fun kv => decide (kv.1 = k)) = true:=List.any_eq_true.mpr ⟨p,hp,decide_eq_true e⟩
 rw [zbL,h] at q
 exact absurd q (by simp)
theorem valV_in {kvs : List (κ × V)} {k : κ} {v : V} (h : valV kvs k = some v) : k ∈ kvs.map (·.1):=by
 have q : (kvs.any fun kv => decide (kv.1 = k)) = true:=by
  rw [zbL,h]
  all_goals rfl
 obtain ⟨p,hp,e⟩:=List.any_eq_true.mp q
 exact List.mem_map.mpr ⟨p,hp,of_decide_eq_true e⟩
theorem zi2 : ∀ {l : List κ} {k : κ},l.Nodup → ¬ k ∈ l → (l ++ [k]).Nodup
 | [],k,_,_ => by simp
 | a :: r,k,h,hk => by
  obtain ⟨h1,h2⟩:=List.nodup_cons.mp h
  show (a :: (r ++ [k])).Nodup
  refine List.nodup_cons.mpr ⟨fun m => ?_,zi2 h2 fun m => hk (List.mem_cons.mpr (Or.inr m))⟩
  rcases List.mem_append.mp m with q | q
  ·exact h1 q
  ·exact hk (List.mem_cons.mpr (Or.inl (List.mem_singleton.mp q).symm))
theorem nd_putK {kvs : List (κ × V)} {k : κ} (v : V) (hn : (kvs.map (·.1)).Nodup) (h : valV kvs k = none) : ((putK kvs k v).map (·.1)).Nodup:=by
 rw [zg3 v h,List.map_append]
 exact zi2 hn (valV_not h)
theorem zdS {p : κ × V} {r : List (κ × V)} {k : κ} (e : p.1 = k) : zbT (p :: r) k = zbT r k:=by
 unfold zbT
 rw [List.filter_cons,if_neg (by simp [e])]
theorem zcQ {p : κ × V} {r : List (κ × V)} {k : κ} (e : ¬ p.1 = k) : zbT (p :: r) k = p :: zbT r k:=by
 unfold zbT
 rw [List.filter_cons,if_pos (by simp [e])]
theorem zhs : ∀ {kvs : List (κ × V)} {k : κ},¬ k ∈ kvs.map (·.1) → zbT kvs k = kvs
 | [],_,_ => rfl
 | p :: r,k,h => by
  have h' : ¬ k ∈ r.map (·.1):=fun m => by
   obtain ⟨q,hq,e⟩:=List.mem_map.mp m
   exact h (List.mem_map.mpr ⟨q,List.mem_cons.mpr (Or.inr hq),e⟩)
  rw [zcQ fun e => h (List.mem_map.mpr ⟨p,List.mem_cons.mpr (Or.inl rfl),e⟩),zhs h']
theorem zjL {kvs : List (κ × V)} {k : κ} {p : κ × V} (h : p ∈ zbT kvs k) : p ∈ kvs:=(List.mem_filter.mp h).1
theorem zeS : ∀ {kvs : List (κ × V)} {k : κ},(kvs.map (·.1)).Nodup → ((zbT kvs k).map (·.1)).Nodup
 | [],_,_ => List.nodup_nil
 | p :: r,k,h => by
  have h : (p.1 :: r.map (·.1)).Nodup:=h
  obtain ⟨h1,h2⟩:=List.nodup_cons.mp h
  by_cases e : p.1 = k
  ·rw [zdS e]
   exact zeS h2
  ·rw [zcQ e]
   show (p.1 :: (zbT r k).map (·.1)).Nodup
   refine List.nodup_cons.mpr ⟨fun m => h1 ?_,zeS h2⟩
   obtain ⟨q,hq,eq⟩:=List.mem_map.mp m
   exact List.mem_map.mpr ⟨q,zjL hq,eq⟩
theorem zfU : ∀ {kvs : List (κ × V)} {k : κ},(kvs.map (·.1)).Nodup → k ∈ kvs.map (·.1) → (zbT kvs k).length + 1 = kvs.length
 | [],_,_,m => by simp at m
 | p :: r,k,h,m => by
  have h : (p.1 :: r.map (·.1)).Nodup:=h
  have m : k = p.1 ∨ k ∈ r.map (·.1):=List.mem_cons.mp m
  obtain ⟨h1,h2⟩:=List.nodup_cons.mp h
  by_cases e : p.1 = k
  ·subst e
   rw [zdS rfl,zhs h1]
   all_goals rfl
  ·have m' : k ∈ r.map (·.1):=m.resolve_left fun z => e z.symm
   have q:=zfU h2 m'
   rw [zcQ e,List.length_cons,List.length_cons]
   omega
end
end L2
set_option maxHeartbeats 4000000
namespace L2
open PySem
theorem rX {α : Type} {A P : α → Prop} {w : α} (h : A w) (q : P w) : ∃ v,A v ∧ P v:=⟨w,h,q⟩
theorem r2 {x y : V} {P : Int → Int → Prop} {i j : Int} (hx : x = .int i) (hy : y = .int j) (q : P i j) : ∃ i j,x = .int i ∧ y = .int j ∧ P i j:=⟨i,j,hx,hy,q⟩
theorem rM {H : Hp} {C : Addr} {m : Str} {P : Prop} {x : V} (a dx : Addr) {fs : List (Str × V)} (hx : x = .ref a) (h : H a = some (.ins C dx fs)) (hl : fs.lookup m = none) (q : P) : ∃ a dx fs,x = .ref a ∧ H a = some (.ins C dx fs) ∧ fs.lookup m = none ∧ P:=⟨a,dx,fs,hx,h,hl,q⟩
theorem rT {K : W.Frag} {H : Hp} {x y : V} {P : V → Prop} (t : Addr) {xs : List V} (i : Int) {v : V} (hx : x = .ref t) (hy : y = .int i) (h : SqT K H t xs) (ha : atI xs i = some v) (q : P v) : ∃ p xs i v,x = .ref p ∧ y = .int i ∧ SqT K H p xs ∧ atI xs i = some v ∧ P v:=⟨t,xs,i,v,hx,hy,h,ha,q⟩
theorem rA {K : W.Frag} {x : V} {H : Hp} {n : Str} {P : V → Prop} (a C dx : Addr) {fs : List (Str × V)} {v : V} (hx : x = .ref a) (h : H a = some (.ins C dx fs)) (cl : Cls K C) (na : zay K C n) (hv : fs.lookup n = some v) (q : P v) :
  ∃ a C dx fs v,x = .ref a ∧ H a = some (.ins C dx fs) ∧ Cls K C ∧ zay K C n ∧ fs.lookup n = some v ∧ P v:=⟨a,C,dx,fs,v,hx,h,cl,na,hv,q⟩
end L2
namespace L2
open PySem PySem.Spec PyProof.Rows
section
variable {P : Program} {w : World} {H H' : Hp} {h h' : Heap} {a : Addr} {o : HO}
theorem zaY.at (x : zaY P w H h a o) : ∃ ob,h.get? a = some ob:=by
 induction o with
 | lst xs => obtain ⟨_,its,n,_,e⟩:=x; exact ⟨_,e⟩
 | tup xs => obtain ⟨_,its,_,ob,e,_⟩:=x; exact ⟨ob,e⟩
 | dK kvs => obtain ⟨_,_,vs,_,ob,es,ep,e,_⟩:=x; exact ⟨ob,e⟩
 | dT kvs => obtain ⟨_,_,xs,_,ob,es,ep,e,_⟩:=x; exact ⟨ob,e⟩
 | set S n => obtain ⟨ob,es,ep,t,e,_⟩:=x; exact ⟨ob,e⟩
 | ins C dx fs => obtain ⟨_,_,_,e,_⟩:=x; exact ⟨_,e⟩
 | own y => exact x
 | xd fs => obtain ⟨mA,⟨od,es,ep,e,_⟩,_⟩:=x; exact ⟨od,e⟩
 | rng lo hi => obtain ⟨t,u,v,e⟩:=x; exact ⟨_,e⟩
 | frz ob u ih => exact ⟨_,x.1⟩
 | tbl ps => exact ⟨_,x⟩
 | met f y => exact ⟨_,x⟩
 | ext φ => exact x.2.1
theorem HOk.track (ok : HOk P w H h) (hn : H a = none) (new : zaY P w (upd H a o) h a o) : HOk P w (upd H a o) h:=fun b u q => by
 by_cases hb : b = a
 ·subst hb
  rw [zab] at q
  cases q
  exact new
 ·rw [zad hb] at q
  refine (ok b u q).stay (fun _ _ _ r => r) (fun c r => ?_) fun c xs r => ?_
  ·rw [zad (zae r hn)]
   exact r
  ·rw [zad (zae r hn)]
   exact r
end
noncomputable def CXF (P : Program) (w : World) : CXT:=fun outer H s E e s' =>
 ∃ (x C : Addr) (a0 : Value) (B : Heap) (H' : Hp),e = .ref x ∧ s'.os = s.os ∧ AllBare s'.gens ∧ Un (frs outer) [] H H' s.heap s'.heap ∧ HOk P w H' s'.heap ∧ Heap.FlyingW B outer x (.ref C) a0 s'.heap ∧
  (∀ b o,s'.heap.get? b = some o → b ∉ frs outer → ((∃ o',s.heap.get? b = some o') ∨ ∃ q,H' b = some q) → B.get? b = some o) ∧ E (.ref C) (some x) H'
theorem zhr {P : Program} {w : World} {fs : List Addr} {H1 H' : Hp} {g g1 g2 B : Heap} (fr : ∀ b ∈ fs,H1 b = none ∧ ∃ o,g.get? b = some o ∧ ∀ vs,o.data ≠ .fields vs)
  (un : Un fs [] H1 H' g g1) (hok : HOk P w H' g1) (hB : ∀ b o,g1.get? b = some o → b ∉ fs → ((∃ o',g.get? b = some o') ∨ ∃ q,H' b = some q) → B.get? b = some o)
  (st : B.StaysIn g2) (up : g1.UpToSlots g2) : Un fs [] H1 H' g g2 ∧ HOk P w H' g2:=by
 have nx : ∀ b : Addr,b ∉ ([] : List Addr):=fun b z => absurd z (by simp)
 have key : ∀ b o,g1.get? b = some o → b ∉ fs → ((∃ o',g.get? b = some o') ∨ ∃ q,H' b = some q) → g2.get? b = some o:=fun b o e n t => st b o (hB b o e n t)
 have sl : ∀ b o,g.get? b = some o → H1 b = none → b ∈ fs → ∃ sl,g2.get? b = some { o with slots:=sl }:=fun b o e n hb => by
  obtain ⟨s1,e1⟩:=un.slot b o e n hb (nx b)
  obtain ⟨_,o2,e2,d⟩:=fr b hb
  rw [e] at e2
  cases e2
  obtain ⟨s2,e3⟩:=up b _ e1 (fun vs => d vs)
  exact ⟨s2,e3⟩
 have nfs : ∀ b q,H' b = some q → b ∉ fs:=fun b q e hb => by
  obtain ⟨n,o,e1,_⟩:=fr b hb
  rw [un.free b o e1 n (nx b)] at e
  cases e
 refine ⟨⟨fun b o e n hb _ => key b o (un.keep b o e n hb (nx b)) hb (.inl ⟨o,e⟩),fun b o e n hb _ => sl b o e n hb,fun b o e n _ => un.free b o e n (nx b),fun b o e _ => ?_,un.tups,un.frzs,un.tbls⟩,fun a o e => (hok a o e).stay (fun c v hc q => ?_) (fun _ q => q) fun _ _ q => q⟩
 ·by_cases hb : b ∈ fs
  ·obtain ⟨z,e2⟩:=sl b o e (fr b hb).1 hb
   exact ⟨_,e2⟩
  ·obtain ⟨o1,e1⟩:=un.there b o e (nx b)
   exact ⟨o1,key b o1 e1 hb (.inl ⟨o,e⟩)⟩
 ·rcases hc with rfl | hc
  ·exact key c v q (nfs c o e) (.inr ⟨o,e⟩)
  ·exact key c v q (nfs c _ hc) (.inr ⟨_,hc⟩)
theorem Inv.frs_ok {X : Cx} {pins : List (Addr × Obj)} {σ : St} {H : Hp} {s : Shared} (I : Inv X pins σ H s) : ∀ b ∈ frs X.stack,H b = none ∧ ∃ o,s.heap.get? b = some o ∧ ∀ vs,o.data ≠ .fields vs :=
 fun b hb => ⟨I.stkFree b hb,(I.stack.mem hb).2⟩
theorem zjH {X : Cx} {pins : List (Addr × Obj)} {σ : St} {H1 H' : Hp} {s1 : Shared} {g1 h' B : Heap} (I : Inv X pins σ H1 s1) (hex : X.ex = []) (un : Un (frs X.stack) [] H1 H' s1.heap g1) (hok : HOk X.prog X.w H' g1)
  (hB : ∀ b o,g1.get? b = some o → b ∉ frs X.stack → ((∃ o',s1.heap.get? b = some o') ∨ ∃ q,H' b = some q) → B.get? b = some o) (st : B.StaysIn h') :
  ∀ b o,h'.get? b = some o → b ∉ X.fs → ((∃ o',X.s₀.heap.get? b = some o') ∨ ∃ q,H' b = some q) → B.get? b = some o:=by
 intro b o e hb t
 have nx : ∀ b : Addr,b ∉ ([] : List Addr):=fun b z => absurd z (by simp)
 have main : ∀ o1,g1.get? b = some o1 → b ∉ frs X.stack → ((∃ o',s1.heap.get? b = some o') ∨ ∃ q,H' b = some q) → B.get? b = some o:=fun o1 e1 n t1 => by
  have e2:=hB b o1 e1 n t1
  have e3:=st b o1 e2
  rw [e] at e3
  cases e3
  exact e2
 rcases t with ⟨o',e0⟩ | ⟨q,e0⟩
 ·have nst : b ∉ frs X.stack:=fun z => by
   rcases List.mem_cons.mp (I.stkSub b z) with r | r
   ·have:=Heap.lt_size e0
    rw [r] at this
    exact absurd this (Nat.not_lt.mpr I.ok.above)
   ·exact hb r
  obtain ⟨o1',e1'⟩:=I.base.there b o' e0 (by rw [hex]; exact nx b)
  obtain ⟨o2,e2⟩:=un.there b o1' e1' (nx b)
  exact main o2 e2 nst (.inl ⟨_,e1'⟩)
 ·have nst : b ∉ frs X.stack:=fun z => by
   obtain ⟨n,o1,e1,_⟩:=I.frs_ok b z
   rw [un.free b o1 e1 n (nx b)] at e0
   cases e0
  obtain ⟨o1,e1⟩:=(hok b q e0).at
  exact main o1 e1 nst (.inr ⟨q,e0⟩)
noncomputable def Throws (X : Cx) (E : XK) : Prop:=∀ (pins : List (Addr × Obj)) (σ : St) (H : Hp) (s : Shared) (h' : Heap) (e C : Addr) (vs : List Value),Inv X pins σ H s → Heap.MadeExcOf s.heap h' e (.ref C) vs →
 E (.ref C) (some e) H → X.xe (.ref e) { s with heap:=h' }
section
variable {P : Program} {w : World} {K : W.Frag} {mg : Str → Option Value} {base : Heap} {N : List Str} {qual : Str} {scope : Scope} {f : Addr} {cd : Value} {A : Around} {outer : List Env} {s : Shared} {H : Hp} {E E' : XK}
theorem zeN (hE : ∀ C x H',E C x H' → E' C x H') : zcd (CXF P w) (cxOf (CXF P w) P w K mg base N qual scope f cd A outer s H E') E:=by
 intro pins σ H1 s1 e s' I h
 obtain ⟨x,C,a0,B,H',rfl,os,bare,un,hok,fl,hB,q⟩:=h
 show wpAny _ _ (leaving _ _) _ _ s'
 refine wpAny_leaves_onW (L:=s.heap.objs.size) I.ok.frames rfl fl fun h' fl' up => ?_
 obtain ⟨un',hok'⟩:=zhr I.frs_ok un hok hB fl'.1 up
 have J:=I.call' (s':={ s' with heap:=h' }) (ch:=[]) os un' hok' bare (fun b z => absurd z (by simp))
 exact ⟨x,C,a0,B,H',rfl,J.os,J.bare,J.base,hok',fl',zjH I rfl un hok hB fl'.1,hE _ _ _ q⟩
theorem zb0 (hE : ∀ C x H',E C x H' → E' C x H') : Throws (cxOf (CXF P w) P w K mg base N qual scope f cd A outer s H E') E:=by
 intro pins σ H1 s1 h1 e C vs I hx q
 show wpAny _ _ (leaving _ _) _ _ _
 have hB : ∀ b o,h1.get? b = some o → b ∉ frs (cxOf (CXF P w) P w K mg base N qual scope f cd A outer s H E').stack → ((∃ o',s1.heap.get? b = some o') ∨ ∃ q,H1 b = some q) →
   (W.hideAll s1.heap (frs (cxOf (CXF P w) P w K mg base N qual scope f cd A outer s H E').stack)).get? b = some o:=fun b o e n t => by
  obtain ⟨o',e'⟩ : ∃ o',s1.heap.get? b = some o':=t.elim id fun ⟨q,e0⟩ => (I.hok b q e0).at
  rw [hx.keeps b o' e'] at e
  cases e
  exact W.hideAll_get _ e' n
 refine wpAny_leaves_madeW (base:=W.hideAll s1.heap (frs (cxOf (CXF P w) P w K mg base N qual scope f cd A outer s H E').stack)) (h:=s1.heap) (L:=s.heap.objs.size) I.ok.frames rfl
  (fun b o e => W.of_hideAll _ e) (W.funFrames_hide I.stack fun env he b hb => List.mem_filterMap.mpr ⟨env,he,hb⟩) hx fun h' t fl' tp nt up => ?_
 obtain ⟨un',hok'⟩:=zhr (g1:=h1) I.frs_ok (Un.kept hx.keeps) (I.hok.kept hx.keeps) hB fl'.1 up
 have J:=I.call' (s':={ s1 with heap:=h' }) (ch:=[]) rfl un' hok' I.bare (fun b z => absurd z (by simp))
 exact ⟨e,C,.ref t,_,H1,rfl,J.os,J.bare,J.base,hok',fl',zjH I rfl (Un.kept hx.keeps) (I.hok.kept hx.keeps) hB fl'.1,hE _ _ _ q⟩
end
theorem zaq {P : Program} {w : World} {X : Cx} : zcd (CXF P w) X E0:=fun _ _ _ _ _ _ _ h => by
 obtain ⟨_,_,_,_,_,_,_,_,_,_,_,_,q⟩:=h
 exact q.elim
section
variable {P : Program} {w : World} {K : W.Frag} {mg : Str → Option Value} {base : Heap}
theorem Fun.okX {x qual : Str} {st : Stmt} {f : Addr} {fd : FuncData} {N ps : List Str} {k : Nat} {sp : Sp} (F : Fun K x qual st f fd) (S : FnScope N ps (zak st)) (len : ∀ vs H Q E,sp vs H Q E → vs.length = ps.length)
  (hbody : ∀ (cdv : Value) (A : Around) (outer : List Env) (s : Shared) (H : Hp) (vs : List V) (Q : VK) (E : XK),Room k (A.deeper (envOfC qual (zak st) s.heap.objs.size f cdv)) → sp vs H Q E →
   ∃ t,PSs (cxOf (CXF P w) P w K mg base N qual (zak st) f cdv A outer s H E) (zca st) t ∧ t { nx:=fun _ H' => Q .non H',rt:=Q } (zen N vs) H) : FnOk P w K mg base (CXF P w) (k + 1) f fd ps sp:=by
 obtain ⟨oc,od,kV,doc,pm,an,cdv,ct,osl,rfl,lk,hcd⟩:=F.ex
 exact fn_of lk hcd S len fun A outer s H vs Q E hr hsp => hbody cdv A outer s H vs Q E hr hsp
theorem Fun.okN {x qual : Str} {st : Stmt} {f : Addr} {fd : FuncData} {N ps : List Str} {k : Nat} {sp : Sp} (F : Fun K x qual st f fd) (S : FnScope N ps (zak st)) (len : ∀ vs H Q E,sp vs H Q E → vs.length = ps.length)
  (hbody : ∀ (cdv : Value) (A : Around) (outer : List Env) (s : Shared) (H : Hp) (vs : List V) (Q : VK) (E : XK),Room k (A.deeper (envOfC qual (zak st) s.heap.objs.size f cdv)) → sp vs H Q E →
   ∃ t,PSs (cxOf (CXF P w) P w K mg base N qual (zak st) f cdv A outer s H E).nox (zca st) t ∧ t { nx:=fun _ H' => Q .non H',rt:=Q } (zen N vs) H) : FnOk P w K mg base (CXF P w) (k + 1) f fd ps sp :=
 F.okX S len fun cdv A outer s H vs Q E hr hsp => let ⟨t,h,q⟩:=hbody cdv A outer s H vs Q E hr hsp; ⟨t,h.nox,q⟩
end
noncomputable abbrev VEs : List Value:=[.type "ValueError",.type "Exception",.type "BaseException",.type "object"]
noncomputable abbrev XCl (K : W.Frag) (C : Addr) : Prop:=W.excIn K C VEs "ValueError.__new__" = true
theorem xobj {K : W.Frag} {C : Addr} {bmB : List Value} {newId : String} (q : W.excIn K C bmB newId = true) :
  ∃ bm N nm qn bs hdct sn sub ab col dd k0 k1 k2 k3 k5,K.lookup C = some (excClassObj nm qn C N bs bm hdct sn sub ab col dd k0 k1 k2 k3 k5 newId) ∧ W.tailIn K bmB bm = true ∧ W.nsOkIn K N = true ∧ W.nsIn K N "__init__" = some none:=by
 unfold W.excIn at q
 split at q
 ·rename_i dd cd sl ho
  split at q
  ·rename_i C1 bm k0 k1 k2 k3 n1 k5 hm hs
   have q1:=q
   simp only [beq_iff_eq,Bool.not_eq_true',Bool.and_eq_true] at q1
   obtain ⟨⟨⟨⟨⟨e1,e2⟩,e3⟩,e4⟩,e5⟩,e6⟩:=q1
   subst e1
   subst e2
   obtain ⟨nm,bs,mro,ns,qn,hd,sn,sub,ab,col,del⟩:=cd
   dsimp only at hm e3 e5 e6
   subst hm
   subst e3
   have hsl : sl = #[k0,k1,k2,k3,some (.builtin n1),k5]:=by
    obtain ⟨l⟩:=sl
    have hs' : l = [k0,k1,k2,k3,some (.builtin n1),k5]:=hs
    rw [hs']
   subst hsl
   exact ⟨bm,ns,nm,qn,bs,hd,sn,sub,ab,col,dd,k0,k1,k2,k3,k5,ho,e4,e5,e6⟩
  ·cases q
 ·cases q
section
variable {M : Model} {A : Around} {E : Value → Shared → Prop} {s : Shared} {K : W.Frag}
theorem zjI {e C D : Addr} {oe : Obj} {Q : Bool → Shared → Prop} (X : K.In s.heap) (he : s.heap.get? e = some oe) (hcls : oe.cls = .ref C) (hC : XCl K C) (hD : XCl K D) (hm : W.mroIn K C (.ref D) = some true) (hq : Q true s) :
  wpAny M A (excMatches (.ref e) (.ref D)) Q E s:=by
 obtain ⟨bm,N,nm,qn,bs,hdct,sn,sub,ab,col,dd,k0,k1,k2,k3,k5,lC,tC,_,_⟩:=xobj hC
 obtain ⟨bm',N',nm',qn',bs',hdct',sn',sub',ab',col',dd',j0,j1,j2,j3,j5,lD,tD,_,_⟩:=xobj hD
 have gC:=X _ _ lC
 have gD:=X _ _ lD
 have cB : (Value.ref D :: bm').contains (.type "BaseException") = true:=by
  rw [List.contains_cons,(W.tail_of_in X tD).hasType (X:="BaseException") (b:=true) rfl]
  rfl
 have cC : (Value.ref C :: bm).contains (.ref D) = true:=by
  unfold W.mroIn W.clsIn at hm
  rw [lC] at hm
  exact Option.some.inj hm
 have f:=tc_notTuple
 obtain ⟨h,g,d,t,os⟩:=s
 unfold excMatches
 repeat (first | (with_reducible refine wpAny_loadPart_at he ?_; rw [hcls]) | with_reducible refine wpAny_loadPart_at gD ?_ | (with_reducible refine wpAny_isSubtype_exc gD ?_; rw [cB]) | (with_reducible refine wpAny_isSubtype_exc gC ?_; rw [cC]) | wp_step)
 exact hq
end
noncomputable def tRaise (C : Addr) (E : XK) (t : TA) : TS:=fun _ σ H => t σ H fun vs H1 => vs.length ≤ sizeLine ∧ ∀ e,E (.ref C) e H1
section
variable {X : Cx} {x : Str} {np cpos pos : Pos} {e0 : Expr} {rest : List Expr} {t : TA} {C : Addr} {E : XK}
theorem zbb (hh : X.calm = true) (hg : Gl X x) (hm : X.mg x = some (.ref C)) (hq : XCl X.K C) (ht : Throws X E) (ha : PA X (e0 :: rest) t) (hdb : (x == ("__debug__" : Str)) = false:=by decide)
  (he : starEach (e0 :: rest) X.env = (false,eval e0 X.env) :: starEach rest X.env:=by rfl) (hpl : (backTo cpos (starEach rest X.env)).any (·.1) = false:=by rfl) :
  PS X (.Raise (some (.Call (.Name x np) (e0 :: rest) [] cpos)) none pos) (tRaise C E t):=by
 intro pins s σ H D I h
 obtain ⟨bm,N,nm,qn,bs,hdct,sn,sub,ab,col,dd,k0,k1,k2,k3,k5,lC,tC,hok,hni⟩:=xobj hq
 have kb:=I.mod.kin
 have hN : X.base.Ns N (X.base.nsMap N):=.of_isNs (W.isNs_of_in kb hok)
 have T:=W.tail_of_in kb tC
 refine wpAny_Raise_call_subT (C:=C) (nm:=nm) (q:=qn) (N:=N) (bs:=bs) (bm:=bm) (hdct:=hdct) (sn:=sn) (sub:=sub) (ab:=ab) (col:=col) (dd:=dd) (k0:=k0) (k1:=k1) (k2:=k2) (k3:=k3) (k5:=k5)
  PySem.F.excBase_ValueError (mN:=X.base.nsMap N) (T.hasType rfl) (I.ok.hd hh) (by rw [he]; show (false || (backTo cpos (starEach rest X.env)).any (·.1)) = false; rw [hpl]; rfl)
  (W.nsMap_none_of_in kb hok hni) (zc2 I hg hm ⟨rfl,?_⟩ hdb)
 have h2:=ha cpos pins s σ H _ I h
 rw [he] at h2 ⊢
 refine Calls.evalArgs_plain (wpAny_mono h2 (fun us s2 ⟨vs,H1,I1,r,z,q⟩ => ?_) fun _ _ y => y)
 exact ⟨rfl,by rw [← r.length]; exact z,I1.bk _ _ (kb _ _ lC),hN.keeps I1.bk,T.keeps I1.bk,fun h' e hx => ht pins σ H1 s2 h' e C us I1 hx (q _)⟩
end
end L2
namespace L2
open PySem PySem.Spec PyProof.Rows
noncomputable abbrev excO (x C : Addr) : HO:=.ext fun h => ∃ o vs,h.get? x = some o ∧ o.cls = .ref C ∧ o.data = .fields vs
theorem excO_ok {P : Program} {w : World} {H : Hp} {h : Heap} {x C : Addr} {o : Obj} {vs : Array Value} (e : h.get? x = some o) (c : o.cls = .ref C) (d : o.data = .fields vs) : zaY P w H h x (excO x C) :=
 ⟨⟨o,vs,e,c,d⟩,⟨o,e⟩,fun _ _ ⟨o,vs,e,c,d⟩ k => ⟨o,vs,k o e,c,d⟩⟩
section
variable {X : Cx} {pins : List (Addr × Obj)} {σ : St} {H : Hp} {s : Shared}
theorem goes_ok {M : Model} {A : Around} {E : Value → Shared → Prop} {n : Str} {j : Nat} {pos : Pos} {Q : Unit → Shared → Prop} (I : Inv X pins σ H s) (hN : X.N.Nodup) (hj : X.N[j]? = some n) (hk : X.env.scope.names.lookup n = some .local)
  (h : ∀ s',Inv X pins (σ.set j none) H s' → Q () s') : wpAny M A (do bindName X.env n .none; unbindBehindTheSuite X.env n pos) Q E s:=by
 obtain ⟨m,hn,hl⟩:=id I.loc
 have hcls : (X.env.scope.kind == .class || (X.env.scope.kind == .module && X.env.locals != X.env.globals)) = false:=by rw [I.ok.kind]; rfl
 refine wpAny_nameGoes_keeps hk hn hcls fun h' v hn' hs => ?_
 have old : ∀ b o,X.s₀.heap.get? b = some o → b ≠ X.env.locals:=fun b o e => Nat.ne_of_lt (Nat.lt_of_lt_of_le (Heap.lt_size e) I.ok.above)
 refine h _ ⟨I.ok,I.os,I.bare,⟨fun b o e n hb hx => (hs.2 b (old b o e)).trans (I.base.keep b o e n hb hx),fun b o e n hb hx => ?_,I.base.free,fun b o e hx => ?_,I.base.tups,I.base.frzs,I.base.tbls⟩,⟨_,hn',fun i y v' e1 e2 e3 => ?_⟩,fun y c e => ?_,I.free,I.freeC,fun p hp => ?_,fun b ob e => ?_,by simpa using I.len⟩
 ·obtain ⟨sl,e1⟩:=I.base.slot b o e n hb hx
  exact ⟨sl,(hs.2 b (old b o e)).trans e1⟩
 ·obtain ⟨o',e1⟩:=I.base.there b o e hx
  exact ⟨o',(hs.2 b (old b o e)).trans e1⟩
 ·by_cases hij : i = j
  ·subst hij
   have hiσ : i < σ.length:=by rw [I.len]; exact (List.getElem?_eq_some_iff.mp hj).1
   rw [List.getElem?_set_self hiσ] at e2
   cases e2
  ·rw [List.getElem?_set_ne (Ne.symm hij)] at e2
   obtain ⟨u',r',q⟩:=hl i y v' e1 e2 e3
   refine ⟨u',r',?_⟩
   rcases q with ⟨k,e⟩ | ⟨k,c,e,z⟩
   ·have ne : y ≠ n:=fun e => hij (zeQ hN e1 (e ▸ hj))
    exact .inl ⟨k,by simp [ne,e]⟩
   ·exact .inr ⟨k,c,e,z.sameBut hs (I.cne y c e)⟩
 ·obtain ⟨w',z⟩:=I.cell y c e
  exact ⟨w',z.sameBut hs (I.cne y c e)⟩
 ·obtain ⟨e,n,ne,nf,d⟩:=I.pin p hp
  exact ⟨(hs.2 p.1 ne).trans e,n,ne,nf,d⟩
 ·refine (I.hok b ob e).stay (fun c w' hc q => (hs.2 c ?_).trans q) (fun _ q => q) fun _ _ q => q
  rintro rfl
  rcases hc with z | hc
  ·rw [← z,I.free] at e
   cases e
  ·rw [I.free] at hc
   cases hc
noncomputable abbrev Cx.mark (X : Cx) (v : Value) : Cx:={ X with A:=X.A.mark (some v),calm:=false }
theorem Inv.mark (I : Inv X pins σ H s) (v : Value) : Inv (X.mark v) pins σ H s :=
 ⟨⟨I.ok.mod,I.ok.kind,I.ok.glob,I.ok.blt,I.ok.above,I.ok.inj,I.ok.has,I.ok.cab,fun z => absurd (show false = true from z) Bool.false_ne_true,I.ok.frames,I.ok.stk,I.ok.exf,I.ok.bs,I.ok.bsz,I.ok.noex,I.ok.exfs,I.ok.funs,I.ok.frf⟩,I.os,I.bare,I.base,I.loc,I.cell,I.free,I.freeC,I.pin,I.hok,I.len⟩
theorem Inv.unmark {v : Value} (I : Inv (X.mark v) pins σ H s) (ok : X.Ok) : Inv X pins σ H s:=⟨ok,I.os,I.bare,I.base,I.loc,I.cell,I.free,I.freeC,I.pin,I.hok,I.len⟩
noncomputable abbrev Cx.pinned (X : Cx) (pn : List (Addr × Obj)) (xe : Value → Shared → Prop) : Cx:={ X with pn:=pn,xe:=xe }
theorem Inv.inPn {xe : Value → Shared → Prop} (I : Inv X pins σ H s) : Inv (X.pinned (X.pn ++ pins) xe) [] σ H s :=
 ⟨⟨I.ok.mod,I.ok.kind,I.ok.glob,I.ok.blt,I.ok.above,I.ok.inj,I.ok.has,I.ok.cab,I.ok.hd,I.ok.frames,I.ok.stk,I.ok.exf,I.ok.bs,I.ok.bsz,I.ok.noex,I.ok.exfs,I.ok.funs,I.ok.frf⟩,I.os,I.bare,I.base,I.loc,I.cell,I.free,I.freeC,fun p hp => I.pin p (by simpa using hp),I.hok,I.len⟩
theorem Inv.outPn {xe : Value → Shared → Prop} {pins' : List (Addr × Obj)} (I : Inv (X.pinned (X.pn ++ pins) xe) pins' σ H s) (ok : X.Ok) : Inv X pins σ H s :=
 ⟨ok,I.os,I.bare,I.base,I.loc,I.cell,I.free,I.freeC,fun p hp => I.pin p (List.mem_append_left _ hp),I.hok,I.len⟩
end
noncomputable def tTry (E : XK) (i : Nat) (tb : TS) : TS:=fun D σ H => tb D σ H ∧ ∀ C x H',E (.ref C) (some x) H' → H' x = none → D.nx ((List.replicate σ.length none).set i (some (.ref x))) (upd H' x (excO x C))
theorem ps_try {X : Cx} {body : List Stmt} {tb : TS} {E : XK} {i j : Nat} {cn n kx : Str} {D : Addr} {np p1 p2 p3 hpos pos : Pos}
  (hN : X.N.Nodup) (hi : X.N[i]? = some kx) (hj : X.N[j]? = some n) (hij : i ≠ j) (hkx : X.env.scope.names.lookup kx = some .local) (hn : X.env.scope.names.lookup n = some .local)
  (hstk : X.stack = X.env :: X.outer) (hfr : X.env.frame = some X.env.locals) (hg : Gl X cn) (hm : X.mg cn = some (.ref D)) (hD : XCl X.K D)
  (hsub : ∀ C x H',E (.ref C) x H' → XCl X.K C ∧ W.mroIn X.K C (.ref D) = some true)
  (hb : ∀ (pn : List (Addr × Obj)) (xe : Value → Shared → Prop),zcd (CXF X.prog X.w) (X.pinned pn xe) E → PSs (X.pinned pn xe) body tb)
  (hdb : (cn == ("__debug__" : Str)) = false:=by decide) (hdn : (n == ("__debug__" : Str)) = false:=by decide) (hcn : (n == ("__classdict__" : Str)) = false:=by decide) :
  PS X (.Try body [.ExceptHandler (some (.Name cn np)) (some n) [.Assign [.Name kx p1] (.Name n p2) p3] hpos] [] [] pos) (tTry E i tb):=by
 intro pins s σ H D' I h
 obtain ⟨hb0,hk⟩:=h
 have nil : ∀ b ∈ ([] : List Addr),(b ∈ X.ex ∨ X.s₀.heap.objs.size ≤ b) ∧ b ≠ X.env.locals ∧ (∀ x c,X.env.cells.lookup x = some c → c ≠ b) ∧ ∀ p ∈ X.pn ++ pins,p.1 ≠ b:=fun b z => absurd z (by simp)
 have ps1 : zcd (CXF X.prog X.w) (X.pinned (X.pn ++ pins) fun e s' => ∃ σ1 H1 s1,Inv X pins σ1 H1 s1 ∧ CXF X.prog X.w X.stack H1 s1 E e s') E :=
  fun pins' σ1 H1 s1 e s' I1 h1 => ⟨σ1,H1,s1,I1.outPn I.ok,h1⟩
 refine wpAny_Try_except (wpAny_mono (hb _ _ ps1 [] s σ H D' I.inPn hb0) (fun f s1 q => ?_) fun e s1 q => ?_)
 ·cases f with
  | next => obtain ⟨σ',H',I',q⟩:=q; exact wpAny_execs_nil ⟨σ',H',I'.outPn I.ok,q⟩
  | brk => obtain ⟨σ',H',I',q⟩:=q; exact ⟨σ',H',I'.outPn I.ok,q⟩
  | cont => obtain ⟨σ',H',I',q⟩:=q; exact ⟨σ',H',I'.outPn I.ok,q⟩
  | ret u => obtain ⟨v,σ',H',I',r,q⟩:=q; exact ⟨v,σ',H',I'.outPn I.ok,r,q⟩
 ·obtain ⟨σ1,H1,s2,I1,x,C,a0,B,H',rfl,os,bare,un,hok,fl,hB,hE⟩:=q
  have hfrm : X.A.frames = some (X.env :: X.outer):=by rw [I.ok.frames,hstk]
  have fl0 : Heap.FlyingW B (X.env :: X.outer) x (.ref C) a0 s1.heap:=by rw [← hstk]; exact fl
  refine wpAny_looks_onW hfrm hfr fl0 fun h4 held4 up4 => wpAny_landsW held4 fun h5 fl5 up5 => ?_
  have up45 : s1.heap.UpToSlots h5:=up4.trans up5
  obtain ⟨un5,hok5⟩:=zhr I1.frs_ok un hok hB fl5.1 up45
  have I5 : Inv X pins σ1 H' { s1 with heap:=h5 }:=I1.call' (s':={ s1 with heap:=h5 }) (ch:=[]) os un5 hok5 bare nil
  obtain ⟨ox0,vs0,hox0,_,hod0,_⟩:=fl.first
  have nst : x ∉ frs X.stack:=fun z => by
   obtain ⟨n0,o,e,d⟩:=I1.frs_ok x z
   obtain ⟨sl,e1⟩:=un.slot x o e n0 z (by simp)
   rw [hox0] at e1
   cases e1
   exact d _ hod0
  have nB : ¬ ((∃ o',s2.heap.get? x = some o') ∨ ∃ q,H' x = some q):=fun t => by
   have e1:=hB x ox0 hox0 nst t
   rw [fl.2.1] at e1
   cases e1
  have hx0 : H' x = none:=by
   cases q : H' x with
   | none => rfl
   | some o => exact absurd (Or.inr ⟨o,q⟩) nB
  obtain ⟨xC,xD⟩:=hsub _ _ _ hE
  obtain ⟨oe,hoe,hoc⟩:=fl5.there
  refine wpAny_handleBy_cons (codeAny_handlers_test (zc2 (X:=X.mark (.ref x)) (I5.mark _) hg hm ?_ hdb)) (by intro q; cases q)
  refine zjI (K:=X.K) I5.kIn hoe hoc xC hD xD ?_
  refine codeAny_handlers_suite_as (lands_againW fl5 fun h6 fl6 up6 => ?_)
  obtain ⟨un6,hok6⟩:=zhr I1.frs_ok un hok hB fl6.1 (up45.trans up6)
  obtain ⟨ox,vs,hox,hoc6,hod6,_⟩:=fl6.first
  have hok6' : HOk X.prog X.w (upd H' x (excO x C)) h6:=hok6.track hx0 (excO_ok hox hoc6 hod6)
  have un6' : Un (frs X.stack) [] H1 (upd H' x (excO x C)) s2.heap h6:=⟨un6.keep,un6.slot,fun b o e n hb => by
    rw [zad fun z => nB (.inl ⟨o,by rw [← z]; exact e⟩)]
    exact un6.free b o e n hb,un6.there,fun b xs e => by
    rw [zad (zae (un6.tups b xs e) hx0)]
    exact un6.tups b xs e,fun b o u e => by
    rw [zad (zae (un6.frzs b o u e) hx0)]
    exact un6.frzs b o u e,fun b ps e => by
    obtain ⟨more,e1⟩:=un6.tbls b ps e
    exact ⟨more,by rw [zad (zae e1 hx0)]; exact e1⟩⟩
  have I6 : Inv X pins σ1 (upd H' x (excO x C)) { s1 with heap:=h6 }:=I1.call' (s':={ s1 with heap:=h6 }) (ch:=[]) os un6' hok6' bare nil
  have hl1 : σ1.length = σ.length:=I1.len.trans I.len.symm
  have I7 : Inv (X.mark (.ref x)) pins (List.replicate σ.length none) (upd H' x (excO x C)) { s1 with heap:=h6 } :=
   (I6.weak (σ':=List.replicate σ.length none) (by simp [hl1]) (fun k v e => by
    rw [List.getElem?_replicate] at e
    split at e <;> cases e)).mark _
  have hjl : j < σ.length:=by rw [I.len]; exact (List.getElem?_eq_some_iff.mp hj).1
  have hil : i < σ.length:=by rw [I.len]; exact (List.getElem?_eq_some_iff.mp hi).1
  refine zde (X:=X.mark (.ref x)) I7 hN hj (.inl hn) (v:=.ref x) rfl (fun s8 I8 => ?_) (.inr hn)
  have hs:=zaf (zap (X:=(X.mark (.ref x)).nox) (i:=i) (pos:=p3) (pos':=p1) hN hi (.inl hkx) (pe_var (i:=j) (pos:=p2) hj (.inl hn) hdn hcn) (by rfl) (.inr hkx)) pins s8 _ _
   { nx:=fun σ' H'' => σ' = ((List.replicate σ.length (none : Option V)).set j (some (.ref x))).set i (some (.ref x)) ∧ H'' = upd H' x (excO x C),rt:=fun _ _ => False } (I8.wish _)
   ⟨.ref x,by rw [List.getElem?_set_self (by simpa using hjl)],rfl,rfl⟩
  refine wpAny_mono hs (fun f s9 q9 => ?_) fun _ _ z => z.elim
  cases f with
  | next =>
   obtain ⟨σ9,H9,I9,e9,f9⟩:=q9
   subst e9 f9
   refine goes_ok (X:=X) (I9.unwish.unmark I.ok) hN hj hn fun s10 I10 => ?_
   refine ⟨(List.replicate σ.length none).set i (some (.ref x)),_,I10.weak (by simp) (fun k v e => ?_),hk C x H' hE hx0⟩
   by_cases hki : k = i
   ·subst hki
    rw [List.getElem?_set_self (by simpa using hil)] at e
    cases e
    rw [List.getElem?_set_ne (Ne.symm hij),List.getElem?_set_self (by simpa using hil)]
   ·rw [List.getElem?_set_ne (Ne.symm hki),List.getElem?_replicate] at e
    split at e <;> cases e
  | brk => obtain ⟨_,_,_,z⟩:=q9; exact z.elim
  | cont => obtain ⟨_,_,_,z⟩:=q9; exact z.elim
  | ret u => obtain ⟨_,_,_,_,_,z⟩:=q9; exact z.elim
end L2
namespace L2
open PySem PySem.Spec PyProof.Rows
noncomputable def PF (X : Cx) (ifs : List Expr) (t : TT) : Prop :=
 ∀ (pins : List (Addr × Obj)) (s : Shared) (σ : St) (H : Hp) (Q : Bool → Hp → Prop),Inv X pins σ H s → t σ H Q →
  wpAny (model X.prog X.w) X.A (forIn ifs true fun c r => if r = true then do let ok ← isTrue c X.env (eval c X.env); pure (ForInStep.yield ok) else pure (ForInStep.yield r)) (TP X pins σ Q) X.xe s
noncomputable def tYes : TT:=fun _ H Q => Q true H
theorem zc8 {X : Cx} : PF X [] tYes:=fun pins s σ H Q I h => wpAny_pure ⟨H,I,h⟩
theorem pf_one {X : Cx} {c : Expr} {t : TT} (hc : PT X c t) : PF X [c] t:=by
 intro pins s σ H Q I h
 show wpAny _ _ ((isTrue c X.env (eval c X.env) >>= fun ok => pure (ForInStep.yield ok)) >>= _) _ _ s
 refine wpAny_bind (wpAny_bind (thn (hc pins s σ H Q I h) fun b s1 q => wpAny_pure ?_))
 exact wpAny_pure q
section
variable {prog : Program} {w : World} {A : Around} {R : Result → Shared → Prop} {s : Shared}
theorem zjW {elt target iter : Expr} {ifs : List Expr} {scope : Scope} {pos : Pos} {it acc : Value} {env : Env} (J : Nat → Shared → Prop)
  (turn : ∀ n s,J n s → wpAny (model prog w) A (pyNext it) (fun r s1 => match r with
   | none => R (.ok .next) s1
   | some v => wpAny (model prog w) A (letOwnedTupleGo target it v) (fun _ s2 => wpAny (model prog w) A (assign target env v) (fun _ s3 =>
     wpAny (model prog w) A (forIn ifs true fun c r => if r = true then do let ok ← isTrue c env (eval c env); pure (ForInStep.yield ok) else pure (ForInStep.yield r)) (fun ok s4 =>
      if ok = true then wpAny (model prog w) A (eval elt env) (fun x s5 => wpAny (model prog w) A (call (.builtin "list.append") [acc,x]) (fun _ s6 => ∃ m,m < n ∧ J m s6) (fun _ _ => False) s5) (fun _ _ => False) s4
      else ∃ m,m < n ∧ J m s4) (fun _ _ => False) s3) (fun _ _ => False) s2) (fun _ _ => False) s1) (fun _ _ => False) s)
  (n : Nat) (h : J n s) : codeAny (model prog w) A (.compLoop (.ListComp elt [⟨target,iter,ifs,0⟩] scope pos) 0 it acc env) R s:=by
 have no : ∀ {α : Type} {t : Sem α} {Q : α → Shared → Prop} {E : Value → Shared → Prop} {s : Shared},wpAny (model prog w) A t Q (fun _ _ => False) s → wpAny (model prog w) A t Q E s:=fun h => wpAny_mono h (fun _ _ q => q) fun _ _ z => z.elim
 refine codeAny_loop rfl J (fun n s hI => wpAny_noted ?_) n h
 rw [compTurn_list]
 refine wpAny_bind (wpAny_standAt (wpAny_bind (no (thn (turn n s hI) fun r s1 h1 => ?_))))
 cases r with
 | none => exact wpAny_pure h1
 | some v =>
  refine wpAny_bind (no (thn h1 fun _ s2 h2 => wpAny_bind (no (thn h2 fun _ s3 h3 => wpAny_bind (no (thn h3 fun ok s4 h4 => ?_))))))
  cases ok with
  | false => exact wpAny_pure ⟨rfl,h4⟩
  | true => exact wpAny_bind (wpAny_bind (no (thn h4 fun x s5 h5 => wpAny_bind (no (thn h5 fun _ s6 h6 => wpAny_pure (wpAny_pure ⟨rfl,h6⟩))))))
end
end L2
namespace L2
open PySem PySem.Spec PyProof.Rows
section
variable {X : Cx} {e : Expr} {te : TE} {pos : Pos}
noncomputable def tFmtI (te : TE) : TE:=fun σ H Q => te σ H fun x H1 => ∃ i : Int,x = .int i ∧ i.natAbs < 10 ^ 30 ∧ ∀ y : Str,y.length ≤ 2000 → Q (.str y) H1
theorem zhM {n : Nat} (h : n < 10 ^ 30) : n.log2 < 1920:=by
 by_cases hz : n = 0
 ·subst hz
  decide
 ·exact (Nat.log2_lt hz).mpr (Nat.lt_trans h (by decide))
theorem zbQ (he : PE X e te) : PE X (.FormattedValue e (-1) none pos) (tFmtI te):=by
 intro pins s σ H Q I h
 refine wpAny_FormattedValue_plain (thn (he pins s σ H _ I h) fun v s1 ⟨x,H1,I1,r,i,ex,hi,q⟩ => ?_)
 subst ex
 obtain ⟨t,rfl⟩:=r
 refine wpAny_formatField_int (zhM hi) ?_
 refine ⟨.str _,H1,I1.tok _,⟨_,rfl⟩,q _ ?_⟩
 have e:=int_text_length_le10 (k:=30) (by decide) hi
 show (Str.ofString (toString i)).length ≤ 2000
 rw [PySem.ofString_length]
 omega
noncomputable def tFmtS (te : TE) : TE:=fun σ H Q => te σ H fun x H1 => ∃ z : Str,x = .str z ∧ z.length ≤ 2000 ∧ Q (.str z) H1
theorem ziR (he : PE X e te) : PE X (.FormattedValue e (-1) none pos) (tFmtS te):=by
 intro pins s σ H Q I h
 refine wpAny_FormattedValue_plain (thn (he pins s σ H _ I h) fun v s1 ⟨x,H1,I1,r,z,ex,hz,q⟩ => ?_)
 subst ex
 obtain ⟨t,rfl⟩:=r
 exact PyProof.Rows.formatField_str (fun t' tk => ⟨.str _,H1,I1.tok _,⟨_,rfl⟩,q⟩) (by rw [sizeLine_eq]; omega)
noncomputable def tFmtR (te : TE) : TE:=fun σ H Q => te σ H fun x H1 => ∃ z : Str,x = .str z ∧ (reprText z).length ≤ 2000 ∧ Q (.str (reprText z)) H1
theorem ziS (he : PE X e te) : PE X (.FormattedValue e 114 none pos) (tFmtR te):=by
 intro pins s σ H Q I h
 refine wpAny_FormattedValue_repr (thn (he pins s σ H _ I h) fun v s1 ⟨x,H1,I1,r,z,ex,hz,q⟩ => ?_)
 subst ex
 obtain ⟨t,rfl⟩:=r
 refine wpAny_pyReprObj_str ?_ (by rw [sizeLine_eq]; omega)
 exact PyProof.Rows.formatField_str (fun t' tk => ⟨.str _,H1,(I1.tok _).tok _,⟨_,rfl⟩,q⟩) (by rw [sizeLine_eq]; omega)
noncomputable def tJs : List TE → St → Hp → (Hp → Prop) → Prop
 | [],_,H,Q => Q H
 | t :: r,σ,H,Q => t σ H fun v H1 => ∃ y : Str,v = .str y ∧ y.length ≤ 2000 ∧ tJs r σ H1 Q
noncomputable def tFstr (ts : List TE) : TE:=fun σ H Q => tJs ts σ H fun H1 => ∀ y : Str,y.length ≤ 200000 → Q (.str y) H1
theorem zhn {pins : List (Addr × Obj)} {σ : St} {Q : VK} : ∀ {es : List Expr} {ts : List TE},Paired (PE X) es ts → ∀ {acc : Str} {H : Hp} {s : Shared},Inv X pins σ H s → acc.length + 2000 * es.length ≤ 200000 → tJs ts σ H (fun H1 => ∀ y : Str,y.length ≤ 200000 → Q (.str y) H1) →
  Joins (model X.prog X.w) X.A X.xe (es.map fun e => eval e X.env) acc (fun out s1 => out.length ≤ sizeLine ∧ EP X pins σ Q (.str out s1.toks) { s1 with toks:=s1.toks + 1 }) s
 | _,_,.nil,acc,H,s,I,hl,h => ⟨by rw [sizeLine_eq]; simp at hl; omega,.str _,H,I.tok _,⟨_,rfl⟩,h acc (by simp at hl; omega)⟩
 | _,_,.cons (a:=e) (l₁:=es) he hr,acc,H,s,I,hl,h => by
  refine thn (he pins s σ H _ I h) fun v s1 ⟨x,H1,I1,r,y,ex,hy,q⟩ => ?_
  subst ex
  obtain ⟨t,rfl⟩:=r
  have hl2 : (acc ++ y).length + 2000 * es.length ≤ 200000:=by
   rw [strLen_append]
   rw [List.length_cons] at hl
   omega
  exact ⟨y,t,rfl,by rw [sizeLine_eq]; omega,zhn hr I1 hl2 q⟩
theorem zb4 {v1 v2 : Expr} {rest : List Expr} {ts : List TE} (h : Paired (PE X) (v1 :: v2 :: rest) ts) (hl : (v1 :: v2 :: rest).length ≤ 100) (hev : evalEach (v1 :: v2 :: rest) X.env = (v1 :: v2 :: rest).map (fun e => eval e X.env):=by rfl) :
  PE X (.JoinedStr (v1 :: v2 :: rest) pos) (tFstr ts):=by
 intro pins s σ H Q I hq
 refine wpAny_JoinedStr ?_
 rw [hev]
 refine zhn h I ?_ hq
 show 0 + 2000 * (v1 :: v2 :: rest).length ≤ 200000
 omega
end
noncomputable def rInsert : V → List V → Hp → VK → Prop:=fun x vs H Q => ∃ (l : Addr) (xs : List V) (i : Int) (k : Nat) (y : V),x = .ref l ∧ vs = [.int i,y] ∧ i = (k : Int) ∧ H l = some (.lst xs) ∧ k ≤ xs.length ∧ xs.length < sizeLine ∧ Q .non (upd H l (.lst (xs.take k ++ y :: xs.drop k)))
theorem ins_arr (its : List Value) (i : Int) (k : Nat) (u : Value) (hi : i = (k : Int)) (hk : k ≤ its.length) :
  (fun xs : Array Value => have k:=if i < 0 then (i + (xs.size : Int)).toNat else min i.toNat xs.size; (xs.extract 0 k).push u ++ xs.extract k) its.toArray = (its.take k ++ u :: its.drop k).toArray:=by
 have g1 : its.toArray.extract 0 k = (its.take k).toArray:=by simp
 have g2 : its.toArray.extract k = (its.drop k).toArray:=by
  simp
  exact List.take_of_length_le (by rw [List.length_drop]; omega)
 have hk2 : (if i < 0 then (i + (its.toArray.size : Int)).toNat else min i.toNat its.toArray.size) = k:=by
  rw [if_neg (by omega),List.size_toArray]
  omega
 show (its.toArray.extract 0 (if i < 0 then (i + (its.toArray.size : Int)).toNat else min i.toNat its.toArray.size)).push u ++ its.toArray.extract (if i < 0 then (i + (its.toArray.size : Int)).toNat else min i.toNat its.toArray.size) = _
 rw [hk2,g1,g2,List.push_toArray,List.append_toArray,List.append_assoc]
 rfl
theorem zi6 {X : Cx} : MtM X "list.insert" rInsert:=by
 intro pins s σ H x vs v us Q I rx rv h
 obtain ⟨l,xs,i,k,y,rfl,rfl,hi,hH,hk,hz,q⟩:=h
 cases rx
 obtain ⟨u1,u2,rfl,r1,r2⟩:=rv.two
 obtain ⟨t,rfl⟩:=r1
 obtain ⟨z,its,n,r,hl,e⟩:=I.lstM hH
 have hline : sizeLine = 16777216:=sizeLine_eq
 have hfit : ¬ (!Builtin.List.listFitsIndex i) = true:=by
  rw [fitsIndex_both (k:=i) (by omega) (by omega)]
  exact Bool.false_ne_true
 have hsz : its.toArray.size ≤ sizeLine:=by
  rw [List.size_toArray]
  omega
 refine call_meets F.slot_list_insert ⟨_,e,rfl⟩ F.entry_list_insert (F.args_list_insert_3 _ _ _) (AutoSeq1.list_insert_list_int_val_1 l its.toArray n i t u2 hfit hsz) ⟨e,?_⟩
 refine ⟨.non,_,I.lset (its':=its.take k ++ u2 :: its.drop k) hH e (ins_arr its i k u2 hi (by omega)) (Vals.append (r.take k) (.cons r2 (r.drop k))) ?_,rfl,q⟩
 rw [List.length_append,List.length_cons,List.length_take,List.length_drop]
 omega
open PySem.W (Dat kqdP kqdPs kqdOk)
mutual
inductive DatV (K : W.Frag) (H : Hp) : V → Dat → Prop
 | non : DatV K H .non .none
 | int (i : Int) : DatV K H (.int i) (.int i)
 | str (x : Str) : DatV K H (.str x) (.str x)
 | tup {a : Addr} {xs : List V} {ds : List Dat} : SqT K H a xs → DatVs K H xs ds → DatV K H (.ref a) (.tuple ds)
 | lst {a : Addr} {xs : List V} {ds : List Dat} : SqL K H a xs → DatVs K H xs ds → DatV K H (.ref a) (.list ds)
inductive DatVs (K : W.Frag) (H : Hp) : List V → List Dat → Prop
 | nil : DatVs K H [] []
 | cons {x : V} {xs : List V} {d : Dat} {ds : List Dat} : DatV K H x d → DatVs K H xs ds → DatVs K H (x :: xs) (d :: ds)
end
section
variable {X : Cx} {pins : List (Addr × Obj)} {σ : St} {H : Hp} {s : Shared}
mutual
theorem DatV.reads (I : Inv X pins σ H s) : ∀ {x : V} {d : Dat} {u : Value},DatV X.K H x d → RelV x u → ∃ as,Reads s.heap u (kqdP d) as
 | _,_,_,.non,r => by cases r; exact ⟨_,Reads.none⟩
 | _,_,_,.int i,r => by obtain ⟨t,rfl⟩:=r; exact ⟨_,Reads.int i t⟩
 | _,_,_,.str x,r => by obtain ⟨t,rfl⟩:=r; exact ⟨_,Reads.str x t⟩
 | _,_,_,.tup h hs,r => by
  cases r
  obtain ⟨its,rv,⟨o,e,c,n,d⟩,_⟩:=I.tuple h
  obtain ⟨as,q⟩:=DatVs.reads I hs rv
  rw [kqdP]
  exact ⟨_,Reads.tuple e c d q⟩
 | _,_,_,.lst h hs,r => by
  cases r
  obtain ⟨its,rv,⟨o,n,e,c,_,d⟩,_⟩:=I.list h
  obtain ⟨as,q⟩:=DatVs.reads I hs rv
  rw [kqdP]
  exact ⟨_,Reads.list e c d q⟩
theorem DatVs.reads (I : Inv X pins σ H s) : ∀ {xs : List V} {ds : List Dat} {us : List Value},DatVs X.K H xs ds → Vals xs us → ∃ as,ReadsAll s.heap us (kqdPs ds) as
 | _,_,_,.nil,r => by cases r; exact ⟨_,ReadsAll.nil⟩
 | _,_,_,.cons h hs,r => by
  cases r with
  | cons r rs =>
   obtain ⟨as,q⟩:=DatV.reads I h r
   obtain ⟨bs,p⟩:=DatVs.reads I hs rs
   rw [kqdPs]
   exact ⟨_,ReadsAll.cons q p⟩
end
end
section
variable {X : Cx}
theorem zcR {n : Nat} {d : Dat} (hn : n ≤ 9) (h : kqdOk n d = true) : SeqAt.shaped (kqdP d) = true:=by
 have l:=W.kqd_lay n d h
 unfold SeqAt.shaped
 rw [l.1,Bool.true_and]
 exact decide_eq_true (Nat.le_trans l.2 (Nat.le_trans hn (by decide)))
noncomputable def rEqD (K : W.Frag) (neg : Bool) : R2:=fun x y H Q => ∃ d e,DatV K H x d ∧ DatV K H y e ∧ kqdOk 9 d = true ∧ kqdOk 9 e = true ∧ ∀ k : Bool,(k = true ↔ d = e) → Q (.bl (if neg then !k else k)) H
theorem ziY (hu : X.A.units + 64 < cLine) : OpR X (compareOp .Eq) (rEqD X.K false):=by
 intro pins s σ H x y v u Q I rx ry h
 obtain ⟨d,e,dx,dy,kd,ke,q⟩:=h
 obtain ⟨as,r1⟩:=DatV.reads I dx rx
 obtain ⟨bs,r2⟩:=DatV.reads I dy ry
 exact eq_dataH r1 r2 (zcR (Nat.le_refl _) kd) (zcR (Nat.le_refl _) ke) hu ⟨.bl _,H,I,rfl,q _ (W.kqd_eqv 9 d e 9 kd ke)⟩
theorem op_neD (hu : X.A.units + 64 < cLine) : OpR X (compareOp .NotEq) (rEqD X.K true):=by
 intro pins s σ H x y v u Q I rx ry h
 obtain ⟨d,e,dx,dy,kd,ke,q⟩:=h
 obtain ⟨as,r1⟩:=DatV.reads I dx rx
 obtain ⟨bs,r2⟩:=DatV.reads I dy ry
 exact ne_dataH r1 r2 (zcR (Nat.le_refl _) kd) (zcR (Nat.le_refl _) ke) hu ⟨.bl _,H,I,rfl,q _ (W.kqd_eqv 9 d e 9 kd ke)⟩
end
end L2
namespace L2
open PySem PySem.Spec PyProof.Rows
noncomputable def zbi (X : Cx) (N : List Str) (scope : Scope) (cl : List (Str × Addr)) (C : Addr) (s2 : Shared) (H2 : Hp) (fp : List Addr) : Cx :=
 { X with N:=N,s₀:=s2,H₀:=H2,env:={ scope:=relabel scope X.env,locals:=C,globals:=X.env.globals,cells:=cl,qual:=X.env.qual,func:=none,code:=X.env.code,frame:=X.env.frame,builtins:=X.env.builtins },
          outer:=X.stack,ex:=fp,fn:=fun _ => false,pn:=[],xe:=fun _ _ => False }
theorem zaV {scope : Scope} {env : Env} {y : Str} (h : scope.names.lookup y = some .free) : (relabel scope env).names.lookup y = some .cell ∨ (relabel scope env).names.lookup y = some .free:=by
 have main : ∀ names : List (Str × NameKind),names.lookup y = some .free → (names.map fun (n,k) => if (k == NameKind.free && env.scope.kind == .function && env.kindOf n == some .cell) then (n,NameKind.cell) else (n,k)).lookup y = some .cell ∨
   (names.map fun (n,k) => if (k == NameKind.free && env.scope.kind == .function && env.kindOf n == some .cell) then (n,NameKind.cell) else (n,k)).lookup y = some .free:=fun names => by
  induction names with
  | nil => intro h; simp at h
  | cons p r ih =>
   obtain ⟨n,k⟩:=p
   intro h
   rw [List.map_cons]
   cases hx : y == n with
   | true =>
    rw [List.lookup_cons,hx] at h
    have h : some k = some NameKind.free:=h
    obtain rfl:=Option.some.inj h
    by_cases z : (NameKind.free == NameKind.free && env.scope.kind == .function && env.kindOf n == some .cell) = true
    ·refine .inl ?_
     show List.lookup y ((if (NameKind.free == NameKind.free && env.scope.kind == .function && env.kindOf n == some .cell) = true then (n,NameKind.cell) else (n,NameKind.free)) :: _) = _
     rw [if_pos z,List.lookup_cons,hx]
    ·refine .inr ?_
     show List.lookup y ((if (NameKind.free == NameKind.free && env.scope.kind == .function && env.kindOf n == some .cell) = true then (n,NameKind.cell) else (n,NameKind.free)) :: _) = _
     rw [if_neg z,List.lookup_cons,hx]
   | false =>
    rw [List.lookup_cons,hx] at h
    have h : r.lookup y = some .free:=h
    have e : ∀ q : Str × NameKind,q.1 = n → ∀ l,List.lookup y (q :: l) = List.lookup y l:=fun q hq l => by
     obtain ⟨q1,q2⟩:=q
     subst hq
     rw [List.lookup_cons,hx]
    rw [e _ (by show (if _ then _ else _ : Str × NameKind).1 = n; split <;> rfl)]
    exact ih h
 exact main _ h
end L2
namespace L2
open PySem PySem.Spec PyProof.Rows
theorem zdQ {P : Str → Addr → Prop} {f : Str × NameKind → List (Str × Addr) → Sem (ForInStep (List (Str × Addr)))} : ∀ (names : List (Str × NameKind)) (acc : List (Str × Addr)),
  (∀ x ∈ names,(x.2 ≠ .free ∧ ∀ r,f x r = pure (.yield r)) ∨ (x.2 = .free ∧ ∃ c,P x.1 c ∧ ∀ r,f x r = pure (.yield ((x.1,c) :: r)))) →
  ∃ cl,forIn names acc f = pure cl ∧ (∀ p ∈ cl,p ∈ acc ∨ P p.1 p.2) ∧ (∀ p ∈ acc,p ∈ cl) ∧ ∀ x ∈ names,x.2 = .free → ∃ c,(x.1,c) ∈ cl
 | [],acc,_ => ⟨acc,rfl,fun p hp => .inl hp,fun p hp => hp,fun x hx => by simp at hx⟩
 | x :: r,acc,h => by
  rw [List.forIn_cons]
  rcases h x List.mem_cons_self with ⟨n,e⟩ | ⟨n,c,pc,e⟩
  ·obtain ⟨cl,h1,h2,h3,h4⟩:=zdQ r acc fun z hz => h z (List.mem_cons_of_mem _ hz)
   refine ⟨cl,by rw [e]; exact h1,h2,h3,fun z hz hf => ?_⟩
   rcases List.mem_cons.mp hz with rfl | hz
   ·exact absurd hf n
   ·exact h4 z hz hf
  ·obtain ⟨cl,h1,h2,h3,h4⟩:=zdQ r ((x.1,c) :: acc) fun z hz => h z (List.mem_cons_of_mem _ hz)
   refine ⟨cl,by rw [e]; exact h1,fun p hp => ?_,fun p hp => h3 p (List.mem_cons_of_mem _ hp),fun z hz hf => ?_⟩
   ·rcases h2 p hp with z | z
    ·rcases List.mem_cons.mp z with rfl | z
     ·exact .inr pc
     ·exact .inl z
    ·exact .inr z
   ·rcases List.mem_cons.mp hz with rfl | hz
    ·exact ⟨c,h3 _ List.mem_cons_self⟩
    ·exact h4 z hz hf
theorem zcJ {x : Str} {c : Addr} : ∀ {cl : List (Str × Addr)},(x,c) ∈ cl → ∃ c',cl.lookup x = some c'
 | [],h => by simp at h
 | (y,d) :: r,h => by
  rw [List.lookup_cons]
  cases e : x == y with
  | true => exact ⟨d,rfl⟩
  | false =>
   rcases List.mem_cons.mp h with z | z
   ·injection z with z1 z2
    rw [z1] at e
    simp at e
   ·exact zcJ z
theorem zf1 {scope : Scope} {env : Env} (h : ∀ x ∈ scope.names,x.2 = .free → ∃ c,env.cells.lookup x.1 = some c) :
  ∃ cl,closureFor scope env = pure cl ∧ (∀ p ∈ cl,env.cells.lookup p.1 = some p.2) ∧ ∀ x ∈ scope.names,x.2 = .free → ∃ c,cl.lookup x.1 = some c:=by
 have main:=zdQ (P:=fun x c => env.cells.lookup x = some c) (f:=fun x r => if (x.2 == .free) = true then (do let a ← cellOf env x.1; pure (ForInStep.yield ((x.1,a) :: r))) else pure (ForInStep.yield r)) scope.names [] fun x hx => by
  by_cases hf : x.2 = .free
  ·obtain ⟨c,hc⟩:=h x hx hf
   refine .inr ⟨hf,c,hc,fun r => ?_⟩
   rw [if_pos (by simp [hf])]
   unfold cellOf
   rw [hc]
   rfl
  ·exact .inl ⟨hf,fun r => if_neg (by simpa using hf)⟩
 obtain ⟨cl,h1,h2,_,h4⟩:=main
 refine ⟨cl,?_,fun p hp => ?_,fun x hx hf => ?_⟩
 ·unfold closureFor
  refine Eq.trans (congrArg (fun z : Sem (List (Str × Addr)) => z >>= fun cs => pure cs) (Eq.trans ?_ h1)) rfl
  rfl
 ·rcases h2 p hp with z | z
  ·simp at z
  ·exact z
 ·obtain ⟨c,hc⟩:=h4 x hx hf
  exact zcJ hc
noncomputable def zie (n : Nat) (caps : List (Str × Nat)) (wi : TI) (g : TG) (tc : TT) (te : TE) : TE:=fun σ H Q => ∃ cvs : List V,cvs.length = caps.length ∧ (∀ (j : Nat) p,caps[j]? = some p → ∃ v,σ[p.2]? = some (some v) ∧ cvs[j]? = some v) ∧ wi σ H fun J H1 => ∃ W : Nat → Nat → List V → Hp → Prop,(∃ m,W 0 m [] H1) ∧ ∀ i m ys H,W i m ys H → ys.length ≤ sizeLine ∧
 ((J.stop i H ∧ ∀ p,H p = none → Q (.ref p) (upd H p (.lst ys))) ∨
  (J.go i H ∧ ∀ x H',J.yld i H x H' → g x (List.replicate n none ++ cvs.map some) H' fun σ2 H2 => tc σ2 H2 fun b H3 => if b = true then te σ2 H3 fun y H4 => ∃ m',m' < m ∧ W (i + 1) m' (ys ++ [y]) H4 else ∃ m',m' < m ∧ W (i + 1) m' ys H3))
theorem zeg {X : Cx} {pins : List (Addr × Obj)} {s : Shared} {σ : St} {H : Hp} {Q : VK} {use : Option (Value → Sem Unit)} {Q' : Value → Shared → Prop} {elt tg iter : Expr} {ifs : List Expr} {scope : Scope} {pos pos2 : Pos} {own : List Str} {caps : List (Str × Nat)} {wi : TI} {g : TG} {tc : TT} {te : TE}
  (hcalm : X.calm = true) (hfree : ∀ x ∈ scope.names,x.2 = .free → x.1 ∈ caps.map (·.1)) (hcaps : ∀ p ∈ caps,scope.names.lookup p.1 = some .free ∧ X.N[p.2]? = some p.1 ∧ X.env.scope.names.lookup p.1 = some .cell) (hcell : ∀ x ∈ scope.names,x.2 ≠ .cell) (hkind : scope.kind = .function) (hnames : ∀ x ∈ scope.names,x.2 = .local → scope.names.lookup x.1 = some .local)
  (hi : PI X tg iter wi) (hg : ∀ cl C s2 H2 fp,PG (zbi X (own ++ caps.map (·.1)) scope cl C s2 H2 fp) tg g) (hc : ∀ cl C s2 H2 fp,PF (zbi X (own ++ caps.map (·.1)) scope cl C s2 H2 fp) ifs tc) (he : ∀ cl C s2 H2 fp,PE (zbi X (own ++ caps.map (·.1)) scope cl C s2 H2 fp) elt te)
  (hs : ∀ x,foldedSetIterable iter X.env x = pure x) (I : Inv X pins σ H s) (h : zie own.length caps wi g tc te σ H Q)
  (hend : ∀ (s5 : Shared) (C D : Addr) (H4 : Hp) (ys : List V),(∃ m,s5.heap.Ns C m) → C ≠ X.env.locals → (∀ x c,X.env.cells.lookup x = some c → c ≠ C) → X.s₀.heap.objs.size ≤ C → upd H4 D (.lst ys) C = none → (∀ p ∈ X.pn ++ pins,p.1 ≠ C) →
   (∀ h6,Heap.SameBut C s5.heap h6 → Inv X pins σ (upd H4 D (.lst ys)) { s5 with heap:=h6 }) → Q (.ref D) (upd H4 D (.lst ys)) → compPost (model X.prog X.w) X.A X.xe use Q' (.ref D) C (.ok .next) s5) :
  wpAny (model X.prog X.w) X.A (comprehension (.ListComp elt [⟨tg,iter,ifs,0⟩] scope pos) scope X.env pos2 (newList []) false (eval iter X.env) use) Q' X.xe s:=by
 obtain ⟨cvs,hcvl,hcv,h⟩:=h
 obtain ⟨cl,hclos,hcl,hclf⟩:=zf1 (scope:=scope) (env:=X.env) fun x hx hf => by
  obtain ⟨p,hp,e⟩:=List.mem_map.mp (hfree x hx hf)
  rw [← e]
  exact I.ok.has p.1 (.inl (hcaps p hp).2.2)
 refine wpAny_comprehension_free (use:=use) rfl hs hclos hkind hnames (thn (hi pins s σ H _ I h) fun v s1 h1 => thn h1 fun itv s2 h2 => ?_)
 obtain ⟨it,fp,tn,J,H2,e0,I2,T,st2,f2,W,⟨m0,w0⟩,turn⟩:=h2
 subst e0
 refine wpAny_newObj_type (wpAny_newFunctionEnv hcell (fun y hy => absurd hy (by simp)) (fun h₁ hns₁ hsb₁ => ?_) hkind)
 dsimp only at hns₁ hsb₁ ⊢
 generalize hG : s2.heap.push { cls:=.type "list",dict:=none,data:=.seq ([] : List Value).toArray } = G at hns₁ hsb₁ ⊢
 have hC : G.objs.size = s2.heap.objs.size + 1:=by rw [← hG,Heap.size_push]
 have hDC : s2.heap.objs.size ≠ G.objs.size:=by rw [hC]; omega
 have hCle : s2.heap.objs.size ≤ G.objs.size:=by rw [hC]; omega
 have lt : ∀ {b : Addr} {o : Obj},s2.heap.get? b = some o → b ≠ G.objs.size ∧ b ≠ s2.heap.objs.size:=fun e => by
  have l0:=Heap.lt_size e
  exact ⟨Nat.ne_of_lt (Nat.lt_of_lt_of_le l0 hCle),Nat.ne_of_lt l0⟩
 have old : ∀ b o,s2.heap.get? b = some o → h₁.get? b = some o:=fun b o e => hsb₁.extBut b o (lt e).1 (Heap.get?_push_of_some _ (hG ▸ Heap.get?_push_of_some _ e))
 have hacc : h₁.PlainList s2.heap.objs.size #[]:=⟨_,hsb₁.extBut _ _ hDC (Heap.get?_push_of_some _ (hG ▸ Heap.get?_push_size _ rfl))⟩
 have fpo : ∀ b ∈ fp,b < s2.heap.objs.size:=fun b hb => by
  obtain ⟨o,e,_⟩:=T.obj 0 _ st2 b hb
  exact Heap.lt_size e
 have fps : ∀ b ∈ fp,b ∉ frs X.stack:=fun b hb z => by
  obtain ⟨_,f1,f2',_⟩:=f2 b hb
  rcases List.mem_cons.mp (I2.stkSub b z) with r | r
  ·exact f1 r
  ·exact f2' r
 have cOf : ∀ x c',cl.lookup x = some c' → X.env.cells.lookup x = some c':=fun x c' e => hcl _ (PySem.mem_of_lookup e)
 have cH : ∀ x c',cl.lookup x = some c' → H2 c' = none:=fun x c' e => I2.freeC x c' (cOf x c' e)
 have cFp : ∀ x c',cl.lookup x = some c' → ∀ b ∈ fp,c' ≠ b:=fun x c' e b hb => (f2 b hb).2.2.2.2.1 x c' (cOf x c' e)
 have cLt : ∀ x c',cl.lookup x = some c' → c' < s2.heap.objs.size:=fun x c' e => by
  obtain ⟨v,q⟩:=I2.cell x c' (cOf x c' e)
  exact q.lt
 have ok : (zbi X (own ++ caps.map (·.1)) scope cl G.objs.size s2 H2 fp).Ok:=⟨I2.mod,hkind,I2.ok.glob,I2.ok.blt,hCle,fun x x' c' e e' => I2.ok.inj x x' c' (cOf x c' e) (cOf x' c' e'),fun x hx => ?_,fun _ _ e => absurd e (by simp [zbi]),I2.ok.hd,I2.ok.frames,.inl rfl,
  fun b hb => ⟨Nat.ne_of_lt (Nat.lt_of_lt_of_le (fpo b hb) hCle),fun x c' e => cFp x c' e b hb⟩,I2.bs,Nat.le_trans I2.ok.bsz I2.sz,fun b o e hb => ?_,fps,I2.stack,I2.stkFree⟩
 rotate_left
 ·have hx : (relabel scope X.env).names.lookup x = some .cell ∨ (relabel scope X.env).names.lookup x = some .free:=hx
  obtain ⟨kn,hm,hkn⟩ : ∃ kn,(x,kn) ∈ (relabel scope X.env).names ∧ (kn = .cell ∨ kn = .free):=by
   rcases hx with z | z
   ·exact ⟨_,PySem.mem_of_lookup z,.inl rfl⟩
   ·exact ⟨_,PySem.mem_of_lookup z,.inr rfl⟩
  obtain ⟨⟨n0,k0⟩,hm0,e0⟩:=List.mem_map.mp hm
  have e0 : (if (k0 == NameKind.free && X.env.scope.kind == .function && X.env.kindOf n0 == some .cell) = true then (n0,NameKind.cell) else (n0,k0)) = (x,kn):=e0
  have hk0 : k0 = .free ∧ n0 = x:=by
   by_cases z : (k0 == NameKind.free && X.env.scope.kind == .function && X.env.kindOf n0 == some .cell) = true
   ·rw [if_pos z] at e0
    injection e0 with e1 e2
    have : (k0 == NameKind.free) = true:=by
     cases w : (k0 == NameKind.free) with
     | true => rfl
     | false => rw [w] at z; simp at z
    exact ⟨by simpa using this,e1⟩
   ·rw [if_neg z] at e0
    injection e0 with e1 e2
    subst e2
    rcases hkn with w | w
    ·exact absurd w (hcell _ hm0)
    ·exact ⟨w,e1⟩
  obtain ⟨q1,q2⟩:=hk0
  obtain ⟨c,q3⟩:=hclf _ hm0 q1
  exact ⟨c,by show cl.lookup x = some c; rw [← q2]; exact q3⟩
 ·obtain ⟨_,_,_,z,_⟩:=f2 b hb
  rcases z with z | z
  ·exact I2.ok.noex b o e z
  ·exact absurd (Nat.lt_of_lt_of_le (Heap.lt_size (I2.ok.bs b o e).1) z) (Nat.lt_irrefl _)
 have again : ∀ {pl : List (Addr × Obj)} {σ' : St} {H' : Hp} {s' : Shared},Inv (zbi X (own ++ caps.map (·.1)) scope cl G.objs.size s2 H2 fp) pl σ' H' s' → Inv (zbi X (own ++ caps.map (·.1)) scope cl G.objs.size s2 H2 fp) pl (List.replicate own.length none ++ cvs.map some) H' s':=fun {pl σ' H' s'} J => by
  obtain ⟨mm,hmm,_⟩:=id J.loc
  refine ⟨J.ok,J.os,J.bare,J.base,⟨mm,hmm,fun i x v e1 e2 e3 => ?_⟩,J.cell,J.free,J.freeC,J.pin,J.hok,by show (List.replicate own.length none ++ cvs.map some).length = (own ++ caps.map (·.1)).length; simp [hcvl]⟩
  have e1 : (own ++ caps.map (·.1))[i]? = some x:=e1
  by_cases hi : i < own.length
  ·rw [List.getElem?_append_left (by simpa using hi),List.getElem?_replicate] at e2
   rw [if_pos hi] at e2
   cases e2
  ·rw [List.getElem?_append_right (by simpa using hi)] at e2
   rw [List.getElem?_append_right (by omega),List.getElem?_map] at e1
   rw [List.length_replicate,List.getElem?_map] at e2
   generalize i - own.length = j at e1 e2
   cases ec : caps[j]? with
   | none =>
    rw [ec] at e1
    cases e1
   | some p =>
    rw [ec] at e1
    obtain rfl : p.1 = x:=Option.some.inj e1
    obtain ⟨v',hv1,hv2⟩:=hcv j p ec
    rw [hv2] at e2
    obtain rfl : v' = v:=Option.some.inj (Option.some.inj e2)
    obtain ⟨hf1,hf2,hf3⟩:=hcaps p (List.mem_of_getElem? ec)
    obtain ⟨c,hc⟩:=hclf _ (PySem.mem_of_lookup hf1) rfl
    obtain ⟨m2,_,hl⟩:=I2.loc
    obtain ⟨cu,hr,hlook⟩:=hl p.2 p.1 v' hf2 hv1 (.inr (.inl hf3))
    rcases hlook with ⟨hk,_⟩ | ⟨_,c',hc',oc,hoc,hoc2⟩
    ·have hk : X.env.scope.names.lookup p.1 = some .local:=hk
     rw [hf3] at hk
     cases hk
    ·have e5:=cOf _ _ hc
     rw [e5] at hc'
     obtain rfl:=Option.some.inj hc'
     obtain ⟨sl,e4⟩:=J.base.any hoc (cH _ _ hc) (fun z => cFp _ _ hc _ z rfl)
     exact ⟨cu,hr,.inr ⟨zaV hf1,c,hc,_,e4,hoc2⟩⟩
 have fH : ∀ b ∈ fp,H2 b = none:=fun b hb => (f2 b hb).1
 have Ic : Inv (zbi X (own ++ caps.map (·.1)) scope cl G.objs.size s2 H2 fp) [] (List.replicate (own ++ caps.map (·.1)).length none) H2 { s2 with heap:=h₁,toks:=s2.toks + ([] : List (Str × Value)).length } :=
  ⟨ok,rfl,I2.bare,Un.kept old,⟨_,hns₁,fun i y v e1 e2 e3 => by
   rw [List.getElem?_replicate] at e2
   split at e2 <;> cases e2⟩,fun x c' e => (by obtain ⟨v,q⟩:=I2.cell x c' (cOf x c' e); exact ⟨v,q.keeps old⟩),I2.hok.fresh hCle,fun x c' e => cH x c' e,fun p hp => absurd hp (by simp [zbi]),I2.hok.kept old,by simp [zbi]⟩
 have fpOk : ∀ {pl : List (Addr × Obj)} {H' : Hp},(∀ p ∈ pl,p.1 = s2.heap.objs.size) → (∀ b ∈ fp,H' b = none) → ∀ b ∈ fp,FpOk (zbi X (own ++ caps.map (·.1)) scope cl G.objs.size s2 H2 fp) pl H' b:=fun {pl H'} hpl hn b hb => by
  refine ⟨hn b hb,Nat.ne_of_lt (Nat.lt_of_lt_of_le (fpo b hb) hCle),fps b hb,.inl hb,fun x c' e => cFp x c' e b hb,fun p hp => ?_⟩
  have hp : p ∈ pl:=by simpa [zbi] using hp
  rw [hpl p hp]
  exact (Nat.ne_of_lt (fpo b hb)).symm
 have loop : ∀ s3 : Shared,s3 = { s2 with heap:=h₁,toks:=s2.toks + ([] : List (Str × Value)).length } →
   codeAny (model X.prog X.w) X.A (.compLoop (.ListComp elt [⟨tg,iter,ifs,0⟩] scope pos) 0 (.ref it) (.ref s2.heap.objs.size) (zbi X (own ++ caps.map (·.1)) scope cl G.objs.size s2 H2 fp).env) (compPost (model X.prog X.w) X.A X.xe use Q' (.ref s2.heap.objs.size) G.objs.size) s3:=by
  rintro s3 rfl
  refine zjW (fun n s' => ∃ i σ' ys its H',Inv (zbi X (own ++ caps.map (·.1)) scope cl G.objs.size s2 H2 fp) [] σ' H' s' ∧ tn i s'.heap ∧ (∀ b ∈ fp,H' b = none) ∧ H' s2.heap.objs.size = none ∧ s'.heap.PlainList s2.heap.objs.size (List.toArray its) ∧ Vals ys its ∧ W i n ys H') ?_ m0
   ⟨0,_,[],[],H2,Ic,T.keep _ _ _ st2 fun b hb o e => old b o e,fH,I2.hok.fresh (Nat.le_refl _),hacc,.nil,w0⟩
  rintro n s4 ⟨i,σ4,ys,its,H4,I4,st4,fr4,hD4,⟨nn,ho4⟩,rv4,w4⟩
  obtain ⟨hz,alt⟩:=turn i n ys H4 w4
  have I4' : Inv (zbi X (own ++ caps.map (·.1)) scope cl G.objs.size s2 H2 fp) [(s2.heap.objs.size,_)] σ4 H4 s4:=I4.pins_of fun p hp => by
   have e : p = (s2.heap.objs.size,_):=List.mem_singleton.mp hp
   subst e
   refine ⟨ho4,hD4,hDC,fun z => ?_,fun v z => by cases z⟩
   obtain ⟨_,o,eo,_⟩:=I2.frs_ok _ z
   exact absurd (Heap.lt_size eo) (Nat.lt_irrefl _)
  have one : ∀ p ∈ [((s2.heap.objs.size : Addr),({ cls:=.type "list",data:=.seq (List.toArray its) nn } : Obj))],p.1 = s2.heap.objs.size:=fun p hp => by rw [List.mem_singleton.mp hp]
  rcases alt with ⟨stop,q⟩ | ⟨go,step⟩
  ·refine thn (T.done (zbi X (own ++ caps.map (·.1)) scope cl G.objs.size s2 H2 fp) rfl rfl rfl hcalm i _ s4 σ4 H4 _ I4' (fpOk one fr4) st4 stop) fun r s5 ⟨hr,I5⟩ => ?_
   subst hr
   obtain ⟨m5,hn5,_⟩:=id I5.loc
   have inv : ∀ h6,Heap.SameBut G.objs.size s5.heap h6 → Inv X pins σ (upd H4 s2.heap.objs.size (.lst ys)) { s5 with heap:=h6 }:=fun h6 hs6 => by
    have ho5:=(I5.pin (s2.heap.objs.size,_) (List.mem_append_right _ (List.mem_singleton.mpr rfl))).1
    have nC : ∀ b,(∃ o,s2.heap.get? b = some o) → b ≠ G.objs.size:=fun b ⟨o,e⟩ => (lt e).1
    have hokC : HOk X.prog X.w H4 h6:=fun b ob e => (I5.hok b ob e).stay (fun c w' hc qq => (hs6.2 c (by
     rintro rfl
     have z:=I5.free
     rcases hc with r | hc
     ·rw [← r] at e; rw [show H4 G.objs.size = none from z] at e; cases e
     ·rw [show H4 G.objs.size = none from z] at hc; cases hc)).trans qq) (fun _ qq => qq) fun _ _ qq => qq
    have ho6 : h6.get? s2.heap.objs.size = some { cls:=.type "list",data:=.seq (List.toArray its) nn }:=(hs6.2 _ hDC).trans ho5
    have hok6 : HOk X.prog X.w (upd H4 s2.heap.objs.size (.lst ys)) h6:=hokC.track hD4 ⟨hz,its,nn,rv4,ho6⟩
    have b5:=I5.base
    have un6 : Un (frs X.stack) fp H2 (upd H4 s2.heap.objs.size (.lst ys)) s2.heap h6:=⟨fun b o e n hb hx => (hs6.2 b (nC b ⟨o,e⟩)).trans (b5.keep b o e n hb hx),fun b o e n hb hx => by
      obtain ⟨sl,e1⟩:=b5.slot b o e n hb hx
      exact ⟨sl,(hs6.2 b (nC b ⟨o,e⟩)).trans e1⟩,fun b o e n hx => by
      rw [zad (lt e).2]
      exact b5.free b o e n hx,fun b o e hx => by
      obtain ⟨o',e1⟩:=b5.there b o e hx
      exact ⟨o',(hs6.2 b (nC b ⟨o,e⟩)).trans e1⟩,fun b xs e => by
      rw [zad (zae (b5.tups b xs e) hD4)]
      exact b5.tups b xs e,fun b o u e => by
      rw [zad (zae (b5.frzs b o u e) hD4)]
      exact b5.frzs b o u e,fun b ps e => by
      obtain ⟨more,e1⟩:=b5.tbls b ps e
      exact ⟨more,by rw [zad (zae e1 hD4)]; exact e1⟩⟩
    have I6 : Inv X pins σ (upd H4 s2.heap.objs.size (.lst ys)) { s5 with heap:=h6 }:=I2.call' (s':={ s5 with heap:=h6 }) (ch:=fp) I5.os un6 hok6 I5.bare fun b hb => by
     obtain ⟨_,f1,f2',f3,f4,f5⟩:=f2 b hb
     exact ⟨f3,f1,f4,f5⟩
    exact I6
   refine hend s5 G.objs.size s2.heap.objs.size H4 ys ⟨m5,hn5⟩ (Nat.ne_of_gt (Nat.lt_of_lt_of_le I2.lt hCle)) (fun x c e => ?_) (Nat.le_trans I2.sz hCle) ?_ (fun p hp => ?_) inv (q _ hD4)
   ·obtain ⟨v,z⟩:=I2.cell x c e
    exact Nat.ne_of_lt (Nat.lt_of_lt_of_le z.lt hCle)
   ·rw [zad hDC.symm]
    exact I5.free
   ·exact Nat.ne_of_lt (Nat.lt_of_lt_of_le (Heap.lt_size (I2.pin p hp).1) hCle)
  ·refine thn (T.item (zbi X (own ++ caps.map (·.1)) scope cl G.objs.size s2 H2 fp) rfl rfl rfl hcalm i _ s4 σ4 H4 _ I4' (fpOk one fr4) st4 go) fun r s5 ⟨u,hr,h5⟩ => ?_
   subst hr
   refine thn h5 fun _ s6 ⟨x,H6,I6,r6,y6,st6,fr6⟩ => ?_
   have I6w:=again I6
   have I6':=I6w.pinned (fpOk one fr6) (T.obj _ _ st6)
   refine thn (hg _ _ _ _ _ _ s6 _ H6 x u _ I6' r6 (step x H6 y6)) fun _ s7 ⟨σ7,H7,I7,q7⟩ => ?_
   refine thn (hc _ _ _ _ _ _ s7 σ7 H7 _ I7 q7) fun b s8 ⟨H8,I8,q8⟩ => ?_
   have fin : ∀ {σ9 : St} {H9 : Hp} {s9 : Shared},Inv (zbi X (own ++ caps.map (·.1)) scope cl G.objs.size s2 H2 fp) ([((s2.heap.objs.size : Addr),({ cls:=.type "list",data:=.seq (List.toArray its) nn } : Obj))] ++ zfp fp s6.heap) σ9 H9 s9 →
     Inv (zbi X (own ++ caps.map (·.1)) scope cl G.objs.size s2 H2 fp) [] σ9 H9 s9 ∧ tn (i + 1) s9.heap ∧ (∀ b ∈ fp,H9 b = none) ∧ H9 s2.heap.objs.size = none ∧ s9.heap.get? s2.heap.objs.size = some { cls:=.type "list",data:=.seq (List.toArray its) nn }:=fun {σ9 H9 s9} I9 => by
    have p9:=I9.pin (s2.heap.objs.size,_) (List.mem_append_right _ (List.mem_append_left _ (List.mem_singleton.mpr rfl)))
    refine ⟨I9.pins_of fun p hp => absurd hp (by simp),T.keep _ _ _ st6 fun b hb o e => (I9.pin (b,o) (List.mem_append_right _ (List.mem_append_right _ (zcj hb e)))).1,fun b hb => ?_,p9.2.1,p9.1⟩
    obtain ⟨o,e,_⟩:=T.obj _ _ st6 b hb
    exact (I9.pin (b,o) (List.mem_append_right _ (List.mem_append_right _ (zcj hb e)))).2.1
   cases b with
   | false =>
    rw [if_neg Bool.false_ne_true] at q8 ⊢
    obtain ⟨m',hm,w8⟩:=q8
    obtain ⟨J8,t8,r8,d8,o8⟩:=fin I8
    exact ⟨m',hm,i + 1,σ7,ys,its,H8,J8,t8,r8,d8,⟨nn,o8⟩,rv4,w8⟩
   | true =>
    rw [if_pos rfl] at q8 ⊢
    refine thn (he _ _ _ _ _ _ s8 σ7 H8 _ I8 q8) fun u9 s9 ⟨y,H9,I9,r9,m',hm,w9⟩ => ?_
    obtain ⟨J9,t9,r9',d9,o9⟩:=fin I9
    refine wpAny_list_append_plain (items:=List.toArray its) ⟨nn,o9⟩ (fun h10 hl10 hs10 => ?_) (by rw [List.size_toArray,← rv4.length]; exact hz)
    have I10 : Inv (zbi X (own ++ caps.map (·.1)) scope cl G.objs.size s2 H2 fp) [] σ7 H9 { s9 with heap:=h10 }:=J9.turned (t':=s9.toks) (it:=s2.heap.objs.size) (fun b o hb e => (hs10.2 b hb).trans e) d9 hDC (.inr (Nat.le_refl _)) (fun x c' e => Nat.ne_of_lt (cLt x c' e)) fun p hp => absurd hp (by simp [zbi])
    refine ⟨m',hm,i + 1,σ7,ys ++ [y],its ++ [u9],H9,I10,T.keep _ _ _ t9 fun b hb o e => (hs10.2 b (Nat.ne_of_lt (fpo b hb))).trans e,r9',d9,?_,Vals.append rv4 (.cons r9 .nil),w9⟩
    simpa using hl10
 exact codeAny_compStart_list (loop _ rfl) (T.self X.A 0 _ _ _ (T.keep _ _ _ st2 fun b hb o e => old b o e) (loop _ rfl))
theorem zch {X : Cx} {elt tg iter : Expr} {ifs : List Expr} {scope : Scope} {pos : Pos} {own : List Str} {caps : List (Str × Nat)} {wi : TI} {g : TG} {tc : TT} {te : TE}
  (hcalm : X.calm = true) (hfree : ∀ x ∈ scope.names,x.2 = .free → x.1 ∈ caps.map (·.1)) (hcaps : ∀ p ∈ caps,scope.names.lookup p.1 = some .free ∧ X.N[p.2]? = some p.1 ∧ X.env.scope.names.lookup p.1 = some .cell) (hcell : ∀ x ∈ scope.names,x.2 ≠ .cell) (hkind : scope.kind = .function) (hnames : ∀ x ∈ scope.names,x.2 = .local → scope.names.lookup x.1 = some .local)
  (hi : PI X tg iter wi) (hg : ∀ cl C s2 H2 fp,PG (zbi X (own ++ caps.map (·.1)) scope cl C s2 H2 fp) tg g) (hc : ∀ cl C s2 H2 fp,PF (zbi X (own ++ caps.map (·.1)) scope cl C s2 H2 fp) ifs tc) (he : ∀ cl C s2 H2 fp,PE (zbi X (own ++ caps.map (·.1)) scope cl C s2 H2 fp) elt te)
  (hs : ∀ x,foldedSetIterable iter X.env x = pure x:=by intro _; rfl) :
  PE X (.ListComp elt [⟨tg,iter,ifs,0⟩] scope pos) (zie own.length caps wi g tc te):=by
 intro pins s σ H Q I h
 rw [eval_ListComp]
 exact zeg (use:=none) (Q':=EP X pins σ Q) hcalm hfree hcaps hcell hkind hnames hi hg hc he hs I h fun s5 C D H4 ys ⟨m5,hn5⟩ _ _ _ _ _ inv q => ⟨m5,hn5,fun h6 hs6 => ⟨.ref D,_,inv h6 hs6,rfl,q⟩⟩
theorem zgw {X : Cx} {elt tg iter : Expr} {ifs : List Expr} {scope : Scope} {pos spos py : Pos} {own : List Str} {caps : List (Str × Nat)} {wi : TI} {g : TG} {tc : TT} {te : TE} {i : Nat} {y : Str} (hN : X.N.Nodup) (hy : X.N[i]? = some y) (hx : Loc X.env.scope y)
  (hcalm : X.calm = true) (hfree : ∀ x ∈ scope.names,x.2 = .free → x.1 ∈ caps.map (·.1)) (hcaps : ∀ p ∈ caps,scope.names.lookup p.1 = some .free ∧ X.N[p.2]? = some p.1 ∧ X.env.scope.names.lookup p.1 = some .cell) (hcell : ∀ x ∈ scope.names,x.2 ≠ .cell) (hkind : scope.kind = .function) (hnames : ∀ x ∈ scope.names,x.2 = .local → scope.names.lookup x.1 = some .local)
  (hi : PI X tg iter wi) (hg : ∀ cl C s2 H2 fp,PG (zbi X (own ++ caps.map (·.1)) scope cl C s2 H2 fp) tg g) (hc : ∀ cl C s2 H2 fp,PF (zbi X (own ++ caps.map (·.1)) scope cl C s2 H2 fp) ifs tc) (he : ∀ cl C s2 H2 fp,PE (zbi X (own ++ caps.map (·.1)) scope cl C s2 H2 fp) elt te)
  (hsw : swapsWith (.ListComp elt [⟨tg,iter,ifs,0⟩] scope pos) (some (.Name y py)) spos.line X.env = pure true:=by rfl) (hs : ∀ x,foldedSetIterable iter X.env x = pure x:=by intro _; rfl) (hf : X.fn y = true ∨ X.env.scope.names.lookup y = some .local:=by first | exact .inl rfl | exact .inr rfl | assumption) :
  PS X (.Assign [.Name y py] (.ListComp elt [⟨tg,iter,ifs,0⟩] scope pos) spos) (tAsg (zie own.length caps wi g tc te) (zbF i)):=by
 intro pins s σ H D I h
 rw [exec_Assign_Name_used _ _ _ _ hsw]
 refine wpAny_bind (wpAny_standAt (wpAny_bind (show wpAny _ X.A (comprehension _ scope X.env _ (newList []) false (eval iter X.env) (some (assign (.Name y py) X.env)) >>= fun _ => _) _ _ s from wpAny_bind (wpAny_mono (zeg (use:=some (assign (.Name y py) X.env)) (Q':=fun _ s' => SP X pins D .next s') hcalm hfree hcaps hcell hkind hnames hi hg hc he hs I h fun s5 C Dl H4 ys ⟨m5,hn5⟩ nL nc le0 hC np inv q => ?_) (fun _ s' z => wpAny_pure (wpAny_pure z)) fun _ _ z => z))))
 refine (show wpAny _ X.A (assign (.Name y py) X.env (.ref Dl)) _ X.xe s5 from wpAny_assign_Name (zfk (v:=.ref Dl) (inv s5.heap ⟨rfl,fun _ _ => rfl⟩) hN hy hx rfl (fun s6 I6 ⟨a,sb,ha⟩ => ?_) hf))
 have nCa : C ≠ a:=by
  rcases ha with rfl | ha
  ·exact nL
  ·exact (nc y a ha).symm
 exact ⟨m5,hn5.sameBut sb nCa,fun h7 sb7 => ⟨_,_,I6.turned (t':=s6.toks) (it:=C) (fun b o hb e => (sb7.2 b hb).trans e) hC nL (.inr le0) nc np,q⟩⟩
end L2
namespace Fb
open PySem L2
noncomputable def top (i : Nat) : Stmt:=PySem.Challenge.pw_fairbook_k22_whole_best_first.main.body.getD i (.Pass ⟨0,0,0,0⟩)
noncomputable abbrev zbH : Stmt:=top 11
noncomputable abbrev zb3 : Stmt:=top 12
noncomputable abbrev zbu : Stmt:=top 13
noncomputable abbrev zbI : Stmt:=top 14
noncomputable abbrev zbt : Stmt:=top 15
noncomputable abbrev zcg : Stmt:=zaW (top 16) 0
noncomputable abbrev zgW : Stmt:=top 17
noncomputable abbrev zdg : Stmt:=zaW (top 18) 0
noncomputable abbrev zgY : Stmt:=zaW (top 18) 1
noncomputable abbrev zdh : Stmt:=zaW (top 20) 0
noncomputable abbrev sShow : Stmt:=zaW (top 20) 1
noncomputable abbrev zgX : Stmt:=zaW (top 20) 2
noncomputable abbrev sFind : Stmt:=top 21
noncomputable abbrev sSum : Stmt:=top 22
noncomputable abbrev zdw : Stmt:=zaW (top 23) 0
noncomputable abbrev zes : Stmt:=zaW (top 23) 1
noncomputable abbrev ziD : Stmt:=zaW (top 23) 2
noncomputable abbrev sLast : Stmt:=zaW (top 23) 5
noncomputable abbrev zcW : Stmt:=zaW (top 23) 7
noncomputable abbrev zd9 : Stmt:=zaW (top 23) 8
noncomputable abbrev zcX : Stmt:=zaW (top 23) 9
noncomputable abbrev zez : Stmt:=zaW (top 23) 10
noncomputable abbrev ziC : Stmt:=zaW (top 23) 11
noncomputable abbrev sPut : Stmt:=zaW (top 23) 12
noncomputable abbrev zer : Stmt:=zaW (top 23) 13
noncomputable abbrev zet : Stmt:=zaW (top 23) 14
noncomputable abbrev zgn : Stmt:=zaW (top 23) 15
noncomputable abbrev ziB : Stmt:=top 26
noncomputable abbrev zgt : Stmt:=top 27
noncomputable abbrev zgs : Stmt:=top 28
noncomputable abbrev sMay : Stmt:=top 29
noncomputable abbrev ziE : Stmt:=top 30
noncomputable abbrev zeu : Stmt:=top 31
noncomputable abbrev sNext : Stmt:=top 32
noncomputable abbrev sMeet : Stmt:=top 33
noncomputable abbrev zgo : Stmt:=top 34
noncomputable abbrev sCall : Stmt:=top 36
noncomputable abbrev zcY : Stmt:=top 37
noncomputable abbrev zep : Stmt:=top 38
noncomputable abbrev zb2 : Stmt:=top 39
noncomputable abbrev zgq : Stmt:=top 40
noncomputable abbrev ziA : Stmt:=top 41
noncomputable abbrev zeq : Stmt:=top 42
noncomputable abbrev zgp : Stmt:=top 43
noncomputable abbrev zey : Stmt:=top 45
noncomputable abbrev zgr : Stmt:=top 46
noncomputable abbrev zdu : Stmt:=top 47
noncomputable abbrev zex : Stmt:=top 48
noncomputable abbrev zdv : Stmt:=top 49
noncomputable abbrev zev : Stmt:=top 50
noncomputable abbrev zdt : Stmt:=top 51
noncomputable abbrev zds : Stmt:=top 52
noncomputable abbrev zew : Stmt:=top 53
noncomputable abbrev sLaw : Stmt:=top 54
end Fb
namespace Fb
open PySem L2
structure Ent where
 ea : Addr
 oa : Addr
 ra : Addr
 num : Int
 owner : Int
 buy : Bool
 price : Int
 many : Int
 shows : Option Int
 left : Int
 shown : Int
 place : Int
structure Bk where
 buys : List Ent
 sells : List Ent
 came : Int
 places : Int
 calling : Bool
 last : Option Int
 vol : Int
noncomputable def Ent.k1 (e : Ent) : Int:=if e.buy = true then -e.price else e.price
noncomputable def klt (a b c d : Int) : Prop:=a < c ∨ (a = c ∧ b < d)
noncomputable instance (a b c d : Int) : Decidable (klt a b c d):=by unfold klt; exact inferInstance
theorem klt_lex (a b c d : Int) : HT.lexLt [a,b] [c,d] = decide (klt a b c d):=by
 rw [HT.lexLt_cons,HT.lexLt_cons,HT.lexLt_nil_nil,Bool.eq_iff_iff,decide_eq_true_eq]
 show _ ↔ (a < c ∨ (a = c ∧ b < d))
 by_cases h : a = c
 ·rw [if_pos h]
  by_cases h2 : b = d
  ·rw [if_pos h2]
   exact ⟨fun z => absurd z Bool.false_ne_true,fun z => by omega⟩
  ·rw [if_neg h2,decide_eq_true_eq]
   omega
 ·rw [if_neg h,decide_eq_true_eq]
  omega
noncomputable def Ent.lt (x y : Ent) : Prop:=klt x.k1 x.place y.k1 y.place
noncomputable instance (x y : Ent) : Decidable (x.lt y):=by unfold Ent.lt; exact inferInstance
theorem Ent.lt_trans {x y z : Ent} (h : x.lt y) (g : y.lt z) : x.lt z:=by
 unfold Ent.lt klt at *
 omega
noncomputable def zbp (e : Ent) : List Ent → Nat
 | [] => 0
 | x :: r => if x.lt e then zbp e r + 1 else 0
noncomputable def insE (e : Ent) : List Ent → List Ent
 | [] => [e]
 | x :: r => if x.lt e then x :: insE e r else e :: x :: r
theorem zdi (e : Ent) : ∀ xs : List Ent,zbp e xs ≤ xs.length
 | [] => Nat.le_refl _
 | x :: r => by
  unfold zbp
  split
  ·exact Nat.succ_le_succ (zdi e r)
  ·exact Nat.zero_le _
theorem zjw (e : Ent) : ∀ xs : List Ent,insE e xs = xs.take (zbp e xs) ++ e :: xs.drop (zbp e xs)
 | [] => rfl
 | x :: r => by
  unfold insE zbp
  split
  ·rw [List.take_succ_cons,List.drop_succ_cons,List.cons_append,zjw e r]
  ·rfl
noncomputable abbrev zbA (xs : List Ent) : Prop:=xs.Pairwise Ent.lt
theorem zc0 (e : Ent) : ∀ {xs : List Ent},zbA xs → ∀ (i : Nat) (x : Ent),xs[i]? = some x → (x.lt e ↔ i < zbp e xs)
 | [],_,i,x,h => by simp at h
 | y :: r,hs,i,x,h => by
  obtain ⟨h1,h2⟩:=List.pairwise_cons.mp hs
  unfold zbp
  cases i with
  | zero =>
   have e1 : y = x:=by simpa using h
   subst e1
   split
   ·rename_i hh
    exact ⟨fun _ => Nat.succ_pos _,fun _ => hh⟩
   ·rename_i hh
    exact ⟨fun z => absurd z hh,fun z => absurd z (Nat.lt_irrefl _)⟩
  | succ i =>
   have e1 : r[i]? = some x:=by simpa using h
   split
   ·rw [zc0 e h2 i x e1]
    exact ⟨fun z => Nat.succ_lt_succ z,fun z => Nat.lt_of_succ_lt_succ z⟩
   ·rename_i hh
    exact ⟨fun z => absurd (Ent.lt_trans (h1 x (List.mem_of_getElem? e1)) z) hh,fun z => absurd z (Nat.not_lt_zero _)⟩
theorem zcH {e x : Ent} : ∀ {xs : List Ent},x ∈ insE e xs ↔ x = e ∨ x ∈ xs
 | [] => by simp [insE]
 | y :: r => by
  unfold insE
  split
  ·rw [List.mem_cons,zcH (xs:=r),List.mem_cons]
   constructor
   ·rintro (h | h | h)
    ·exact .inr (.inl h)
    ·exact .inl h
    ·exact .inr (.inr h)
   ·rintro (h | h | h)
    ·exact .inr (.inl h)
    ·exact .inl h
    ·exact .inr (.inr h)
  ·rw [List.mem_cons]
theorem zdO {e : Ent} : ∀ {xs : List Ent},zbA xs → (∀ x ∈ xs,x.place < e.place) → zbA (insE e xs)
 | [],_,_ => by
  unfold insE
  exact List.pairwise_cons.mpr ⟨fun _ h => absurd h (by simp),List.Pairwise.nil⟩
 | y :: r,hs,hp => by
  obtain ⟨h1,h2⟩:=List.pairwise_cons.mp hs
  unfold insE
  split
  ·rename_i hh
   refine List.pairwise_cons.mpr ⟨fun z hz => ?_,zdO h2 fun x hx => hp x (List.mem_cons_of_mem _ hx)⟩
   rcases zcH.mp hz with rfl | hz
   ·exact hh
   ·exact h1 z hz
  ·rename_i hh
   have hpy:=hp y List.mem_cons_self
   have ey : e.lt y:=by
    unfold Ent.lt klt at hh ⊢
    omega
   refine List.pairwise_cons.mpr ⟨fun z hz => ?_,hs⟩
   rcases List.mem_cons.mp hz with rfl | hz
   ·exact ey
   ·exact Ent.lt_trans ey (h1 z hz)
theorem zdP (e : Ent) : ∀ xs : List Ent,(insE e xs).Perm (e :: xs)
 | [] => List.Perm.refl _
 | y :: r => by
  unfold insE
  split
  ·exact (List.Perm.cons y (zdP e r)).trans (List.Perm.swap e y r)
  ·exact List.Perm.refl _
noncomputable def zaS (shows : Option Int) (left : Int) : Int:=match shows with
 | none => left
 | some k => if left < k then left else k
noncomputable def zav (b : Bool) : Str:=if b = true then "buy" else "sell"
end Fb
namespace Fb
open PySem L2
section
variable {X : Cx} {x : Str} {pos : Pos}
theorem zct {a : Addr} (hm : X.mg x = some (.ref a)) (hg : Gl X x:=by rfl) (hd : (x == ("__debug__" : Str)) = false:=by decide) : PE X (.Name x pos) (tC (.ref a)):=ziQ (v:=.ref a) hg hm rfl hd
theorem zeK {i : Int} {t : Tok} (hm : X.mg x = some (.int i t)) (hg : Gl X x:=by rfl) (hd : (x == ("__debug__" : Str)) = false:=by decide) : PE X (.Name x pos) (tC (.int i)):=ziQ (v:=.int i) hg hm ⟨t,rfl⟩ hd
end
structure XTxt (K : W.Frag) (mg : Str → Option Value) (bo nt nn be : Addr) : Prop where
 mgBO : mg "BadOrder" = some (.ref bo)
 mgNT : mg "NotThere" = some (.ref nt)
 mgNN : mg "NotNow" = some (.ref nn)
 mgBE : mg "BookError" = some (.ref be)
 xBO : XCl K bo
 xNT : XCl K nt
 xNN : XCl K nn
 xBE : XCl K be
structure OTxt (K : W.Frag) (mg : Str → Option Value) (sides ways : Addr) : Prop where
 mgS : mg "SIDES" = some (.ref sides)
 mgW : mg "WAYS" = some (.ref ways)
 sqS : ∀ H,SqT K H sides [.str "buy",.str "sell"]
 sqW : ∀ H,SqT K H ways [.str "rest",.str "now",.str "whole"]
 gp : ∃ t,mg "GREATEST_PRICE" = some (.int 1000000000 t)
 mw : ∃ t,mg "MOST_WANTED" = some (.int 10000 t)
noncomputable def oV : Option Int → V
 | none => .non
 | some i => .int i
noncomputable def zc6 (x : Str) : Bool:=inV (.str x) [.str "buy",.str "sell"]
noncomputable def zh3 (x : Str) : Bool:=inV (.str x) [.str "rest",.str "now",.str "whole"]
section
variable {P : Program} {w : World} {K : W.Frag} {mg : Str → Option Value} {base : Heap} {bo nt nn be sides ways : Addr}
theorem fsc {N P : List Str} {sc : Scope} (h1 : sc.kind = .function:=by rfl) (h2 : sc.isCoroutine = false:=by rfl) (h3 : sc.isGenerator = false:=by rfl) (h4 : N.Nodup:=by decide +kernel) (h5 : N.take P.length = P:=by rfl)
  (h6 : ∀ x ∈ P,sc.names.lookup x = some .local ∨ sc.names.lookup x = some .cell:=by decide +kernel) (h7 : ∀ y ∈ sc.names,y.2 ≠ .free:=by decide +kernel) : FnScope N P sc:=⟨h1,h2,h3,h4,h5,h6,h7⟩
theorem scCS : FnScope ["side"] ["side"] (zak zbH):=fsc
noncomputable def zgl (bo : Addr) : Sp:=fun vs H Q E => ∃ x : Str,vs = [.str x] ∧ (zc6 x = true → Q .non H) ∧ (zc6 x = false → (reprText x).length ≤ 2000 ∧ ∀ e,E (.ref bo) e H)
theorem zeO {f : Addr} {fd : FuncData} (F : Fun K "check_side" "check_side" zbH f fd) (T : XTxt K mg bo nt nn be) (O : OTxt K mg sides ways) : FnOk P w K mg base (CXF P w) 1 f fd ["side"] (zgl bo):=by
 refine F.okX scCS (fun vs H Q E h => ?_) (fun cdv A outer s H vs Q E hr h => ?_)
 ·obtain ⟨x,rfl,_⟩:=h
  rfl
 ·obtain ⟨x,rfl,h1,h2⟩:=h
  refine ⟨_,zaf (zaJ (zao zb6 (pv 0) (zct O.mgS) (by with_unfolding_all rfl))
   (zaf (zbb rfl rfl T.mgBO T.xBO (zb0 fun _ _ _ h => h) (zaa (zb4 (.cons zam (.cons (ziS (pv 0)) .nil)) (by decide)) zag))) zau),?_⟩
  refine (rX rfl ⟨sides,rX rfl ⟨.inr (O.sqS _),rfl,rfl,rX rfl ?_⟩⟩)
  show if (!zc6 x) = true then _ else _
  cases e : zc6 x with
  | true => exact iteF (h1 e)
  | false =>
   obtain ⟨h2,h3⟩:=h2 e
   exact iteT (rX rfl ⟨by decide +kernel,rX rfl ⟨x,rfl,h2,rX rfl ⟨h2,fun y hy => ⟨by rw [sizeLine_eq]; show 1 ≤ 16777216; decide,h3⟩⟩⟩⟩)
theorem scCW : FnScope ["way"] ["way"] (zak zb3):=fsc
noncomputable def zhE (bo : Addr) : Sp:=fun vs H Q E => ∃ x : Str,vs = [.str x] ∧ (zh3 x = true → Q .non H) ∧ (zh3 x = false → (reprText x).length ≤ 2000 ∧ ∀ e,E (.ref bo) e H)
theorem zfx {f : Addr} {fd : FuncData} (F : Fun K "check_way" "check_way" zb3 f fd) (T : XTxt K mg bo nt nn be) (O : OTxt K mg sides ways) : FnOk P w K mg base (CXF P w) 1 f fd ["way"] (zhE bo):=by
 refine F.okX scCW (fun vs H Q E h => ?_) (fun cdv A outer s H vs Q E hr h => ?_)
 ·obtain ⟨x,rfl,_⟩:=h
  rfl
 ·obtain ⟨x,rfl,h1,h2⟩:=h
  refine ⟨_,zaf (zaJ (zao zb6 (pv 0) (zct O.mgW) (by with_unfolding_all rfl))
   (zaf (zbb rfl rfl T.mgBO T.xBO (zb0 fun _ _ _ h => h) (zaa (zb4 (.cons zam (.cons (ziS (pv 0)) .nil)) (by decide)) zag))) zau),?_⟩
  refine (rX rfl ⟨ways,rX rfl ⟨.inr (O.sqW _),rfl,rfl,rX rfl ?_⟩⟩)
  show if (!zh3 x) = true then _ else _
  cases e : zh3 x with
  | true => exact iteF (h1 e)
  | false =>
   obtain ⟨h2,h3⟩:=h2 e
   exact iteT (rX rfl ⟨by decide +kernel,rX rfl ⟨x,rfl,h2,rX rfl ⟨h2,fun y hy => ⟨by rw [sizeLine_eq]; show 1 ≤ 16777216; decide,h3⟩⟩⟩⟩)
noncomputable def za4 (p : Option Int) (way : Str) : Bool:=match p with
 | none => !decide (way = "rest")
 | some p => decide (1 ≤ p) && decide (p ≤ 1000000000)
theorem scCP : FnScope ["price","way"] ["price","way"] (zak zbu):=fsc
noncomputable def zfo (bo : Addr) : Sp:=fun vs H Q E => ∃ (p : Option Int) (way : Str),vs = [oV p,.str way] ∧ (∀ i,p = some i → i.natAbs < 10 ^ 30) ∧ (za4 p way = true → Q .non H) ∧ (za4 p way = false → ∀ e,E (.ref bo) e H)
theorem zaL : ([V.str Str.empty] : List V).length ≤ sizeLine:=by rw [sizeLine_eq]; decide
theorem zdW {f : Addr} {fd : FuncData} (F : Fun K "check_price" "check_price" zbu f fd) (T : XTxt K mg bo nt nn be) (O : OTxt K mg sides ways) : FnOk P w K mg base (CXF P w) 1 f fd ["price","way"] (zfo bo):=by
 refine F.okX scCP (fun vs H Q E h => ?_) (fun cdv A outer s H vs Q E hr h => ?_)
 ·obtain ⟨p,way,rfl,_⟩:=h
  rfl
 ·obtain ⟨p,way,rfl,hb,h1,h2⟩:=h
  obtain ⟨tg,mgp⟩:=O.gp
  refine ⟨_,zac (zaJ (zbf (zbB (zcE (pv 0))) (za2 (zao za3 (pv 1) zam (zat _)))).pt
    (zaf (zbb rfl rfl T.mgBO T.xBO (zb0 fun _ _ _ h => h) (zaa zam zag))) zau)
   (zaf (zaJ (zbf (zbB (zdD (pv 0))) (za2 (zgv (zao op_lt (pv 0) zah (zat _)) (zdy (zao ziX (pv 0) (zeK mgp) (zat _)))).pt)).pt
    (zaf (zbb rfl rfl T.mgBO T.xBO (zb0 fun _ _ _ h => h) (zaa (zb4 (.cons zam (.cons (zbQ (zeK mgp)) (.cons zam (.cons (zbQ (pv 0)) .nil)))) (by decide)) zag))) zau)),?_⟩
  cases p with
  | none =>
   refine (rX rfl (rX rfl (iteT (rX rfl ⟨rfl,rX rfl ?_⟩))))
   refine ite2 (fun e => ?_) (fun e => ?_)
   ·have e' : za4 none way = false:=by
     have:=of_decide_eq_true e
     simp only [V.str.injEq] at this
     simp [za4,this]
    exact ⟨zaL,h2 e'⟩
   ·have e' : za4 none way = true:=by
     have : ¬ way = "rest":=fun z => e (by rw [z]; exact decide_eq_true rfl)
     simp [za4,this]
    exact (rX rfl (rX rfl (iteF (iteF (h1 e')))))
  | some i =>
   have hi:=hb i rfl
   refine (rX rfl (rX rfl (iteF (iteF ?_))))
   refine (rX rfl (rX rfl (iteT (rX rfl (r2 rfl rfl (rX rfl ?_))))))
   have bad : za4 (some i) way = false → _:=fun e => h2 e
   refine ite2 (fun e => iteT ?_) (fun e => (rX rfl (r2 rfl rfl (rX rfl (ite2 (fun e2 => ?_) (fun e2 => ?_))))))
   ·have e':=of_decide_eq_true e
    have q : za4 (some i) way = false:=by simp [za4]; omega
    exact (rX rfl ⟨by decide +kernel,rX rfl ⟨by decide,fun y1 hy1 => (rX rfl ⟨hy1,rX rfl ⟨by decide +kernel,rX rfl (rX rfl ⟨hi,fun y2 hy2 => (rX rfl ⟨hy2,fun y hy => ⟨zaL,h2 q⟩⟩)⟩)⟩⟩)⟩⟩)
   ·have e':=of_decide_eq_true e2
    have q : za4 (some i) way = false:=by simp [za4]; omega
    exact (rX rfl ⟨by decide +kernel,rX rfl ⟨by decide,fun y1 hy1 => (rX rfl ⟨hy1,rX rfl ⟨by decide +kernel,rX rfl (rX rfl ⟨hi,fun y2 hy2 => (rX rfl ⟨hy2,fun y hy => ⟨zaL,h2 q⟩⟩)⟩)⟩⟩)⟩⟩)
   ·have e1 : ¬ i < 1:=fun z => e (decide_eq_true z)
    have e3 : ¬ (1000000000 : Int) < i:=fun z => e2 (decide_eq_true z)
    exact h1 (by simp [za4]; omega)
noncomputable def zbo (m : Int) : Bool:=decide (1 ≤ m) && decide (m ≤ 10000)
theorem scCM : FnScope ["many"] ["many"] (zak zbI):=fsc
noncomputable def zdq (bo : Addr) : Sp:=fun vs H Q E => ∃ m : Int,vs = [.int m] ∧ m.natAbs < 10 ^ 30 ∧ (zbo m = true → Q .non H) ∧ (zbo m = false → ∀ e,E (.ref bo) e H)
theorem zcG {f : Addr} {fd : FuncData} (F : Fun K "check_many" "check_many" zbI f fd) (T : XTxt K mg bo nt nn be) (O : OTxt K mg sides ways) : FnOk P w K mg base (CXF P w) 1 f fd ["many"] (zdq bo):=by
 refine F.okX scCM (fun vs H Q E h => ?_) (fun cdv A outer s H vs Q E hr h => ?_)
 ·obtain ⟨m,rfl,_⟩:=h
  rfl
 ·obtain ⟨m,rfl,hi,h1,h2⟩:=h
  obtain ⟨tg,mgp⟩:=O.mw
  refine ⟨_,zaf (zaJ (zgv (zao op_lt (pv 0) zah (zat _)) (zdy (zao ziX (pv 0) (zeK mgp) (zat _)))).pt
    (zaf (zbb rfl rfl T.mgBO T.xBO (zb0 fun _ _ _ h => h) (zaa (zb4 (.cons zam (.cons (zbQ (zeK mgp)) (.cons zam (.cons (zbQ (pv 0)) .nil)))) (by decide)) zag))) zau),?_⟩
  refine (rX rfl (r2 rfl rfl (rX rfl ?_)))
  refine ite2 (fun e => iteT ?_) (fun e => (rX rfl (r2 rfl rfl (rX rfl (ite2 (fun e2 => ?_) (fun e2 => ?_))))))
  ·have e':=of_decide_eq_true e
   have q : zbo m = false:=by simp [zbo]; omega
   exact (rX rfl ⟨by decide +kernel,rX rfl ⟨by decide,fun y1 hy1 => (rX rfl ⟨hy1,rX rfl ⟨by decide +kernel,rX rfl (rX rfl ⟨hi,fun y2 hy2 => (rX rfl ⟨hy2,fun y hy => ⟨zaL,h2 q⟩⟩)⟩)⟩⟩)⟩⟩)
  ·have e':=of_decide_eq_true e2
   have q : zbo m = false:=by simp [zbo]; omega
   exact (rX rfl ⟨by decide +kernel,rX rfl ⟨by decide,fun y1 hy1 => (rX rfl ⟨hy1,rX rfl ⟨by decide +kernel,rX rfl (rX rfl ⟨hi,fun y2 hy2 => (rX rfl ⟨hy2,fun y hy => ⟨zaL,h2 q⟩⟩)⟩)⟩⟩)⟩⟩)
  ·have e1 : ¬ m < 1:=fun z => e (decide_eq_true z)
   have e3 : ¬ (10000 : Int) < m:=fun z => e2 (decide_eq_true z)
   exact h1 (by simp [zbo]; omega)
noncomputable def zbM (p : Option Int) (m : Int) (way : Str) : Bool:=match p with
 | none => true
 | some p => decide (way = "rest") && (decide (1 ≤ p) && decide (p ≤ m))
theorem scCh : FnScope ["shows","many","way"] ["shows","many","way"] (zak zbt):=fsc
noncomputable def zfn (bo : Addr) : Sp:=fun vs H Q E => ∃ (p : Option Int) (m : Int) (way : Str),vs = [oV p,.int m,.str way] ∧ (∀ i,p = some i → i.natAbs < 10 ^ 30) ∧ m.natAbs < 10 ^ 30 ∧ way.length ≤ 2000 ∧ (zbM p m way = true → Q .non H) ∧ (zbM p m way = false → ∀ e,E (.ref bo) e H)
theorem zdV {f : Addr} {fd : FuncData} (F : Fun K "check_shows" "check_shows" zbt f fd) (T : XTxt K mg bo nt nn be) : FnOk P w K mg base (CXF P w) 1 f fd ["shows","many","way"] (zfn bo):=by
 refine F.okX scCh (fun vs H Q E h => ?_) (fun cdv A outer s H vs Q E hr h => ?_)
 ·obtain ⟨p,m,way,rfl,_⟩:=h
  rfl
 ·obtain ⟨p,m,way,rfl,hb,hm,hw,h1,h2⟩:=h
  refine ⟨_,zac (zaJ (zbf (zbB (zdD (pv 0))) (za2 (zao zfw (pv 2) zam (zat _)))).pt
    (zaf (zbb rfl rfl T.mgBO T.xBO (zb0 fun _ _ _ h => h) (zaa (zb4 (.cons zam (.cons (ziR (pv 2)) (.cons zam (.cons (zbQ (pv 0)) .nil)))) (by decide)) zag))) zau)
   (zaf (zaJ (zbf (zbB (zdD (pv 0))) (za2 (zgv (zao op_lt (pv 0) zah (zat _)) (zdy (zao ziX (pv 0) (pv 1) (zat _)))).pt)).pt
    (zaf (zbb rfl rfl T.mgBO T.xBO (zb0 fun _ _ _ h => h) (zaa (zb4 (.cons zam (.cons (zbQ (pv 1)) (.cons zam (.cons (zbQ (pv 1)) (.cons zam (.cons (zbQ (pv 0)) .nil)))))) (by decide)) zag))) zau)),?_⟩
  cases p with
  | none => exact ⟨_,rfl,_,rfl,iteF (iteF ⟨_,rfl,_,rfl,iteF (iteF (h1 rfl))⟩)⟩
  | some i =>
   have hi:=hb i rfl
   refine (rX rfl (rX rfl (iteT (rX rfl ⟨rfl,rX rfl ?_⟩))))
   by_cases hr : way = "rest"
   ·subst hr
    refine iteNS rfl ?_
    refine (rX rfl (rX rfl (iteT (rX rfl (r2 rfl rfl (rX rfl ?_))))))
    have key : ∀ Z : Prop,(zbM (some i) m "rest" = false → Z) → (¬ (1 ≤ i ∧ i ≤ m) → Z):=fun Z k h => k (by simp [zbM]; omega)
    refine ite2 (fun e => iteT ?_) (fun e => (rX rfl (rX rfl (r2 rfl rfl (rX rfl (ite2 (fun e2 => ?_) (fun e2 => ?_)))))))
    ·have e':=of_decide_eq_true e
     exact (rX rfl ⟨by decide +kernel,rX rfl (rX rfl ⟨hm,fun y1 hy1 => (rX rfl ⟨hy1,rX rfl ⟨by decide +kernel,rX rfl (rX rfl ⟨hm,fun y2 hy2 => (rX rfl ⟨hy2,rX rfl ⟨by decide +kernel,rX rfl (rX rfl ⟨hi,fun y3 hy3 => (rX rfl ⟨hy3,fun y hy => ⟨zaL,key _ h2 (by omega)⟩⟩)⟩)⟩⟩)⟩)⟩⟩)⟩)⟩)
    ·have e':=of_decide_eq_true e2
     exact (rX rfl ⟨by decide +kernel,rX rfl (rX rfl ⟨hm,fun y1 hy1 => (rX rfl ⟨hy1,rX rfl ⟨by decide +kernel,rX rfl (rX rfl ⟨hm,fun y2 hy2 => (rX rfl ⟨hy2,rX rfl ⟨by decide +kernel,rX rfl (rX rfl ⟨hi,fun y3 hy3 => (rX rfl ⟨hy3,fun y hy => ⟨zaL,key _ h2 (by omega)⟩⟩)⟩)⟩⟩)⟩)⟩⟩)⟩)⟩)
    ·have e1 : ¬ i < 1:=fun z => e (decide_eq_true z)
     have e3 : ¬ m < i:=fun z => e2 (decide_eq_true z)
     exact h1 (by simp [zbM]; omega)
   ·have q : zbM (some i) m way = false:=by simp [zbM,hr]
    have d : (!decide (V.str way = V.str ("rest" : Str))) = true:=by simp [hr]
    rw [d]
    exact iteT (rX rfl ⟨by decide +kernel,rX rfl (rX rfl ⟨hw,rX rfl ⟨hw,rX rfl ⟨by decide +kernel,rX rfl (rX rfl ⟨hi,fun y2 hy2 => (rX rfl ⟨hy2,fun y hy => ⟨zaL,h2 q⟩⟩)⟩)⟩⟩⟩)⟩)
end
end Fb
namespace Fb
open PySem L2
noncomputable abbrev ordF (owner : Int) (side : Str) (price : Option Int) (many : Int) (shows : Option Int) (way : Str) (num : V) : List (Str × V) :=
 [("owner",.int owner),("side",.str side),("price",oV price),("many",.int many),("shows",oV shows),("way",.str way),("number",num)]
noncomputable abbrev numF (c : Int) : List (Str × V):=[("came",.int c)]
noncomputable abbrev entF (oa : Addr) (left shown : Int) (rk : V) : List (Str × V):=[("order",.ref oa),("remaining",.int left),("showing",.int shown),("rank",rk)]
noncomputable abbrev zd2 (nb ds de : Addr) (places : Int) (calling : Bool) (last : Option Int) (vol : Int) : List (Str × V) :=
 [("numbering",.ref nb),("sides",.ref ds),("entries",.ref de),("places",.int places),("calling",.bl calling),("last_price",oV last),("traded",.int vol)]
structure Cs where
 O : Addr
 N : Addr
 E : Addr
 B : Addr
structure CTxt (K : W.Frag) (mg : Str → Option Value) (c : Cs) : Prop where
 clO : Cls K c.O
 clN : Cls K c.N
 clE : Cls K c.E
 clB : Cls K c.B
 mgO : mg "Order" = some (.ref c.O)
 mgN : mg "Numbering" = some (.ref c.N)
 mgE : mg "Entry" = some (.ref c.E)
 mgB : mg "Book" = some (.ref c.B)
 o1 : zay K c.O "owner"
 o2 : zay K c.O "side"
 o3 : zay K c.O "price"
 o4 : zay K c.O "many"
 o5 : zay K c.O "shows"
 o6 : zay K c.O "way"
 o7 : zay K c.O "number"
 n1 : zay K c.N "came"
 e1 : zay K c.E "order"
 e2 : zay K c.E "remaining"
 e3 : zay K c.E "showing"
 e4 : zay K c.E "rank"
 b1 : zay K c.B "numbering"
 b2 : zay K c.B "sides"
 b3 : zay K c.B "entries"
 b4 : zay K c.B "places"
 b5 : zay K c.B "calling"
 b6 : zay K c.B "last_price"
 b7 : zay K c.B "traded"
 min : mg "min" = none
 len : mg "len" = none
 list : mg "list" = none
theorem zhe (k : Str) {C D dx dy : Addr} {fs gs : List (Str × V)} (h : fs.lookup k ≠ gs.lookup k) : HO.ins C dx fs ≠ HO.ins D dy gs:=fun z => by
 cases z
 exact h rfl
noncomputable def zbk (side : Str) (price : Option Int) (many : Int) (shows : Option Int) (way : Str) : Bool:=zc6 side && (zh3 way && (za4 price way && (zbo many && zbM shows many way)))
structure Small (side : Str) (price : Option Int) (many : Int) (shows : Option Int) (way : Str) : Prop where
 s : (reprText side).length ≤ 2000
 w : (reprText way).length ≤ 2000
 w2 : way.length ≤ 2000
 p : ∀ i,price = some i → i.natAbs < 10 ^ 30
 m : many.natAbs < 10 ^ 30
 h : ∀ i,shows = some i → i.natAbs < 10 ^ 30
section
variable {P : Program} {w : World} {K : W.Frag} {mg : Str → Option Value} {base : Heap} {bo nt nn be sides ways : Addr} {c : Cs}
theorem scOI : FnScope ["self","owner","side","price","many","shows","way"] ["self","owner","side","price","many","shows","way"] (zak zcg):=fsc
noncomputable def zdp (bo : Addr) (c : Cs) : Sp:=fun vs H Q E => ∃ (p dx : Addr) (owner : Int) (side : Str) (price : Option Int) (many : Int) (shows : Option Int) (way : Str),
 vs = [.ref p,.int owner,.str side,oV price,.int many,oV shows,.str way] ∧ H p = some (.ins c.O dx []) ∧ Small side price many shows way ∧
 (zbk side price many shows way = true → Q .non (upd H p (.ins c.O dx (ordF owner side price many shows way .non)))) ∧ (zbk side price many shows way = false → ∀ e,E (.ref bo) e H)
theorem ok_order {f f1 f2 f3 f4 f5 : Addr} {fd fd1 fd2 fd3 fd4 fd5 : FuncData} (F : Fun K "__init__" "Order.__init__" zcg f fd) (T : XTxt K mg bo nt nn be) (O : OTxt K mg sides ways) (C : CTxt K mg c)
  (F1 : Fun K "check_side" "check_side" zbH f1 fd1) (b1 : zcf K fd1 ["side"] []) (m1 : mg "check_side" = some (.ref f1))
  (F2 : Fun K "check_way" "check_way" zb3 f2 fd2) (b2 : zcf K fd2 ["way"] []) (m2 : mg "check_way" = some (.ref f2))
  (F3 : Fun K "check_price" "check_price" zbu f3 fd3) (b3 : zcf K fd3 ["price","way"] []) (m3 : mg "check_price" = some (.ref f3))
  (F4 : Fun K "check_many" "check_many" zbI f4 fd4) (b4 : zcf K fd4 ["many"] []) (m4 : mg "check_many" = some (.ref f4))
  (F5 : Fun K "check_shows" "check_shows" zbt f5 fd5) (b5 : zcf K fd5 ["shows","many","way"] []) (m5 : mg "check_shows" = some (.ref f5)) :
  FnOk P w K mg base (CXF P w) 2 f fd ["self","owner","side","price","many","shows","way"] (zdp bo c):=by
 have G1 : FnOk P w K mg base (CXF P w) 1 f1 fd1 _ _:=zeO F1 T O
 have G2 : FnOk P w K mg base (CXF P w) 1 f2 fd2 _ _:=zfx F2 T O
 have G3 : FnOk P w K mg base (CXF P w) 1 f3 fd3 _ _:=zdW F3 T O
 have G4 : FnOk P w K mg base (CXF P w) 1 f4 fd4 _ _:=zcG F4 T O
 have G5 : FnOk P w K mg base (CXF P w) 1 f5 fd5 _ _:=zdV F5 T
 refine F.okX scOI (fun vs H Q E h => ?_) (fun cdv A outer s H vs Q E hr h => ?_)
 ·obtain ⟨_,_,_,_,_,_,_,_,rfl,_⟩:=h
  rfl
 ·obtain ⟨p,dx,owner,side,price,many,shows,way,rfl,hp,sm,h1,h2⟩:=h
  refine ⟨_,zac (zaG (zas G1 hr rfl m1 F1.kp b1 .nil (zeN fun _ _ _ h => h) (zaa (pv 2) zag)))
   (zac (zaG (zas G2 hr rfl m2 F2.kp b2 .nil (zeN fun _ _ _ h => h) (zaa (pv 6) zag)))
   (zac (zaG (zas G3 hr rfl m3 F3.kp b3 .nil (zeN fun _ _ _ h => h) (zaa (pv 3) (zaa (pv 6) zag))))
   (zac (zaG (zas G4 hr rfl m4 F4.kp b4 .nil (zeN fun _ _ _ h => h) (zaa (pv 4) zag)))
   (zac (zaG (zas G5 hr rfl m5 F5.kp b5 .nil (zeN fun _ _ _ h => h) (zaa (pv 5) (zaa (pv 4) (zaa (pv 6) zag)))))
   (zac (zaP (pv 0) (pv 1) rfl) (zac (zaP (pv 0) (pv 2) rfl) (zac (zaP (pv 0) (pv 3) rfl) (zac (zaP (pv 0) (pv 4) rfl) (zac (zaP (pv 0) (pv 5) rfl)
   (zac (zaP (pv 0) (pv 6) rfl) (zaf (zaP (pv 0) zbV rfl)))))))))))),?_⟩
  have bad : ∀ {b : Bool},b = false → (b = false → zbk side price many shows way = false) → ∀ e,E (.ref bo) e H:=fun hb hg => h2 (hg hb)
  refine (rX rfl ⟨side,rfl,fun g1 => ?_,fun g1 => ⟨sm.s,h2 (by simp [zbk,g1])⟩⟩)
  refine (rX rfl ⟨way,rfl,fun g2 => ?_,fun g2 => ⟨sm.w,h2 (by simp [zbk,g2])⟩⟩)
  refine (rX rfl (rX rfl ⟨price,way,rfl,sm.p,fun g3 => ?_,fun g3 => h2 (by simp [zbk,g3])⟩))
  refine (rX rfl ⟨many,rfl,sm.m,fun g4 => ?_,fun g4 => h2 (by simp [zbk,g4])⟩)
  refine (rX rfl (rX rfl (rX rfl ⟨shows,many,way,rfl,sm.h,sm.m,sm.w2,fun g5 => ?_,fun g5 => h2 (by simp [zbk,g5])⟩)))
  have k:=h1 (by simp [zbk,g1,g2,g3,g4,g5])
  refine (rX rfl (rX rfl ⟨p,c.O,dx,rX rfl ⟨hp,C.clO,C.o1,(by show 0 < 1000; decide),?_⟩⟩))
  refine (rX rfl (rX rfl ⟨p,c.O,dx,rX rfl ⟨zab,C.clO,C.o2,(by show 1 < 1000; decide),?_⟩⟩))
  refine (rX rfl (rX rfl ⟨p,c.O,dx,rX rfl ⟨zab,C.clO,C.o3,(by show 2 < 1000; decide),?_⟩⟩))
  refine (rX rfl (rX rfl ⟨p,c.O,dx,rX rfl ⟨zab,C.clO,C.o4,(by show 3 < 1000; decide),?_⟩⟩))
  refine (rX rfl (rX rfl ⟨p,c.O,dx,rX rfl ⟨zab,C.clO,C.o5,(by show 4 < 1000; decide),?_⟩⟩))
  refine (rX rfl (rX rfl ⟨p,c.O,dx,rX rfl ⟨zab,C.clO,C.o6,(by show 5 < 1000; decide),?_⟩⟩))
  refine (rX rfl ⟨p,c.O,dx,rX rfl ⟨zab,C.clO,C.o7,(by show 6 < 1000; decide),?_⟩⟩)
  rw [zaR,zaR,zaR,zaR,zaR,zaR]
  exact k
noncomputable def za0 (p : Int) (side : Str) (price : Option Int) : Bool:=match price with
 | none => true
 | some q => if side = "buy" then decide (p ≤ q) else decide (q ≤ p)
theorem scSu : FnScope ["price","order"] ["price","order"] (zak zgW):=fsc
noncomputable def zgi (c : Cs) : Sp:=fun vs H Q _ => ∃ (p : Int) (o dx : Addr) (owner : Int) (side : Str) (price : Option Int) (many : Int) (shows : Option Int) (way : Str) (num : V),vs = [.int p,.ref o] ∧
 H o = some (.ins c.O dx (ordF owner side price many shows way num)) ∧ Q (.bl (za0 p side price)) H
theorem zhc {f : Addr} {fd : FuncData} (F : Fun K "suits" "suits" zgW f fd) (C : CTxt K mg c) : FnOk P w K mg base (CXF P w) 1 f fd ["price","order"] (zgi c):=by
 refine F.okN scSu (fun vs H Q E h => ?_) (fun cdv A outer s H vs Q E hr h => ?_)
 ·obtain ⟨_,_,_,_,_,_,_,_,_,_,rfl,_⟩:=h
  rfl
 ·obtain ⟨p,o,dx,owner,side,price,many,shows,way,num,rfl,ho,q⟩:=h
  refine ⟨_,zac (zaJ (zbB (zcE (zal (pv 1) rfl))) (zaf (zaw zcu)) zau)
   (zac (zaJ (zao za3 (zal (pv 1) rfl) zam (zat _)) (zaf (zaw (zbn op_le (pv 0) (zal (pv 1) rfl) (zat _)))) zau)
   (zaf (zaw (zbn op_ge (pv 0) (zal (pv 1) rfl) (zat _))))),?_⟩
  refine (rX rfl (rA o c.O dx rfl ho C.clO C.o3 rfl (rX rfl ?_)))
  cases price with
  | none => exact iteT q
  | some k =>
   refine iteF ?_
   refine (rX rfl (rA o c.O dx rfl ho C.clO C.o2 rfl ⟨rfl,rX rfl ?_⟩))
   by_cases hs : side = "buy"
   ·subst hs
    refine iteT (rX rfl (rX rfl (rA o c.O dx rfl ho C.clO C.o3 rfl (r2 rfl rfl ?_))))
    simpa [za0] using q
   ·have d : decide (V.str side = V.str ("buy" : Str)) = false:=by simp [hs]
    rw [d]
    refine iteF (rX rfl (rX rfl (rA o c.O dx rfl ho C.clO C.o3 rfl (r2 rfl rfl ?_))))
    simpa [za0,hs] using q
theorem scNI : FnScope ["self"] ["self"] (zak zdg):=fsc
noncomputable def zfm (c : Cs) : Sp:=fun vs H Q _ => ∃ p dx : Addr,vs = [.ref p] ∧ H p = some (.ins c.N dx []) ∧ Q .non (upd H p (.ins c.N dx (numF 0)))
theorem ok_num {f : Addr} {fd : FuncData} (F : Fun K "__init__" "Numbering.__init__" zdg f fd) (C : CTxt K mg c) : FnOk P w K mg base (CXF P w) 1 f fd ["self"] (zfm c):=by
 refine F.okN scNI (fun vs H Q E h => ?_) (fun cdv A outer s H vs Q E hr h => ?_)
 ·obtain ⟨_,_,rfl,_⟩:=h
  rfl
 ·obtain ⟨p,dx,rfl,hp,q⟩:=h
  exact ⟨_,zaf (zaP (pv 0) zah rfl),_,rfl,p,c.N,dx,_,rfl,hp,C.clN,C.n1,(by show 0 < 1000; decide),q⟩
theorem scAd : FnScope ["self","order"] ["self","order"] (zak zgY):=fsc
noncomputable def spAdmit (c : Cs) : Sp:=fun vs H Q _ => ∃ (p dx o dy : Addr) (k owner : Int) (side : Str) (price : Option Int) (many : Int) (shows : Option Int) (way : Str) (num : V),vs = [.ref p,.ref o] ∧ H p = some (.ins c.N dx (numF k)) ∧
 H o = some (.ins c.O dy (ordF owner side price many shows way num)) ∧ Q (.int k) (upd (upd H o (.ins c.O dy (ordF owner side price many shows way (.int k)))) p (.ins c.N dx (numF (k + 1))))
theorem ok_admit {f : Addr} {fd : FuncData} (F : Fun K "admit" "Numbering.admit" zgY f fd) (C : CTxt K mg c) : FnOk P w K mg base (CXF P w) 1 f fd ["self","order"] (spAdmit c):=by
 refine F.okN scAd (fun vs H Q E h => ?_) (fun cdv A outer s H vs Q E hr h => ?_)
 ·obtain ⟨_,_,_,_,_,_,_,_,_,_,_,_,rfl,_⟩:=h
  rfl
 ·obtain ⟨p,dx,o,dy,k,owner,side,price,many,shows,way,num,rfl,hp,ho,q⟩:=h
  have npo : p ≠ o:=zhJ hp ho (zhe "came" (by show some (V.int k) ≠ none; simp))
  refine ⟨_,zac (zaP (pv 1) (zal (pv 0) rfl) rfl) (zac (zbw (pv 0) zah zjx) (zaf (zaw (zal (pv 1) rfl)))),?_⟩
  refine (rX rfl (rA p c.N dx rfl hp C.clN C.n1 rfl (rX rfl ⟨o,c.O,dy,rX rfl ⟨ho,C.clO,C.o7,(by show 7 < 1000; decide),?_⟩⟩)))
  have hp1 : ∀ u,(upd H o u) p = some (.ins c.N dx (numF k)):=fun u => by rw [zad npo]; exact hp
  refine ⟨_,rfl,p,c.N,dx,_,_,rfl,hp1 _,C.clN,C.n1,rfl,?_⟩
  refine ⟨_,_,rfl,rfl,dx,_,hp1 _,(by show 1 < 1000; decide),?_⟩
  exact (rX rfl (rA o c.O dy rfl (by rw [zad npo.symm,zab]) C.clO C.o7 rfl q))
end
end Fb
namespace Fb
open PySem L2
section
variable {P : Program} {w : World} {K : W.Frag} {mg : Str → Option Value} {base : Heap} {c : Cs}
theorem scEI : FnScope ["self","order"] ["self","order"] (zak zdh):=fsc
noncomputable def zir (c : Cs) : Sp:=fun vs H Q _ => ∃ (p dx o dy : Addr) (owner : Int) (side : Str) (price : Option Int) (many : Int) (shows : Option Int) (way : Str) (num : V),vs = [.ref p,.ref o] ∧ H p = some (.ins c.E dx []) ∧
 H o = some (.ins c.O dy (ordF owner side price many shows way num)) ∧ Q .non (upd H p (.ins c.E dx (entF o many 0 .non)))
theorem ok_entry {f : Addr} {fd : FuncData} (F : Fun K "__init__" "Entry.__init__" zdh f fd) (C : CTxt K mg c) : FnOk P w K mg base (CXF P w) 1 f fd ["self","order"] (zir c):=by
 refine F.okN scEI (fun vs H Q E h => ?_) (fun cdv A outer s H vs Q E hr h => ?_)
 ·obtain ⟨_,_,_,_,_,_,_,_,_,_,_,rfl,_⟩:=h
  rfl
 ·obtain ⟨p,dx,o,dy,owner,side,price,many,shows,way,num,rfl,hp,ho,q⟩:=h
  have npo : o ≠ p:=zhJ ho hp (zhe "owner" (by show some (V.int owner) ≠ none; simp))
  refine ⟨_,zac (zaP (pv 0) (pv 1) rfl) (zac (zaP (pv 0) (zal (pv 1) rfl) rfl) (zac (zaP (pv 0) zah rfl) (zaf (zaP (pv 0) zbV rfl)))),?_⟩
  refine (rX rfl (rX rfl ⟨p,c.E,dx,rX rfl ⟨hp,C.clE,C.e1,(by show 0 < 1000; decide),?_⟩⟩))
  refine (rX rfl (rA o c.O dy rfl (by rw [zad npo]; exact ho) C.clO C.o4 rfl (rX rfl ⟨p,c.E,dx,rX rfl ⟨zab,C.clE,C.e2,(by show 1 < 1000; decide),?_⟩⟩)))
  refine (rX rfl ⟨p,c.E,dx,rX rfl ⟨zab,C.clE,C.e3,(by show 2 < 1000; decide),?_⟩⟩)
  refine (rX rfl ⟨p,c.E,dx,rX rfl ⟨zab,C.clE,C.e4,(by show 3 < 1000; decide),?_⟩⟩)
  rw [zaR,zaR,zaR]
  exact q
theorem scSh : FnScope ["self"] ["self"] (zak sShow):=fsc
noncomputable def zil (c : Cs) : Sp:=fun vs H Q _ => ∃ (p dx o dy : Addr) (left sh : Int) (rk : V) (owner : Int) (side : Str) (price : Option Int) (many : Int) (shows : Option Int) (way : Str) (num : V),vs = [.ref p] ∧ H p = some (.ins c.E dx (entF o left sh rk)) ∧
 H o = some (.ins c.O dy (ordF owner side price many shows way num)) ∧ Q .non (upd H p (.ins c.E dx (entF o left (zaS shows left) rk)))
theorem ziZ {f : Addr} {fd : FuncData} (F : Fun K "show_again" "Entry.show_again" sShow f fd) (C : CTxt K mg c) : FnOk P w K mg base (CXF P w) 1 f fd ["self"] (zil c):=by
 refine F.okN scSh (fun vs H Q E h => ?_) (fun cdv A outer s H vs Q E hr h => ?_)
 ·obtain ⟨_,_,_,_,_,_,_,_,_,_,_,_,_,_,rfl,_⟩:=h
  rfl
 ·obtain ⟨p,dx,o,dy,left,sh,rk,owner,side,price,many,shows,way,num,rfl,hp,ho,q⟩:=h
  refine ⟨_,zaf (zaJ (zbB (zcE (zal (zal (pv 0) rfl) rfl))) (zaf (zaP (pv 0) (zal (pv 0) rfl) rfl))
   (zaf (zaP (pv 0) (zaE (zcU rfl) (by rfl) C.min (by decide +kernel) (zaa (zal (zal (pv 0) rfl) rfl) (zaa (zal (pv 0) rfl) zag))) rfl))),?_⟩
  refine (rX rfl (rA p c.E dx rfl hp C.clE C.e1 rfl (rA o c.O dy rfl ho C.clO C.o5 rfl (rX rfl ?_))))
  cases shows with
  | none => exact iteT ⟨_,rfl,p,c.E,dx,_,_,rfl,hp,C.clE,C.e2,rfl,_,rfl,p,c.E,dx,_,rfl,hp,C.clE,C.e3,(by show 4 < 1000; decide),q⟩
  | some k =>
   exact iteF (rX rfl (rA p c.E dx rfl hp C.clE C.e1 rfl (rA o c.O dy rfl ho C.clO C.o5 rfl (rX rfl (rA p c.E dx rfl hp C.clE C.e2 rfl ⟨_,rX rfl (rX rfl ⟨p,c.E,dx,rX rfl ⟨hp,C.clE,C.e3,(by show 4 < 1000; decide),q⟩⟩)⟩)))))
theorem scSt : FnScope ["self","place"] ["self","place"] (zak zgX):=fsc
noncomputable def zik (c : Cs) : Sp:=fun vs H Q _ => ∃ (p dx o dy : Addr) (pl left sh : Int) (rk : V) (owner : Int) (b : Bool) (price : Int) (many : Int) (shows : Option Int) (way : Str) (num : V),vs = [.ref p,.int pl] ∧ H p = some (.ins c.E dx (entF o left sh rk)) ∧
 H o = some (.ins c.O dy (ordF owner (zav b) (some price) many shows way num)) ∧ ∀ r,H r = none → Q .non (upd (upd H r (.tup [.int (if b = true then -price else price),.int pl])) p (.ins c.E dx (entF o left sh (.ref r))))
theorem ok_stand {f : Addr} {fd : FuncData} (F : Fun K "stand_at" "Entry.stand_at" zgX f fd) (C : CTxt K mg c) : FnOk P w K mg base (CXF P w) 1 f fd ["self","place"] (zik c):=by
 refine F.okN scSt (fun vs H Q E h => ?_) (fun cdv A outer s H vs Q E hr h => ?_)
 ·obtain ⟨_,_,_,_,_,_,_,_,_,_,_,_,_,_,_,rfl,_⟩:=h
  rfl
 ·obtain ⟨p,dx,o,dy,pl,left,sh,rk,owner,b,price,many,shows,way,num,rfl,hp,ho,q⟩:=h
  refine ⟨_,zaf (zaJ (zao za3 (zal (zal (pv 0) rfl) rfl) zam (zat _))
   (zaf (zaP (pv 0) (zby (zaa (pe_un zh6 (zal (zal (pv 0) rfl) rfl)) (zaa (pv 1) zag))) rfl))
   (zaf (zaP (pv 0) (zby (zaa (zal (zal (pv 0) rfl) rfl) (zaa (pv 1) zag))) rfl))),?_⟩
  refine (rX rfl (rA p c.E dx rfl hp C.clE C.e1 rfl (rA o c.O dy rfl ho C.clO C.o2 rfl ⟨rfl,rX rfl ?_⟩)))
  have two : ∀ a b : V,([a,b] : List V).length ≤ sizeLine:=fun a b => by rw [sizeLine_eq]; show 2 ≤ 16777216; decide
  cases b with
  | true =>
   exact iteT (rX rfl (rA p c.E dx rfl hp C.clE C.e1 rfl (rA o c.O dy rfl ho C.clO C.o3 rfl (rX rfl (rX rfl ⟨two _ _,fun r hn => (rX rfl ⟨p,c.E,dx,entF o left sh rk,rfl,(by rw [zad (zae hp hn)]; exact hp),C.clE,C.e4,(by show 4 < 1000; decide),q r hn⟩)⟩)))))
  | false =>
   have d : decide (V.str (zav false) = V.str ("buy" : Str)) = false:=by decide +kernel
   rw [d]
   exact iteF (rX rfl (rA p c.E dx rfl hp C.clE C.e1 rfl (rA o c.O dy rfl ho C.clO C.o3 rfl (rX rfl ⟨two _ _,fun r hn => (rX rfl ⟨p,c.E,dx,entF o left sh rk,rfl,(by rw [zad (zae hp hn)]; exact hp),C.clE,C.e4,(by show 4 < 1000; decide),q r hn⟩)⟩))))
structure EntOk (c : Cs) (H : Hp) (e : Ent) : Prop where
 en : ∃ dx,H e.ea = some (.ins c.E dx (entF e.oa e.left e.shown (.ref e.ra)))
 od : ∃ dx,H e.oa = some (.ins c.O dx (ordF e.owner (zav e.buy) (some e.price) e.many e.shows "rest" (.int e.num)))
 rk : H e.ra = some (.tup [.int e.k1,.int e.place])
theorem scFR : FnScope ["entries","rank","low","high","middle"] ["entries","rank"] (zak sFind):=fsc
noncomputable def zio (c : Cs) : Sp:=fun vs H Q _ => ∃ (l r : Addr) (es : List Ent) (a b : Int) (pos : Nat),vs = [.ref l,.ref r] ∧ H l = some (.lst (es.map fun e => .ref e.ea)) ∧ H r = some (.tup [.int a,.int b]) ∧ (∀ e ∈ es,EntOk c H e) ∧ es.length ≤ 1000 ∧
 pos ≤ es.length ∧ (∀ (i : Nat) e,es[i]? = some e → (klt e.k1 e.place a b ↔ i < pos)) ∧ Q (.int pos) H
theorem zi0 {f : Addr} {fd : FuncData} (F : Fun K "find_rank" "find_rank" sFind f fd) (C : CTxt K mg c) : FnOk P w K mg base (CXF P w) 1 f fd ["entries","rank"] (zio c):=by
 refine F.okN scFR (fun vs H Q E h => ?_) (fun cdv A outer s H vs Q E hr h => ?_)
 ·obtain ⟨_,_,_,_,_,_,rfl,_⟩:=h
  rfl
 ·obtain ⟨l,r,es,a,b,pos,rfl,hl,hrk,hes,hlen,hpos,hsp,q⟩:=h
  have hu:=zdd hr
  refine ⟨_,zac (zap (i:=2) scFR.nd rfl (Or.inl rfl) zah) (zac (zap (i:=3) scFR.nd rfl (Or.inl rfl) (zaE zbE (by rfl) C.len (by decide +kernel) (zaa (pv 0) zag)))
   (zac (zeJ PassesOwn.never (zao op_lt (pv 2) (pv 3) (zat _)) (zac (zap (i:=4) scFR.nd rfl (Or.inl rfl) (zaA zaX (zaA zbz (pv 2) (pv 3)) zah))
    (zaf (zaJ (zao (op_ltT (Nat.lt_of_succ_lt hu)) (zal (zaB zbe (pv 0) (pv 4) (fun _ _ => rfl)) rfl) (pv 1) (zat _))
     (zaf (zap (i:=2) scFR.nd rfl (Or.inl rfl) (zaA zbz (pv 4) zah))) (zaf (zap (i:=3) scFR.nd rfl (Or.inl rfl) (pv 4)))))))
   (zaf (zaw (pv 2))))),?_⟩
  refine (rX rfl ⟨l,rX rfl ⟨.inl (SqL.of hl),?_⟩⟩)
  refine ⟨fun m σ H' => ∃ (lo hi : Nat) (mid : Option V),H' = H ∧ σ = [some (.ref l),some (.ref r),some (.int lo),some (.int hi),mid] ∧ lo ≤ pos ∧ pos ≤ hi ∧ hi ≤ es.length ∧ m = hi - lo,⟨_,0,es.length,none,rfl,by rw [List.length_map]; rfl,Nat.zero_le _,hpos,Nat.le_refl _,rfl⟩,?_⟩
  rintro m σ H' ⟨lo,hi,mid,rfl,rfl,h1,h2,h3,rfl⟩
  refine (rX rfl (rX rfl (r2 rfl rfl (rX rfl ?_))))
  refine ite2 (fun e => ?_) (fun e => ?_)
  ·have lt : (lo : Int) < (hi : Int):=of_decide_eq_true e
   refine ⟨_,fun _ _ h => h,?_⟩
   refine (rX rfl (rX rfl (r2 rfl rfl (r2 rfl rfl ⟨⟨by decide,by decide⟩,?_⟩))))
   have hm : (lo + hi) / 2 < es.length:=by omega
   have em : ((lo : Int) + (hi : Int)) / 2 = (((lo + hi) / 2 : Nat) : Int):=by omega
   obtain ⟨x,hx⟩ : ∃ x,es[(lo + hi) / 2]? = some x:=⟨es[(lo + hi) / 2],by simp [hm]⟩
   have ok:=hes x (List.mem_of_getElem? hx)
   obtain ⟨dx,hen⟩:=ok.en
   refine ⟨_,rfl,_,rfl,l,_,_,_,rfl,rfl,SqL.of hl,(by rw [em]; exact zaj (by rw [List.getElem?_map,hx]; rfl)),x.ea,c.E,dx,_,_,rfl,hen,C.clE,C.e4,rfl,_,rfl,x.ra,r,[x.k1,x.place],[a,b],rfl,rfl,SqT.of ok.rk,SqT.of hrk,_,rfl,?_⟩
   have hk:=hsp _ x hx
   rw [klt_lex]
   refine ite2 (fun e2 => ?_) (fun e2 => ?_)
   ·have:=hk.mp (of_decide_eq_true e2)
    refine (rX rfl (r2 rfl rfl ?_))
    exact ⟨hi - ((lo + hi) / 2 + 1),by omega,(lo + hi) / 2 + 1,hi,some (.int (((lo + hi) / 2 : Nat) : Int)),rfl,by dsimp only [List.set]; rw [em]; rfl,by omega,by omega,by omega,rfl⟩
   ·have : ¬ (lo + hi) / 2 < pos:=fun z => e2 (decide_eq_true (hk.mpr z))
    exact (rX rfl ⟨(lo + hi) / 2 - lo,by omega,lo,(lo + hi) / 2,some (.int (((lo + hi) / 2 : Nat) : Int)),rfl,by dsimp only [List.set]; rw [em],by omega,by omega,by omega,rfl⟩)
  ·have ge : ¬ (lo : Int) < (hi : Int):=fun z => e (decide_eq_true z)
   have ep : lo = pos:=by omega
   subst ep
   exact (rX rfl q)
end
end Fb
namespace Fb
open PySem L2
noncomputable def Dn (K : W.Frag) (x qual : Str) (st : Stmt) (f : Addr) (ps : List Str) : Prop:=∃ fd,Fun K x qual st f fd ∧ zcf K fd ps []
noncomputable def Kp (P : Program) (w : World) (K : W.Frag) (mg : Str → Option Value) (base : Heap) (k : Nat) (f : Addr) (ps : List Str) (sp : Sp) : Prop:=∃ fd,FnOk P w K mg base (CXF P w) k f fd ps sp ∧ zcf K fd ps [] ∧ W.keepIn K (.ref f) = true
theorem Dn.kp {P : Program} {w : World} {K : W.Frag} {mg : Str → Option Value} {base : Heap} {k : Nat} {x qual : Str} {st : Stmt} {f : Addr} {ps : List Str} {sp : Sp} (d : Dn K x qual st f ps)
  (h : ∀ fd,Fun K x qual st f fd → FnOk P w K mg base (CXF P w) k f fd ps sp) : Kp P w K mg base k f ps sp:=let ⟨fd,F,b⟩:=d; ⟨fd,h fd F,b,F.kp⟩
structure Ga where
 b : Addr
 nb : Addr
 ds : Addr
 lb : Addr
 ls : Addr
 de : Addr
noncomputable def Ga.at (g : Ga) (b : Bool) : Addr:=if b = true then g.lb else g.ls
noncomputable def Bk.at (B : Bk) (b : Bool) : List Ent:=if b = true then B.buys else B.sells
noncomputable def Bk.set (B : Bk) (b : Bool) (xs : List Ent) : Bk:=if b = true then { B with buys:=xs } else { B with sells:=xs }
noncomputable abbrev refs (xs : List Ent) : List V:=xs.map fun e => .ref e.ea
structure Rep (c : Cs) (H : Hp) (g : Ga) (B : Bk) : Prop where
 ob : ∃ dx,H g.b = some (.ins c.B dx (zd2 g.nb g.ds g.de B.places B.calling B.last B.vol))
 nb : ∃ dx,H g.nb = some (.ins c.N dx (numF B.came))
 ds : H g.ds = some (.dK [(Sum.inr "buy",.ref g.lb),(Sum.inr "sell",.ref g.ls)])
 ls : ∀ b,H (g.at b) = some (.lst (refs (B.at b)))
 ne : g.lb ≠ g.ls
 dd : g.de ≠ g.ds
 de : ∃ kvs,H g.de = some (.dK kvs) ∧ (kvs.map (·.1)).Nodup ∧ kvs.length = B.buys.length + B.sells.length ∧ (∀ b,∀ e ∈ B.at b,valV kvs (Sum.inl e.num) = some (.ref e.ea)) ∧ ∀ n v,valV kvs (Sum.inl n) = some v → ∃ b,∃ e ∈ B.at b,e.num = n
 en : ∀ b,∀ e ∈ B.at b,EntOk c H e
structure Bk.Ok (B : Bk) : Prop where
 so : ∀ b,zbA (B.at b)
 sd : ∀ b,∀ e ∈ B.at b,e.buy = b
 nd : ∀ b,((B.at b).map (·.num)).Nodup
 nx : ∀ e ∈ B.buys,∀ e' ∈ B.sells,e.num ≠ e'.num
 lt : ∀ b,∀ e ∈ B.at b,0 ≤ e.num ∧ e.num < B.came
 pl : ∀ b,∀ e ∈ B.at b,e.place < B.places
 ct : ((B.buys.length + B.sells.length : Nat) : Int) ≤ B.came
 cm : B.came ≤ 500
noncomputable def Foot (g : Ga) (B : Bk) (a : Addr) : Prop:=a = g.b ∨ a = g.nb ∨ a = g.lb ∨ a = g.ls ∨ a = g.de ∨ ∃ b,∃ e ∈ B.at b,a = e.ea
theorem at_ne {g : Ga} (h : g.lb ≠ g.ls) (b : Bool) : g.at b ≠ g.at (!b):=by cases b <;> simp [Ga.at,h,Ne.symm h]
theorem EntOk.ea_num {c : Cs} {H : Hp} {e e' : Ent} (h : EntOk c H e) (h' : EntOk c H e') (z : e.ea = e'.ea) : e.num = e'.num:=by
 obtain ⟨dx,en⟩:=h.en
 obtain ⟨dx',en'⟩:=h'.en
 rw [z,en'] at en
 have q : e'.oa = e.oa:=by
  have:=congrArg (fun o : Option HO => match o with | some (.ins _ _ fs) => fs.lookup ("order" : Str) | _ => none) en
  have : some (V.ref e'.oa) = some (V.ref e.oa):=this
  injection this with this
  injection this
 obtain ⟨dy,od⟩:=h.od
 obtain ⟨dy',od'⟩:=h'.od
 rw [← q,od'] at od
 have:=congrArg (fun o : Option HO => match o with | some (.ins _ _ fs) => fs.lookup ("number" : Str) | _ => none) od
 have : some (V.int e'.num) = some (V.int e.num):=this
 injection this with this
 injection this with this
 exact this.symm
noncomputable def Bk.put (B : Bk) (e : Ent) (r : Addr) : Bk:={ B.set e.buy (insE { e with ra:=r,place:=B.places,shown:=zaS e.shows e.left } (B.at e.buy)) with places:=B.places + 1 }
theorem za6 (B : Bk) (e : Ent) (r : Addr) : (B.put e r).at e.buy = insE { e with ra:=r,place:=B.places,shown:=zaS e.shows e.left } (B.at e.buy):=by
 unfold Bk.put Bk.set Bk.at
 cases e.buy <;> rfl
theorem za9 (B : Bk) (e : Ent) (r : Addr) : (B.put e r).at (!e.buy) = B.at (!e.buy):=by
 unfold Bk.put Bk.set Bk.at
 cases e.buy <;> rfl
theorem zdz (B : Bk) (e : Ent) (r : Addr) : (B.put e r).came = B.came ∧ (B.put e r).places = B.places + 1 ∧ (B.put e r).calling = B.calling ∧ (B.put e r).last = B.last ∧ (B.put e r).vol = B.vol:=by
 unfold Bk.put Bk.set
 cases e.buy <;> exact ⟨rfl,rfl,rfl,rfl,rfl⟩
theorem not_of {b x : Bool} (h : ¬ b = x) : b = !x:=by
 cases b <;> cases x <;> simp_all
theorem zeX (e : Ent) (xs : List Ent) : (insE e xs).length = xs.length + 1:=(zdP e xs).length_eq
theorem ziJ (B : Bk) (e : Ent) (r : Addr) : (B.put e r).buys.length + (B.put e r).sells.length = B.buys.length + B.sells.length + 1:=by
 unfold Bk.put Bk.set Bk.at
 cases e.buy
 ·show B.buys.length + (insE _ B.sells).length = _
  rw [zeX]
  omega
 ·show (insE _ B.buys).length + B.sells.length = _
  rw [zeX]
  omega
theorem zbd {B : Bk} {e : Ent} {r : Addr} {b : Bool} {x : Ent} (h : x ∈ (B.put e r).at b) : (b = e.buy ∧ x = { e with ra:=r,place:=B.places,shown:=zaS e.shows e.left }) ∨ x ∈ B.at b:=by
 by_cases hb : b = e.buy
 ·subst hb
  rw [za6] at h
  exact (zcH.mp h).imp (fun z => ⟨rfl,z⟩) id
 ·have : b = !e.buy:=not_of hb
  subst this
  rw [za9] at h
  exact .inr h
theorem mem_put' {B : Bk} {e : Ent} {r : Addr} {b : Bool} {x : Ent} (h : x ∈ B.at b) : x ∈ (B.put e r).at b:=by
 by_cases hb : b = e.buy
 ·subst hb
  rw [za6]
  exact zcH.mpr (.inr h)
 ·have : b = !e.buy:=not_of hb
  subst this
  rw [za9]
  exact h
theorem zdI (B : Bk) (e : Ent) (r : Addr) : { e with ra:=r,place:=B.places,shown:=zaS e.shows e.left } ∈ (B.put e r).at e.buy:=by
 rw [za6]
 exact zcH.mpr (.inl rfl)
theorem zg9 {b : Bool} {e : Ent} {e' : Ent} {B : Bk} (ok : B.Ok) (b1 b2 : Bool) (h : e ∈ B.at b1) (h' : e' ∈ B.at b2) (hn : e.num = e'.num) : b1 = b2:=by
 cases b1 <;> cases b2 <;> first | rfl | exact absurd hn.symm (ok.nx _ h' _ h) | exact absurd hn (ok.nx _ h _ h')
theorem Bk.Ok.put {B : Bk} (ok : B.Ok) {e : Ent} (r : Addr) (h0 : 0 ≤ e.num) (h1 : e.num < B.came) (hn : ∀ b,∀ x ∈ B.at b,x.num ≠ e.num) (hc : ((B.buys.length + B.sells.length : Nat) : Int) < B.came) : (B.put e r).Ok:=by
 obtain ⟨q1,q2,q3,q4,q5⟩:=zdz B e r
 refine ⟨fun b => ?_,fun b x hx => ?_,fun b => ?_,?_,fun b x hx => ?_,fun b x hx => ?_,?_,by rw [q1]; exact ok.cm⟩
 ·by_cases hb : b = e.buy
  ·subst hb
   rw [za6]
   exact zdO (ok.so _) fun x hx => ok.pl _ x hx
  ·have : b = !e.buy:=not_of hb
   subst this
   rw [za9]
   exact ok.so _
 ·rcases zbd hx with ⟨hb,hx⟩ | hx
  ·rw [hx,hb]
  ·exact ok.sd b x hx
 ·by_cases hb : b = e.buy
  ·subst hb
   rw [za6]
   refine ((zdP _ _).map (·.num)).nodup_iff.mpr ?_
   refine List.nodup_cons.mpr ⟨fun hm => ?_,ok.nd _⟩
   obtain ⟨x,hx,ex⟩:=List.mem_map.mp hm
   exact hn _ x hx ex
  ·have : b = !e.buy:=not_of hb
   subst this
   rw [za9]
   exact ok.nd _
 ·intro x hx y hy
  have hx' : x ∈ (B.put e r).at true:=hx
  have hy' : y ∈ (B.put e r).at false:=hy
  rcases zbd hx' with ⟨hb,ex⟩ | hx1
  ·rcases zbd hy' with ⟨hb',ey⟩ | hy1
   ·rw [← hb] at hb'
    cases hb'
   ·rw [ex]
    exact fun z => hn _ y hy1 z.symm
  ·rcases zbd hy' with ⟨hb',ey⟩ | hy1
   ·rw [ey]
    exact fun z => hn _ x hx1 z
   ·exact ok.nx x hx1 y hy1
 ·rw [q1]
  rcases zbd hx with ⟨hb,hx⟩ | hx
  ·rw [hx]
   exact ⟨h0,h1⟩
  ·exact ok.lt b x hx
 ·rw [q2]
  rcases zbd hx with ⟨hb,hx⟩ | hx
  ·rw [hx]
   show B.places < B.places + 1
   omega
  ·have:=ok.pl b x hx
   omega
 ·rw [ziJ,q1]
  omega
end Fb
namespace Fb
open PySem L2
noncomputable def kd : HO → Nat
 | .ins _ _ fs => if (fs.lookup ("remaining" : Str)).isSome = true then 1 else if (fs.lookup ("owner" : Str)).isSome = true then 2 else if (fs.lookup ("numbering" : Str)).isSome = true then 3 else if (fs.lookup ("came" : Str)).isSome = true then 4 else 0
 | .lst _ => 5
 | .dK _ => 6
 | .tup _ => 7
 | _ => 8
theorem zan {H : Hp} {a b : Addr} {o u : HO} (i j : Nat) (h : H a = some o) (h' : H b = some u) (hi : kd o = i:=by rfl) (hj : kd u = j:=by rfl) (hij : i ≠ j:=by decide) : a ≠ b :=
 zhJ h h' fun z => hij (by rw [← hi,← hj,z])
theorem zcA {κ : Type} [DecidableEq κ] (k j : κ) : ∀ kvs : List (κ × V),valV (zbT kvs k) j = if j = k then none else valV kvs j
 | [] => by
  show none = if j = k then none else none
  split <;> rfl
 | p :: r => by
  by_cases e : p.1 = k
  ·rw [zdS e,zcA k j r]
   by_cases h : j = k
   ·rw [if_pos h,if_pos h]
   ·rw [if_neg h,if_neg h,zaU (fun z => h (z.symm.trans e))]
  ·rw [zcQ e]
   by_cases h : p.1 = j
   ·have hjk : ¬ j = k:=fun z => e (h.trans z)
    rw [zaZ h,if_neg hjk,zaZ h]
   ·rw [zaU h,zcA k j r,zaU h]
theorem zjK {c : Cs} {H : Hp} {x : Ent} (h : EntOk c H x) {ea oa dx dy : Addr} {l s : Int} {rk : V} {ow : Int} {sd : Str} {pr : Option Int} {mn : Int} {sw : Option Int} {wy : Str} {num : Int}
  (hen : H ea = some (.ins c.E dx (entF oa l s rk))) (hod : H oa = some (.ins c.O dy (ordF ow sd pr mn sw wy (.int num)))) (z : x.ea = ea) : x.num = num:=by
 obtain ⟨dx',en⟩:=h.en
 rw [z,hen] at en
 have q : some (V.ref oa) = some (V.ref x.oa):=congrArg (fun o : Option HO => match o with | some (.ins _ _ fs) => fs.lookup ("order" : Str) | _ => none) en
 injection q with q
 injection q with q
 obtain ⟨dy',od⟩:=h.od
 rw [← q,hod] at od
 have q2 : some (V.int num) = some (V.int x.num):=congrArg (fun o : Option HO => match o with | some (.ins _ _ fs) => fs.lookup ("number" : Str) | _ => none) od
 injection q2 with q2
 injection q2 with q2
 exact q2.symm
noncomputable def putH (c : Cs) (g : Ga) (B : Bk) (e : Ent) (dx dxb r : Addr) (kvs : List (Key × V)) (H : Hp) : Hp :=
 upd (upd (upd (upd (upd H r (.tup [.int e.k1,.int B.places])) e.ea (.ins c.E dx (entF e.oa e.left (zaS e.shows e.left) (.ref r))))
  g.b (.ins c.B dxb (zd2 g.nb g.ds g.de (B.places + 1) B.calling B.last B.vol)))
  (g.at e.buy) (.lst ((refs (B.at e.buy)).take (zbp { e with ra:=r,place:=B.places,shown:=zaS e.shows e.left } (B.at e.buy)) ++ .ref e.ea :: (refs (B.at e.buy)).drop (zbp { e with ra:=r,place:=B.places,shown:=zaS e.shows e.left } (B.at e.buy)))))
  g.de (.dK (putK kvs (Sum.inl e.num) (.ref e.ea)))
theorem rep_put {c : Cs} {H : Hp} {g : Ga} {B : Bk} {e : Ent} {dx dy dxb r : Addr} {sh : Int} {rk : V} {kvs : List (Key × V)} (R : Rep c H g B) (hen : H e.ea = some (.ins c.E dx (entF e.oa e.left sh rk)))
  (hod : H e.oa = some (.ins c.O dy (ordF e.owner (zav e.buy) (some e.price) e.many e.shows "rest" (.int e.num)))) (hn : ∀ b,∀ x ∈ B.at b,x.num ≠ e.num) (hr : H r = none)
  (hob : H g.b = some (.ins c.B dxb (zd2 g.nb g.ds g.de B.places B.calling B.last B.vol))) (hkv : H g.de = some (.dK kvs)) (hnd : (kvs.map (·.1)).Nodup) (hlen : kvs.length = B.buys.length + B.sells.length)
  (hv1 : ∀ b,∀ e ∈ B.at b,valV kvs (Sum.inl e.num) = some (.ref e.ea)) (hv2 : ∀ n v,valV kvs (Sum.inl n) = some v → ∃ b,∃ e ∈ B.at b,e.num = n) :
  Rep c (putH c g B e dx dxb r kvs H) g (B.put e r) ∧ ∀ a o,H a = some o → ¬ Foot g B a → a ≠ e.ea → putH c g B e dx dxb r kvs H a = some o:=by
 have un : ∀ a,a ≠ g.de → a ≠ g.at e.buy → a ≠ g.b → a ≠ e.ea → a ≠ r → putH c g B e dx dxb r kvs H a = H a:=fun a h1 h2 h3 h4 h5 => by
  unfold putH
  rw [zad h1,zad h2,zad h3,zad h4,zad h5]
 obtain ⟨dn,hnb⟩:=R.nb
 have hls:=R.ls
 have fr : ∀ {a : Addr} {o : HO},H a = some o → a ≠ r:=fun h => zae h hr
 have l1 : ∀ b,g.at b ≠ g.de:=fun b => zan 5 6 (hls b) hkv
 have l2 : ∀ b,g.at b ≠ g.b:=fun b => zan 5 3 (hls b) hob
 have l3 : ∀ b,g.at b ≠ e.ea:=fun b => zan 5 1 (hls b) hen
 have b1 : g.b ≠ g.de:=zan 3 6 hob hkv
 have b2 : g.b ≠ e.ea:=zan 3 1 hob hen
 have n1 : g.nb ≠ g.de:=zan 4 6 hnb hkv
 have n2 : ∀ b,g.nb ≠ g.at b:=fun b => zan 4 5 hnb (hls b)
 have n3 : g.nb ≠ g.b:=zan 4 3 hnb hob
 have n4 : g.nb ≠ e.ea:=zan 4 1 hnb hen
 have s2 : ∀ b,g.ds ≠ g.at b:=fun b => zan 6 5 R.ds (hls b)
 have s3 : g.ds ≠ g.b:=zan 6 3 R.ds hob
 have s4 : g.ds ≠ e.ea:=zan 6 1 R.ds hen
 have d4 : g.de ≠ e.ea:=zan 6 1 hkv hen
 obtain ⟨q1,q2,q3,q4,q5⟩:=zdz B e r
 have vnone : valV kvs (Sum.inl e.num) = none:=by
  cases q : valV kvs (Sum.inl e.num) with
  | none => rfl
  | some v =>
   obtain ⟨b,x,hx,ex⟩:=hv2 _ _ q
   exact absurd ex (hn b x hx)
 have old : ∀ b,∀ x ∈ B.at b,EntOk c (putH c g B e dx dxb r kvs H) x:=fun b x hx => by
  have k:=R.en b x hx
  obtain ⟨⟨dz,xe⟩,⟨dw,xo⟩,xr⟩:=id k
  have xne : x.ea ≠ e.ea:=fun z => hn b x hx (zjK k hen hod z)
  refine ⟨⟨dz,?_⟩,⟨dw,?_⟩,?_⟩
  ·rw [un _ (zan 1 6 xe hkv) (zan 1 5 xe (hls _)) (zan 1 3 xe hob) xne (fr xe)]
   exact xe
  ·rw [un _ (zan 2 6 xo hkv) (zan 2 5 xo (hls _)) (zan 2 3 xo hob) (zan 2 1 xo hen) (fr xo)]
   exact xo
  ·rw [un _ (zan 7 6 xr hkv) (zan 7 5 xr (hls _)) (zan 7 3 xr hob) (zan 7 1 xr hen) (fr xr)]
   exact xr
 have new : EntOk c (putH c g B e dx dxb r kvs H) { e with ra:=r,place:=B.places,shown:=zaS e.shows e.left }:=by
  refine ⟨⟨dx,?_⟩,⟨dy,?_⟩,?_⟩
  ·show putH c g B e dx dxb r kvs H e.ea = _
   unfold putH
   rw [zad d4.symm,zad (l3 _).symm,zad b2.symm,zab]
  ·show putH c g B e dx dxb r kvs H e.oa = _
   rw [un _ (zan 2 6 hod hkv) (zan 2 5 hod (hls _)) (zan 2 3 hod hob) (zan 2 1 hod hen) (fr hod)]
   exact hod
  ·show putH c g B e dx dxb r kvs H r = _
   unfold putH
   rw [zad (fr hkv).symm,zad (fr (hls _)).symm,zad (fr hob).symm,zad (fr hen).symm,zab]
   rfl
 refine ⟨⟨⟨dxb,?_⟩,⟨dn,?_⟩,?_,fun b => ?_,R.ne,R.dd,⟨putK kvs (Sum.inl e.num) (.ref e.ea),?_,nd_putK _ hnd vnone,?_,fun b x hx => ?_,fun n v hv => ?_⟩,fun b x hx => ?_⟩,fun a o ha hf hae => ?_⟩
 ·unfold putH
  rw [zad b1,zad (l2 _).symm,zab,q2,q3,q4,q5]
 ·rw [un _ n1 (n2 _) n3 n4 (fr hnb),q1]
  exact hnb
 ·rw [un _ R.dd.symm (s2 _) s3 s4 (fr R.ds)]
  exact R.ds
 ·by_cases hb : b = e.buy
  ·subst hb
   rw [za6,zjw]
   unfold putH
   rw [zad (l1 _),zab]
   show _ = some (HO.lst (List.map (fun e : Ent => V.ref e.ea) _))
   rw [List.map_append,List.map_cons,List.map_take,List.map_drop]
  ·have hb' : b = !e.buy:=not_of hb
   subst hb'
   rw [za9,un _ (l1 _) (at_ne R.ne e.buy).symm (l2 _) (l3 _) (fr (hls _))]
   exact hls _
 ·unfold putH
  rw [zab]
 ·rw [zg3 _ vnone,List.length_append,ziJ,hlen]
  rfl
 ·rw [zek]
  rcases zbd hx with ⟨_,ex⟩ | hx
  ·rw [ex,if_pos rfl]
  ·rw [if_neg (fun z => hn b x hx (Sum.inl.inj z))]
   exact hv1 b x hx
 ·rw [zek] at hv
  by_cases hne : n = e.num
  ·subst hne
   exact ⟨e.buy,_,zdI B e r,rfl⟩
  ·rw [if_neg (fun z => hne (Sum.inl.inj z))] at hv
   obtain ⟨b,x,hx,ex⟩:=hv2 n v hv
   exact ⟨b,x,mem_put' hx,ex⟩
 ·rcases zbd hx with ⟨_,ex⟩ | hx
  ·rw [ex]
   exact new
  ·exact old b x hx
 ·have la : a ≠ g.at e.buy:=fun z => by
   rw [z] at hf
   refine hf ?_
   unfold Foot Ga.at
   cases e.buy <;> simp
  rw [un a (fun z => hf (by rw [z]; exact .inr (.inr (.inr (.inr (.inl rfl)))))) la (fun z => hf (.inl z)) hae (fr ha)]
  exact ha
end Fb
namespace Fb
open PySem L2
structure Ads where
 checkSide : Addr
 checkWay : Addr
 checkPrice : Addr
 checkMany : Addr
 checkShows : Addr
 orderInit : Addr
 suits : Addr
 numInit : Addr
 admit : Addr
 entInit : Addr
 showA : Addr
 stand : Addr
 find : Addr
 bookInit : Addr
 resting : Addr
 isCalling : Addr
 entriesOf : Addr
 first : Addr
 put : Addr
 takeOut : Addr
 putAnew : Addr
 record : Addr
structure FTxt (K : W.Frag) (mg : Str → Option Value) (a : Ads) (c : Cs) : Prop where
 checkSide : Dn K "check_side" "check_side" zbH a.checkSide ["side"]
 gCheckSide : mg "check_side" = some (.ref a.checkSide)
 checkWay : Dn K "check_way" "check_way" zb3 a.checkWay ["way"]
 gCheckWay : mg "check_way" = some (.ref a.checkWay)
 checkPrice : Dn K "check_price" "check_price" zbu a.checkPrice ["price","way"]
 gCheckPrice : mg "check_price" = some (.ref a.checkPrice)
 checkMany : Dn K "check_many" "check_many" zbI a.checkMany ["many"]
 gCheckMany : mg "check_many" = some (.ref a.checkMany)
 checkShows : Dn K "check_shows" "check_shows" zbt a.checkShows ["shows","many","way"]
 gCheckShows : mg "check_shows" = some (.ref a.checkShows)
 orderInit : Dn K "__init__" "Order.__init__" zcg a.orderInit ["self","owner","side","price","many","shows","way"]
 mkOrder : Mk K c.O a.orderInit
 suits : Dn K "suits" "suits" zgW a.suits ["price","order"]
 gSuits : mg "suits" = some (.ref a.suits)
 numInit : Dn K "__init__" "Numbering.__init__" zdg a.numInit ["self"]
 mkNum : Mk K c.N a.numInit
 admit : Dn K "admit" "Numbering.admit" zgY a.admit ["self","order"]
 mAdmit : Meth K c.N "admit" a.admit
 entInit : Dn K "__init__" "Entry.__init__" zdh a.entInit ["self","order"]
 mkEnt : Mk K c.E a.entInit
 showA : Dn K "show_again" "Entry.show_again" sShow a.showA ["self"]
 mShow : Meth K c.E "show_again" a.showA
 stand : Dn K "stand_at" "Entry.stand_at" zgX a.stand ["self","place"]
 mStand : Meth K c.E "stand_at" a.stand
 find : Dn K "find_rank" "find_rank" sFind a.find ["entries","rank"]
 gFind : mg "find_rank" = some (.ref a.find)
 bookInit : Dn K "__init__" "Book.__init__" zdw a.bookInit ["self"]
 mkBook : Mk K c.B a.bookInit
 resting : Dn K "resting" "Book.resting" zes a.resting ["self","side"]
 mResting : Meth K c.B "resting" a.resting
 isCalling : Dn K "is_calling" "Book.is_calling" zcW a.isCalling ["self"]
 mIsCalling : Meth K c.B "is_calling" a.isCalling
 entriesOf : Dn K "entries_of" "Book.entries_of" zcX a.entriesOf ["self","side"]
 mEntriesOf : Meth K c.B "entries_of" a.entriesOf
 first : Dn K "first" "Book.first" ziC a.first ["self","side"]
 mFirst : Meth K c.B "first" a.first
 put : Dn K "put" "Book.put" sPut a.put ["self","entry"]
 mPut : Meth K c.B "put" a.put
 takeOut : Dn K "take_out" "Book.take_out" zer a.takeOut ["self","entry"]
 mTakeOut : Meth K c.B "take_out" a.takeOut
 putAnew : Dn K "put_anew" "Book.put_anew" zet a.putAnew ["self","entry"]
 mPutAnew : Meth K c.B "put_anew" a.putAnew
 record : Dn K "record_trade" "Book.record_trade" zgn a.record ["self","price","many"]
 mRecord : Meth K c.B "record_trade" a.record
section
variable {P : Program} {w : World} {K : W.Frag} {mg : Str → Option Value} {base : Heap} {bo nt nn be sides ways : Addr} {c : Cs} {a : Ads}
theorem kOrder (T : XTxt K mg bo nt nn be) (O : OTxt K mg sides ways) (C : CTxt K mg c) (F : FTxt K mg a c) : Kp P w K mg base 2 a.orderInit ["self","owner","side","price","many","shows","way"] (zdp bo c):=by
 obtain ⟨fd1,F1,b1⟩:=F.checkSide
 obtain ⟨fd2,F2,b2⟩:=F.checkWay
 obtain ⟨fd3,F3,b3⟩:=F.checkPrice
 obtain ⟨fd4,F4,b4⟩:=F.checkMany
 obtain ⟨fd5,F5,b5⟩:=F.checkShows
 exact F.orderInit.kp fun fd G => ok_order G T O C F1 b1 F.gCheckSide F2 b2 F.gCheckWay F3 b3 F.gCheckPrice F4 b4 F.gCheckMany F5 b5 F.gCheckShows
theorem scIC : FnScope ["self"] ["self"] (zak zcW):=fsc
noncomputable def zgj (c : Cs) : Sp:=fun vs H Q _ => ∃ (g : Ga) (B : Bk),vs = [.ref g.b] ∧ Rep c H g B ∧ Q (.bl B.calling) H
theorem zcl (C : CTxt K mg c) (F : FTxt K mg a c) : Kp P w K mg base 1 a.isCalling ["self"] (zgj c):=F.isCalling.kp fun fd G => by
 refine G.okN scIC (fun vs H Q E h => ?_) (fun cdv A outer s H vs Q E hr h => ?_)
 ·obtain ⟨_,_,rfl,_⟩:=h
  rfl
 ·obtain ⟨g,B,rfl,R,q⟩:=h
  obtain ⟨dx,hb⟩:=R.ob
  exact ⟨_,zaf (zaw (zal (pv 0) rfl)),_,rfl,g.b,c.B,dx,_,_,rfl,hb,C.clB,C.b5,rfl,q⟩
theorem scRc : FnScope ["self","price","many"] ["self","price","many"] (zak zgn):=fsc
theorem Ga.side_val (g : Ga) (b : Bool) : valV ([(Sum.inr "buy",.ref g.lb),(Sum.inr "sell",.ref g.ls)] : List (Key × V)) (Sum.inr (zav b)) = some (.ref (g.at b)):=by
 cases b
 ·rfl
 ·rfl
theorem scFi : FnScope ["self","side","entries"] ["self","side"] (zak ziC):=fsc
noncomputable def zfS (xs : List Ent) : V:=match xs with
 | [] => .non
 | e :: _ => .ref e.ea
noncomputable def spFirst (c : Cs) : Sp:=fun vs H Q _ => ∃ (g : Ga) (B : Bk) (b : Bool),vs = [.ref g.b,.str (zav b)] ∧ Rep c H g B ∧ Q (zfS (B.at b)) H
theorem kFirst (C : CTxt K mg c) (F : FTxt K mg a c) : Kp P w K mg base 1 a.first ["self","side"] (spFirst c):=F.first.kp fun fd G => by
 refine G.okN scFi (fun vs H Q E h => ?_) (fun cdv A outer s H vs Q E hr h => ?_)
 ·obtain ⟨_,_,_,rfl,_⟩:=h
  rfl
 ·obtain ⟨g,B,b,rfl,R,q⟩:=h
  have hu:=zdd hr
  obtain ⟨dx,hb⟩:=R.ob
  have hl:=R.ls b
  refine ⟨_,zac (zap (i:=2) scFi.nd rfl (Or.inl rfl) (zbm hu (zal (pv 0) rfl) (pv 1) (fun _ _ => rfl)))
   (zac (zaJ (zao za3 (zaE zbE (by rfl) C.len (by decide +kernel) (zaa (pv 2) zag)) zah (zat _)) (zaf (zaw zbV)) zau)
   (zaf (zaw (zaB zbe (pv 2) zah (fun _ _ => rfl))))),?_⟩
  refine (rX rfl (rA g.b c.B dx rfl hb C.clB C.b2 rfl (rX rfl ⟨g.ds,.ref (g.at b),rfl,(by have:=DGet.k (H:=H) (k:=Sum.inr (zav b)) R.ds; rw [Ga.side_val] at this; exact this),?_⟩)))
  refine (rX rfl ⟨g.at b,rX rfl ⟨.inl (SqL.of hl),rfl,rX rfl ?_⟩⟩)
  rw [List.length_map]
  cases e : B.at b with
  | nil =>
   rw [e] at q
   exact iteT q
  | cons x r =>
   rw [e] at q hl
   have d : decide (V.int (((x :: r).length : Nat) : Int) = V.int 0) = false:=by
    refine decide_eq_false fun z => ?_
    have : (((x :: r).length : Nat) : Int) = 0:=by injection z
    rw [List.length_cons] at this
    omega
   rw [d]
   exact iteF (rX rfl ⟨g.at b,_,_,.ref x.ea,rfl,rfl,SqL.of hl,zaj (j:=0) rfl,q⟩)
theorem scEO : FnScope ["self","side"] ["self","side"] (zak zcX):=fsc
noncomputable def zgk (c : Cs) : Sp:=fun vs H Q _ => ∃ (g : Ga) (B : Bk) (b : Bool),vs = [.ref g.b,.str (zav b)] ∧ Rep c H g B ∧ ∀ l0 l,H l0 = none → (upd H l0 (.lst [])) l = none → Q (.ref l) (upd (upd H l0 (.lst [])) l (.lst (refs (B.at b))))
theorem zcm (C : CTxt K mg c) (F : FTxt K mg a c) : Kp P w K mg base 1 a.entriesOf ["self","side"] (zgk c):=F.entriesOf.kp fun fd G => by
 refine G.okN scEO (fun vs H Q E h => ?_) (fun cdv A outer s H vs Q E hr h => ?_)
 ·obtain ⟨_,_,_,rfl,_⟩:=h
  rfl
 ·obtain ⟨g,B,b,rfl,R,q⟩:=h
  have hu:=zdd hr
  obtain ⟨dx,hb⟩:=R.ob
  have hl:=R.ls b
  refine ⟨_,zaf (zaw (zb5 zf7 (by rfl) C.list (by decide +kernel) (zaa (zdj hu (zal (pv 0) rfl) (pv 1) (zbg zag) ⟨rfl,rfl,rfl,rfl⟩) zag))),?_⟩
  refine (rX rfl (rA g.b c.B dx rfl hb C.clB C.b2 rfl ⟨g.ds,rfl,.inl ⟨_,.inl R.ds⟩,rX rfl ⟨(by rw [sizeLine_eq]; show 0 ≤ 16777216; decide),fun l0 h0 => ⟨some (.ref (g.at b)),?_,?_⟩⟩⟩))
  ·have:=DGet.k (H:=upd H l0 (.lst [])) (k:=Sum.inr (zav b)) (by rw [zad (zae R.ds h0)]; exact R.ds)
   rw [Ga.side_val] at this
   exact this
  ·exact ⟨g.at b,_,rfl,.inl (SqL.of (by rw [zad (zae hl h0)]; exact hl)),fun l h1 => q l0 l h0 h1⟩
end
end Fb
namespace L2
open PySem PySem.Spec PyProof.Rows
theorem zjX {K : W.Frag} {n : Nat} {a : Addr} {xs : List V} {g : TG} {tc : TT} {te : TE} {Q : VK} {H : Hp} (f : V → Option V) (hS : SqL K H a xs) (hl : xs.length ≤ sizeLine)
  (hs : ∀ (i : Nat) (x : V),xs[i]? = some x → ∀ (R1 : V → Hp → Prop) (R0 : Hp → Prop),(∀ y,f x = some y → R1 y H) → (f x = none → R0 H) → g x (List.replicate n none) H fun σ2 H2 => tc σ2 H2 fun b H3 => if b = true then te σ2 H3 R1 else R0 H3)
  (hq : ∀ p,H p = none → Q (.ref p) (upd H p (.lst (xs.filterMap f)))) :
  ∃ W : Nat → Nat → List V → Hp → Prop,(∃ m,W 0 m [] H) ∧ ∀ i m ys H,W i m ys H → ys.length ≤ sizeLine ∧
   (((Itl K a).stop i H ∧ ∀ p,H p = none → Q (.ref p) (upd H p (.lst ys))) ∨
    ((Itl K a).go i H ∧ ∀ x H',(Itl K a).yld i H x H' → g x (List.replicate n none) H' fun σ2 H2 => tc σ2 H2 fun b H3 => if b = true then te σ2 H3 fun y H4 => ∃ m',m' < m ∧ W (i + 1) m' (ys ++ [y]) H4 else ∃ m',m' < m ∧ W (i + 1) m' ys H3)):=by
 refine ⟨fun i m ys H' => H' = H ∧ i ≤ xs.length ∧ m = xs.length - i ∧ ys = (xs.take i).filterMap f,(rX rfl ⟨Nat.zero_le _,rfl,by simp⟩),?_⟩
 rintro i m ys H' ⟨rfl,hi,rfl,rfl⟩
 refine ⟨Nat.le_trans (List.length_filterMap_le _ _) (Nat.le_trans (by rw [List.length_take]; omega) hl),?_⟩
 by_cases hlt : i < xs.length
 ·refine .inr ⟨⟨xs,xs[i],hS,by simp [hlt]⟩,fun x H'' hy => ?_⟩
  obtain ⟨e,hx⟩:=hy
  subst e
  have hx:=hx xs hS
  have tk : xs.take (i + 1) = xs.take i ++ [x]:=by
   rw [List.take_add_one,hx]
   rfl
  refine hs i x hx _ _ (fun y hy => ⟨xs.length - (i + 1),by omega,rfl,hlt,rfl,?_⟩) (fun hn => ⟨xs.length - (i + 1),by omega,rfl,hlt,rfl,?_⟩)
  ·rw [tk,List.filterMap_append]
   simp [hy]
  ·rw [tk,List.filterMap_append]
   simp [hn]
 ·have e : i = xs.length:=by omega
  subst e
  refine .inl ⟨⟨xs,hS,Nat.le_refl _⟩,fun p hp => ?_⟩
  rw [List.take_length]
  exact hq p hp
end L2
namespace Fb
open PySem L2
section
variable {P : Program} {w : World} {K : W.Frag} {mg : Str → Option Value} {base : Heap} {bo nt nn be sides ways : Addr} {c : Cs} {a : Ads}
theorem Same.rep {H H' : Hp} {g : Ga} {B : Bk} (s : Same H H') (R : Rep c H g B) : Rep c H' g B:=by
 obtain ⟨⟨d1,h1⟩,⟨d2,h2⟩,h3,h4,h5,h6,⟨kvs,h7,h8⟩,h9⟩:=R
 refine ⟨⟨d1,s _ _ h1⟩,⟨d2,s _ _ h2⟩,s _ _ h3,fun b => s _ _ (h4 b),h5,h6,⟨kvs,s _ _ h7,h8⟩,fun b e he => ?_⟩
 obtain ⟨⟨dx,en⟩,⟨dy,od⟩,rk⟩:=h9 b e he
 exact ⟨⟨dx,s _ _ en⟩,⟨dy,s _ _ od⟩,s _ _ rk⟩
theorem zai {H : Hp} {a : Addr} {o : HO} (h : H a = none) : Same H (upd H a o):=fun b u e => by
 rw [zad (zae e h)]
 exact e
noncomputable abbrev zeP (xs : List Ent) : List V:=xs.map fun e => .int e.num
theorem scRe : FnScope ["self","side"] ["self","side"] (zak zes):=fsc
noncomputable def zfl (c : Cs) : Sp:=fun vs H Q _ => ∃ (g : Ga) (B : Bk) (b : Bool),vs = [.ref g.b,.str (zav b)] ∧ Rep c H g B ∧ (B.at b).length ≤ 1000 ∧ ∀ l H',Same H H' → H l = none → H' l = some (.lst (zeP (B.at b))) → Q (.ref l) H'
theorem zhk (C : CTxt K mg c) (F : FTxt K mg a c) : Kp P w K mg base 2 a.resting ["self","side"] (zfl c):=F.resting.kp fun fd G => by
 obtain ⟨fd1,G1,b1,k1⟩:=zcm (P:=P) (w:=w) (base:=base) C F
 refine G.okN scRe (fun vs H Q E h => ?_) (fun cdv A outer s H vs Q E hr h => ?_)
 ·obtain ⟨_,_,_,rfl,_⟩:=h
  rfl
 ·obtain ⟨g,B,b,rfl,R,hlen,q⟩:=h
  obtain ⟨dx,hb⟩:=R.ob
  refine ⟨_,zaf (zaw (zch (own:=["entry"]) (caps:=[]) (g:=zbF 0) (tc:=tYes) (te:=tFld K (tFld K (tVar 0) "order") "number") rfl (by decide +kernel) (fun p hp => absurd hp (by simp)) (by decide +kernel) rfl (by decide +kernel) (zbx (zaK (pv 0) C.clB F.mEntriesOf G1 hr b1 .nil zaq (zaa (pv 1) zag)))
   (fun _ _ _ _ _ => zbc (i:=0) (show (["entry"] : List Str).Nodup by decide +kernel) rfl (Or.inl (lookup_relabel_local rfl)) (Or.inr (lookup_relabel_local rfl))) (fun _ _ _ _ _ => zc8) (fun _ _ _ _ _ => zal (zal (pv 0 rfl (.inl (lookup_relabel_local rfl))) rfl) rfl))),?_⟩
  refine ⟨[],rfl,fun j p hp => absurd hp (by simp),_,rfl,g.b,dx,_,rfl,hb,rfl,_,rfl,g,B,b,rfl,R,fun l0 l h0 h1 => ⟨l,rfl,⟨_,SqL.of zab⟩,?_⟩⟩
  have s2 : Same H (upd (upd H l0 (.lst [])) l (.lst (refs (B.at b)))):=(zai h0).trans (zai h1)
  have R2:=Same.rep s2 R
  have ln : H l = none:=(zai (o:=.lst []) h0).free h1
  refine zjX (n:=1) (fun v => (B.at b).findSome? fun e => if v = .ref e.ea then some (.int e.num) else none) (SqL.of zab) (by rw [List.length_map,sizeLine_eq]; omega) (fun i x hx R1 R0 y1 y0 => ?_) (fun p hp => ?_)
  ·rw [List.getElem?_map] at hx
   cases ex : (B.at b)[i]? with
   | none =>
    rw [ex] at hx
    cases hx
   | some e =>
    rw [ex] at hx
    obtain rfl : V.ref e.ea = x:=Option.some.inj hx
    have me:=List.mem_of_getElem? ex
    have ek:=R2.en b e me
    obtain ⟨de,he⟩:=ek.en
    obtain ⟨do',ho⟩:=ek.od
    show tFld K (tFld K (tVar 0) "order") "number" _ _ R1
    refine (rX rfl (rA e.ea c.E de rfl he C.clE C.e1 rfl (rA e.oa c.O do' rfl ho C.clO C.o7 rfl (y1 _ ?_))))
    have : ∀ xs : List Ent,(∀ z ∈ xs,EntOk c _ z) → e ∈ xs → (xs.findSome? fun z => if V.ref e.ea = .ref z.ea then some (V.int z.num) else none) = some (V.int e.num):=fun xs => by
     induction xs with
     | nil => intro _ h; simp at h
     | cons z r ih =>
      intro hz hm
      rw [List.findSome?_cons]
      by_cases hh : V.ref e.ea = V.ref z.ea
      ·rw [if_pos hh]
       have : e.num = z.num:=EntOk.ea_num ek (hz z List.mem_cons_self) (by injection hh)
       rw [this]
      ·rw [if_neg hh]
       refine ih (fun y hy => hz y (List.mem_cons_of_mem _ hy)) ?_
       rcases List.mem_cons.mp hm with rfl | hm
       ·exact absurd rfl hh
       ·exact hm
    exact this (B.at b) (fun z hz => R2.en b z hz) me
  ·refine q p _ (s2.trans (zai hp)) (s2.free hp) ?_
   rw [zab]
   have : (refs (B.at b)).filterMap (fun v => (B.at b).findSome? fun e => if v = .ref e.ea then some (.int e.num) else none) = zeP (B.at b):=by
    have gen : ∀ xs ys : List Ent,(∀ z ∈ xs,z ∈ ys) → (∀ z ∈ ys,EntOk c (upd (upd H l0 (.lst [])) l (.lst (refs (B.at b)))) z) → (refs xs).filterMap (fun v => ys.findSome? fun e => if v = .ref e.ea then some (V.int e.num) else none) = zeP xs:=by
     intro xs ys
     induction xs with
     | nil => intros; rfl
     | cons e r ih =>
      intro hsub hk
      have me:=hsub e List.mem_cons_self
      have fs : ∀ zs : List Ent,(∀ z ∈ zs,z ∈ ys) → e ∈ zs → (zs.findSome? fun z => if V.ref e.ea = .ref z.ea then some (V.int z.num) else none) = some (V.int e.num):=fun zs => by
       induction zs with
       | nil => intro _ h; simp at h
       | cons z r ih2 =>
        intro hz hm
        rw [List.findSome?_cons]
        by_cases hh : V.ref e.ea = V.ref z.ea
        ·rw [if_pos hh]
         have : e.num = z.num:=EntOk.ea_num (hk e me) (hk z (hz z List.mem_cons_self)) (by injection hh)
         rw [this]
        ·rw [if_neg hh]
         refine ih2 (fun y hy => hz y (List.mem_cons_of_mem _ hy)) ?_
         rcases List.mem_cons.mp hm with rfl | hm
         ·exact absurd rfl hh
         ·exact hm
      show List.filterMap _ (V.ref e.ea :: refs r) = V.int e.num :: zeP r
      rw [List.filterMap_cons,fs ys (fun _ h => h) me]
      show V.int e.num :: _ = _
      rw [ih (fun z hz => hsub z (List.mem_cons_of_mem _ hz)) hk]
    exact gen _ _ (fun _ h => h) fun z hz => R2.en b z hz
   rw [this]
end
end Fb
namespace Fb
open PySem L2
section
variable {P : Program} {w : World} {K : W.Frag} {mg : Str → Option Value} {base : Heap} {bo nt nn be sides ways : Addr} {c : Cs} {a : Ads}
theorem scPu : FnScope ["self","entry","entries"] ["self","entry"] (zak sPut):=fsc
noncomputable def spPut (c : Cs) : Sp:=fun vs H Q _ => ∃ (g : Ga) (B : Bk) (e : Ent) (dx dy : Addr) (sh : Int) (rk : V),vs = [.ref g.b,.ref e.ea] ∧ Rep c H g B ∧ (∀ b,zbA (B.at b)) ∧ (B.buys.length + B.sells.length ≤ 500) ∧
 H e.ea = some (.ins c.E dx (entF e.oa e.left sh rk)) ∧ H e.oa = some (.ins c.O dy (ordF e.owner (zav e.buy) (some e.price) e.many e.shows "rest" (.int e.num))) ∧ (∀ b,∀ x ∈ B.at b,x.num ≠ e.num) ∧
 ∀ r H',Rep c H' g (B.put e r) → (∀ a o,H a = some o → ¬ Foot g B a → a ≠ e.ea → H' a = some o) → Q .non H'
theorem zda (B : Bk) (b : Bool) : (B.at b).length ≤ B.buys.length + B.sells.length:=by
 unfold Bk.at
 cases b <;> simp
theorem kPut (C : CTxt K mg c) (F : FTxt K mg a c) : Kp P w K mg base 2 a.put ["self","entry"] (spPut c):=F.put.kp fun fd G => by
 obtain ⟨fd1,G1,b1,k1⟩ : Kp P w K mg base 1 a.stand ["self","place"] (zik c):=F.stand.kp fun fd G => ok_stand G C
 obtain ⟨fd2,G2,b2,k2⟩ : Kp P w K mg base 1 a.showA ["self"] (zil c):=F.showA.kp fun fd G => ziZ G C
 obtain ⟨fd3,G3,b3,k3⟩ : Kp P w K mg base 1 a.find ["entries","rank"] (zio c):=F.find.kp fun fd G => zi0 G C
 refine G.okN scPu (fun vs H Q E h => ?_) (fun cdv A outer s H vs Q E hr h => ?_)
 ·obtain ⟨_,_,_,_,_,_,_,rfl,_⟩:=h
  rfl
 ·obtain ⟨g,B,e,dx,dy,sh,rk,rfl,R,so,hlen,hen,hod,hn,q⟩:=h
  have hu:=zdd hr
  obtain ⟨dxb,hb⟩:=id R.ob
  obtain ⟨kvs,hkv,hnd,hkl,hv1,hv2⟩:=id R.de
  have hl:=R.ls e.buy
  refine ⟨_,zac (zaG (zaK (pv 1) C.clE F.mStand G1 hr b1 .nil zaq (zaa (zal (pv 0) rfl) zag)))
   (zac (zaG (zbC (pv 1) C.clE F.mShow G2 hr b2 .nil zaq))
   (zac (zbw (pv 0) zah zjx)
   (zac (zap (i:=2) scPu.nd rfl (Or.inl rfl) (zbm hu (zal (pv 0) rfl) (zal (zal (pv 1) rfl) rfl) (fun _ _ => rfl)))
   (zac (zaG (zgx PySem.F.plainAttrs_list PySem.F.slot_list_insert PySem.F.type_list_insert zi6 (pv 2) (zaa (zas G3 hr rfl F.gFind k3 b3 .nil zaq (zaa (pv 2) (zaa (zal (pv 1) rfl) zag))) (zaa (pv 1) zag))))
   (zaf (zdA hu (zal (pv 0) rfl) (zal (zal (pv 1) rfl) rfl) (pv 1) rfl)))))),?_⟩
  have be : g.b ≠ e.ea:=zan 3 1 hb hen
  refine (rX rfl ⟨e.ea,dx,rX rfl ⟨hen,rfl,rX rfl (rA g.b c.B dxb rfl hb C.clB C.b4 rfl ⟨e.ea,dx,e.oa,dy,B.places,e.left,sh,rk,e.owner,e.buy,e.price,e.many,e.shows,"rest",.int e.num,rfl,hen,hod,fun r hrn => ?_⟩)⟩⟩)
  have fr : ∀ {x : Addr} {o : HO},H x = some o → x ≠ r:=fun h => zae h hrn
  have oe : e.oa ≠ e.ea:=zan 2 1 hod hen
  have hod1 : ∀ u v,upd (upd H r u) e.ea v e.oa = some (.ins c.O dy (ordF e.owner (zav e.buy) (some e.price) e.many e.shows "rest" (.int e.num))):=fun u v => by rw [zad oe,zad (fr hod)]; exact hod
  refine (rX rfl ⟨e.ea,dx,rX rfl ⟨zab,rfl,e.ea,dx,e.oa,dy,e.left,sh,.ref r,e.owner,zav e.buy,some e.price,e.many,e.shows,"rest",.int e.num,rfl,zab,hod1 _ _,?_⟩⟩)
  rw [zaR]
  have hb1 : ∀ u v,upd (upd H r u) e.ea v g.b = some (.ins c.B dxb (zd2 g.nb g.ds g.de B.places B.calling B.last B.vol)):=fun u v => by rw [zad be,zad (fr hb)]; exact hb
  refine ⟨_,rfl,g.b,c.B,dxb,_,_,rfl,hb1 _ _,C.clB,C.b4,rfl,_,_,rfl,rfl,dxb,_,hb1 _ _,(by show 7 < 1000; decide),?_⟩
  have db : g.ds ≠ g.b:=zan 6 3 R.ds hb
  have dE : g.ds ≠ e.ea:=zan 6 1 R.ds hen
  have ob : e.oa ≠ g.b:=zan 2 3 hod hb
  have hds : ∀ u v z,upd (upd (upd H r u) e.ea v) g.b z g.ds = some (.dK [(Sum.inr "buy",.ref g.lb),(Sum.inr "sell",.ref g.ls)]):=fun u v z => by rw [zad db,zad dE,zad (fr R.ds)]; exact R.ds
  have hen2 : ∀ u v z,upd (upd (upd H r u) e.ea v) g.b z e.ea = some v:=fun u v z => by rw [zad be.symm,zab]
  have hod2 : ∀ u v z,upd (upd (upd H r u) e.ea v) g.b z e.oa = some (.ins c.O dy (ordF e.owner (zav e.buy) (some e.price) e.many e.shows "rest" (.int e.num))):=fun u v z => by rw [zad ob]; exact hod1 u v
  refine (rX rfl (rA g.b c.B dxb rfl zab C.clB C.b2 rfl (rX rfl (rA e.ea c.E dx rfl (hen2 _ _ _) C.clE C.e1 rfl (rA e.oa c.O dy rfl (hod2 _ _ _) C.clO C.o2 rfl ⟨g.ds,.ref (g.at e.buy),rfl,?_,?_⟩)))))
  ·have:=DGet.k (k:=Sum.inr (zav e.buy)) (hds (.tup [.int e.k1,.int B.places]) (.ins c.E dx (entF e.oa e.left (zaS e.shows e.left) (.ref r))) (.ins c.B dxb (zd2 g.nb g.ds g.de (B.places + 1) B.calling B.last B.vol)))
   rw [Ga.side_val] at this
   exact this
  have lb : g.at e.buy ≠ g.b:=zan 5 3 hl hb
  have lE : g.at e.buy ≠ e.ea:=zan 5 1 hl hen
  have hl2 : ∀ u v z,upd (upd (upd H r u) e.ea v) g.b z (g.at e.buy) = some (.lst (refs (B.at e.buy))):=fun u v z => by rw [zad lb,zad lE,zad (fr hl)]; exact hl
  have rb : r ≠ g.b:=(fr hb).symm
  have rE : r ≠ e.ea:=(fr hen).symm
  refine (rX rfl ⟨.inl ⟨rfl,_,SqL.of (hl2 _ _ _)⟩,rX rfl (rX rfl (rA e.ea c.E dx rfl (hen2 _ _ _) C.clE C.e4 rfl ?_))⟩)
  refine ⟨g.at e.buy,r,B.at e.buy,e.k1,B.places,zbp { e with ra:=r,place:=B.places,shown:=zaS e.shows e.left } (B.at e.buy),rfl,hl2 _ _ _,?_,fun x hx => ?_,Nat.le_trans (zda B e.buy) (by omega),zdi _ _,fun i x hx => zc0 { e with ra:=r,place:=B.places,shown:=zaS e.shows e.left } (so e.buy) i x hx,?_⟩
  ·rw [zad rb,zad rE,zab]
   rfl
  ·have k:=R.en _ x hx
   obtain ⟨⟨dz,xe⟩,⟨dw,xo⟩,xr⟩:=id k
   have xne : x.ea ≠ e.ea:=fun z => hn _ x hx (zjK k hen hod z)
   refine ⟨⟨dz,?_⟩,⟨dw,?_⟩,?_⟩
   ·rw [zad (zan 1 3 xe hb),zad xne,zad (fr xe)]
    exact xe
   ·rw [zad (zan 2 3 xo hb),zad (zan 2 1 xo hen),zad (fr xo)]
    exact xo
   ·rw [zad (zan 7 3 xr hb),zad (zan 7 1 xr hen),zad (fr xr)]
    exact xr
  refine (rX rfl ⟨g.at e.buy,refs (B.at e.buy),_,zbp { e with ra:=r,place:=B.places,shown:=zaS e.shows e.left } (B.at e.buy),.ref e.ea,rfl,rfl,rfl,hl2 _ _ _,by rw [List.length_map]; exact zdi _ _,by rw [List.length_map,sizeLine_eq]; have:=zda B e.buy; omega,?_⟩)
  have lo : g.at e.buy ≠ e.oa:=zan 5 2 hl hod
  have dl : g.de ≠ g.at e.buy:=zan 6 5 hkv hl
  have dB : g.de ≠ g.b:=zan 6 3 hkv hb
  have dE2 : g.de ≠ e.ea:=zan 6 1 hkv hen
  refine ⟨_,rfl,_,rfl,g.b,c.B,dxb,_,_,rfl,(by rw [zad lb.symm,zab]),C.clB,C.b3,rfl,_,rfl,e.ea,c.E,dx,_,_,rfl,(by rw [zad lE.symm]; exact hen2 _ _ _),C.clE,C.e1,rfl,e.oa,c.O,dy,_,_,rfl,(by rw [zad lo.symm]; exact hod2 _ _ _),C.clO,C.o7,rfl,g.de,_,rfl,
   DPut.k (k:=Sum.inl e.num) (kvs:=kvs) (by rw [zad dl,zad dB,zad dE2,zad (fr hkv)]; exact hkv) (by rw [hkl,sizeLine_eq]; omega),?_⟩
  obtain ⟨R',F'⟩:=rep_put (dx:=dx) (dxb:=dxb) R hen hod hn hrn hb hkv hnd hkl hv1 hv2
  exact q r _ R' F'
end
end Fb
namespace Fb
open PySem L2
open PyProof.Rows (KTD.TextTab)
noncomputable def zha : List (Str × PyProof.Rows.KTD.Dat):=[("buy",.flat (.str "sell")),("sell",.flat (.str "buy"))]
noncomputable def rOther (d : Addr) : R2:=fun x y H Q => x = .ref d ∧ ∃ b : Bool,y = .str (zav b) ∧ Q (.str (zav (!b))) H
theorem ix_other {X : Cx} {d : Addr} (hT : PyProof.Rows.KTD.TextTab X.base d zha) : IxR X (rOther d):=by
 intro value slice pins s σ H x y v u Q I rx ry h hs
 obtain ⟨rfl,b,rfl,q⟩:=h
 cases rx
 obtain ⟨t,rfl⟩:=ry
 cases b with
 | true => exact PyProof.Rows.KTD.item_textA ⟨hT,I.bk⟩ rfl (by decide +kernel) (show ∀ t',EP X pins σ Q (.str "sell" t') { s with toks:=s.toks + 1 } from fun t' => ⟨.str "sell",H,I.tok _,⟨t',rfl⟩,q⟩) hs
 | false => exact PyProof.Rows.KTD.item_textA ⟨hT,I.bk⟩ rfl (by decide +kernel) (show _ = _ → ∀ t',EP X pins σ Q (.str "buy" t') { s with toks:=s.toks + 1 } from fun _ t' => ⟨.str "buy",H,I.tok _,⟨t',rfl⟩,q⟩) hs
end Fb
namespace L2
open PySem PySem.Spec PyProof.Rows
section
variable {prog : Program} {w : World} {A : Around} {E : Value → Shared → Prop} {h : Heap} {g : Array GenState} {d : Drawn} {t : Nat} {os : OsState} {K : W.Frag} {a C : Addr} {o : Obj}
structure XLook (K : W.Frag) (C : Addr) : Prop where
 ga : W.findIn K (.ref C) "__getattribute__" = some (some (.builtin "BaseException.__getattribute__"))
 gt : W.findIn K (.ref C) "__getattr__" = some none
 cl : W.findIn K (.ref C) "__class__" = some (some (.builtin "object.__class__"))
 be : W.mroIn K C (.type "BaseException") = some true
 ob : W.mroIn K C (.type "object") = some true
theorem xc_get {R : Result → Shared → Prop} (X : K.In h) (x : XLook K C) (hx : h.get? a = some o) (hc : o.cls = .ref C) (hq : R (.ok (.ret (.ref C))) ⟨h,g,d,t,os⟩) :
  codeAny (model prog w) A (.call (.builtin "getset_descriptor.__get__") ⟨[.builtin "object.__class__",.ref a,.ref C],[]⟩) R ⟨h,g,d,t,os⟩:=by
 have own : Shared.TypeIs ⟨h,g,d,t,os⟩ (.builtin "object.__class__") "getset_descriptor":=F.typeOf_object_class
 have LO : W.Looks (model prog w) h (isSubtype (.ref C) (.type (".".intercalate ("object.__class__".cutAt '.').dropLast))) true:=by
  rw [F.owner_object_class]
  exact W.looks_mroIn X x.ob
 have look:=F.slot_gs_get
 refine codeAny_call_builtin look.plain F.entry_gs_get (look.check _ _ _ _ _ _ _ _ own (F.args_gs_get _ _ _) ?_)
 repeat (any_goals (first | assumption | (with_reducible refine wpAny_loadPart_at hx ?_; rw [hc]) | with_reducible refine LO.at ?_ | wp_step))
 refine And.intro (Code.quiet_builtin _ (by decide +kernel)) (codeAny_builtin F.entry_object_class ?_)
 repeat (any_goals (first | assumption | (with_reducible refine wpAny_loadPart_at hx ?_; rw [hc]) | wp_step))
theorem xc_entry {tk : Tok} {Q : Fin → Shared → Prop} (X : K.In h) (x : XLook K C) (hx : h.get? a = some o) (hc : o.cls = .ref C) (hq : Q (.done (.ret (.ref C))) ⟨h,g,d,t,os⟩) : wpAny (model prog w) A (Builtin.«object.__getattribute__» ⟨[.ref a,.str "__class__" tk],[]⟩) Q E ⟨h,g,d,t,os⟩:=by
 have LC:=W.looks_findIn (M:=model prog w) X x.cl
 obtain ⟨own,ty,rd,wr⟩:=And.intro (show Shared.TypeIs ⟨h,g,d,t,os⟩ (.builtin "object.__class__") "getset_descriptor" from F.typeOf_object_class) (And.intro F.typeOf_object_class (And.intro F.slot_gs_get.lookup F.slot_gs_set.lookup))
 repeat (any_goals (first | assumption | (with_reducible refine wpAny_loadPart_at hx ?_; rw [hc]) | with_reducible refine LC.at ?_ | wp_step))
 refine xc_get X x hx hc ?_
 repeat (any_goals (first | with_reducible assumption | wp_step))
theorem xc_check {nv : Value} {Q : Unit → Shared → Prop} (X : K.In h) (x : XLook K C) (hx : h.get? a = some o) (hc : o.cls = .ref C) (hq : Q () ⟨h,g,d,t,os⟩) :
  wpAny (model prog w) A (checkBuiltinCall "BaseException.__getattribute__" ⟨[.ref a,nv],[]⟩) Q E ⟨h,g,d,t,os⟩:=by
 have LB:=W.looks_mroIn (M:=model prog w) X x.be
 have kk : builtinKind "BaseException.__getattribute__" = some .slot:=(by decide +kernel)
 have ks : splitId "BaseException.__getattribute__" = some ("BaseException","__getattribute__"):=(by decide +kernel)
 have ha:=F.args_bexc_ga (.ref a) nv
 simp only [checkBuiltinCall,kk,ks]
 refine wpAny_bind ?_
 unfold isInstance
 repeat (first | (with_reducible refine wpAny_loadPart_at hx ?_; rw [hc]) | with_reducible refine LB.at ?_ | wp_step)
 exact hq
theorem xc_call {tk : Tok} {R : Result → Shared → Prop} (X : K.In h) (x : XLook K C) (hx : h.get? a = some o) (hc : o.cls = .ref C) (hq : R (.ok (.ret (.ref C))) ⟨h,g,d,t,os⟩) :
  codeAny (model prog w) A (.call (.builtin "BaseException.__getattribute__") ⟨[.ref a,.str "__class__" tk],[]⟩) R ⟨h,g,d,t,os⟩ :=
 codeAny_call_builtin PySem.F.attr_ValueError.ga.plain F.entry_bexc_ga (xc_check X x hx hc (xc_entry X x hx hc hq))
theorem xc_by {tk : Tok} {fill expr : Bool} {Q : Value → Shared → Prop} (X : K.In h) (x : XLook K C) (hx : h.get? a = some o) (hc : o.cls = .ref C) (hq : Q (.ref C) ⟨h,g,d,t,os⟩) :
  wpAny (model prog w) A (getAttrBy (.ref a) (.str "__class__" tk) fill expr) Q E ⟨h,g,d,t,os⟩:=by
 have LG:=W.looks_findIn (M:=model prog w) X x.ga
 have LT:=W.looks_findIn (M:=model prog w) X x.gt
 have f3:=PySem.F.attr_ValueError.ga.bind (.ref a)
 have off : (expr && onTheHeap (.builtin "BaseException.__getattribute__")) = false:=Bool.and_false expr
 have apart : (onTheHeap (Value.ref C) && Value.builtin "BaseException.__getattribute__" == Value.builtin "object.__getattribute__") = false:=by
  rw [show (Value.builtin "BaseException.__getattribute__" == Value.builtin "object.__getattribute__") = false by decide +kernel,Bool.and_false]
 have apart2:=show (Value.builtin "BaseException.__getattribute__" == Value.builtin "object.__getattribute__") = false by decide +kernel
 repeat (any_goals (first | assumption | (with_reducible refine wpAny_loadPart_at hx ?_; rw [hc]) | with_reducible refine LG.at ?_ | with_reducible refine LT.at ?_ | wp_step))
 refine xc_call X x hx hc ?_
 repeat (any_goals (first | with_reducible assumption | wp_step))
theorem xc_attr {Q : Option Value → Shared → Prop} (X : K.In h) (x : XLook K C) (hx : h.get? a = some o) (hc : o.cls = .ref C) (hq : Q (some (.ref C)) ⟨h,g,d,t + 1,os⟩) : wpAny (model prog w) A (getAttr? (.ref a) "__class__") Q E ⟨h,g,d,t,os⟩:=by
 unfold getAttr? getAttrBy?
 repeat (any_goals (first | assumption | with_reducible apply xc_by X x hx hc | wp_step))
end
noncomputable def XAt (a C : Addr) (h : Heap) : Prop:=∃ o,h.get? a = some o ∧ o.cls = .ref C
theorem kitx_exc {K : W.Frag} {a C : Addr} (hC : XCl K C) (x : XLook K C) : W.KitX K (.ref a) (.ref C) (XAt a C):=by
 obtain ⟨bm,N,nm,qn,bs,hdct,sn,sub,ab,col,dd,k0,k1,k2,k3,k5,lC,tC,_,_⟩:=xobj hC
 refine ⟨fun M h X p => ?_,fun M h X p => ?_,fun h tp dd its n sl X htp => ?_,fun {prog w A E Q s} X p q => ?_⟩
 ·obtain ⟨o,h1,h2⟩:=p
  exact h2 ▸ (W.Looks.ld h1).andThen .now
 ·intro A' Q' E' s' k q
  unfold isType loadHead
  exact wpAny_bind (wpAny_loadPart (k _ _ (X _ _ lC)) (wpAny_pure q))
 ·refine Bool.eq_false_iff.mpr fun q => ?_
  have e : C = tp:=Value.ref.inj (beq_iff_eq.mp q)
  subst e
  have z2 : Value.type "type" = Value.type "tuple":=congrArg (fun o : Option Obj => match o with | some o => o.cls | none => .none) ((X _ _ lC).symm.trans htp)
  exact absurd z2 (by decide)
 ·obtain ⟨hh,gg,dd',tt,oss⟩:=s
  obtain ⟨o,h1,h2⟩:=p
  exact xc_attr X x h1 h2 q
noncomputable def cV : V → Value
 | .ty n => .type n
 | .ref a => .ref a
 | _ => .none
section
variable {X : Cx}
theorem za5 : zce X (.builtin "isinstance") (fun xs H Q => ∃ x c k,xs = [x,c] ∧ (RelV c (cV c)) ∧
  ((∃ t,TyOf X.K H x t ∧ W.kitOne X.K t (cV c) = some k) ∨ ∃ a C,x = .ref a ∧ H a = some (excO a C) ∧ XCl X.K C ∧ XLook X.K C ∧ W.kitOne X.K (.ref C) (cV c) = some k) ∧ Q (.bl k) H):=by
 intro pins s σ H xs us Q I r h
 obtain ⟨x,c,k,rfl,hc,h,q⟩:=h
 obtain ⟨u,u2,rfl,rx,rc⟩:=vals2 r
 have ec : u2 = cV c:=by
  cases c with
  | ty n => cases rc; rfl
  | ref a => cases rc; rfl
  | non => cases rc; rfl
  | bl b => cases hc
  | int i => obtain ⟨_,z⟩:=hc; cases z
  | str z => obtain ⟨_,z⟩:=hc; cases z
  | byt z => obtain ⟨_,z⟩:=hc; cases z
  | flt z => obtain ⟨_,z⟩:=hc; cases z
 subst ec
 rcases h with ⟨t,ty,e⟩ | ⟨a,C,rfl,ha,xC,xL,e⟩
 ·exact zjs I rx ty e fun tk => ⟨.bl k,H,I.tok _,rfl,q⟩
 ·cases rx
  obtain ⟨⟨o,vs,h1,h2,_⟩,_⟩:=I.hok a _ ha
  exact W.kia_one (kitx_exc xC xL) I.kIn ⟨o,h1,h2⟩ e (fun z => nomatch z) fun tk => ⟨.bl k,H,I.tok _,rfl,q⟩
end
end L2
namespace Fb
open PySem L2
theorem zaD {k : Bool} {A B : Prop} (h : k = true) (x : A) : if k = true then A else B:=by
 rw [if_pos h]
 exact x
theorem zar {k : Bool} {A B : Prop} (h : k = false) (x : B) : if k = true then A else B:=by
 rw [if_neg (by rw [h]; exact Bool.false_ne_true)]
 exact x
section
variable {P : Program} {w : World} {K : W.Frag} {mg : Str → Option Value} {base : Heap} {bo nt nn be sides ways : Addr} {c : Cs} {a : Ads}
noncomputable def B0 : Bk:=⟨[],[],0,0,false,none,0⟩
theorem merge2 (x y : V) : zdH [] [(Sum.inr "buy",x),(Sum.inr "sell",y)] = ([(Sum.inr "buy",x),(Sum.inr "sell",y)] : List (Key × V)):=by rfl
theorem scBI : FnScope ["self"] ["self"] (zak zdw):=fsc
noncomputable def zhF (c : Cs) : Sp:=fun vs H Q _ => ∃ (p dx : Addr),vs = [.ref p] ∧ H p = some (.ins c.B dx []) ∧ ∀ (g : Ga) (H' : Hp),g.b = p → Rep c H' g B0 → (∀ x o,H x = some o → x ≠ p → H' x = some o) →
 (∀ x,Foot g B0 x → x = p ∨ H x = none) → Q .non H'
theorem zjp (C : CTxt K mg c) (F : FTxt K mg a c) : Kp P w K mg base 3 a.bookInit ["self"] (zhF c):=F.bookInit.kp fun fd G => by
 obtain ⟨fd1,G1,b1,k1⟩ : Kp P w K mg base 1 a.numInit ["self"] (zfm c):=F.numInit.kp fun fd G => ok_num G C
 refine G.okN scBI (fun vs H Q E h => ?_) (fun cdv A outer s H vs Q E hr h => ?_)
 ·obtain ⟨_,_,rfl,_⟩:=h
  rfl
 ·obtain ⟨p,dx,rfl,hp,q⟩:=h
  refine ⟨_,zac (zaP (pv 0) (zg7 F.mkNum G1 hr rfl C.mgN b1 .nil zaq) rfl)
   (zac (zaP (pv 0) (ziT (zbP zam (zbg zag) (zbP zam (zbg zag) ziK)) rfl rfl (by simp) (by decide)) rfl)
   (zac (zaP (pv 0) zeL rfl)
   (zac (zaP (pv 0) zah rfl) (zac (zaP (pv 0) zcu rfl) (zac (zaP (pv 0) zbV rfl) (zaf (zaP (pv 0) zah rfl))))))),?_⟩
  have z0 : ([] : List V).length ≤ sizeLine:=by rw [sizeLine_eq]; decide
  intro nb dn hnb hdn hne
  have pnb : p ≠ nb:=zae hp hnb
  have pdn : p ≠ dn:=zae hp hdn
  refine ⟨nb,dn,rfl,zab,rfl,_,rfl,p,c.B,dx,[],rfl,(by rw [zad pnb,zad pnb,zad pdn]; exact hp),C.clB,C.b1,(by show 0 < 1000; decide),?_⟩
  intro ds hds
  have pds : p ≠ ds:=zae zab hds
  have nds : nb ≠ ds:=zae (by rw [zad pnb.symm,zab]) hds
  refine ⟨z0,fun lb hlb => ⟨z0,fun ls hls => ?_⟩⟩
  have dlb : ds ≠ lb:=zae zab hlb
  have plb : p ≠ lb:=zae (by rw [zad pds,zab]) hlb
  have nlb : nb ≠ lb:=zae (by rw [zad nds,zad pnb.symm,zab]) hlb
  have bls : lb ≠ ls:=zae zab hls
  have dls : ds ≠ ls:=zae (by rw [zad dlb,zab]) hls
  have pls : p ≠ ls:=zae (by rw [zad plb,zad pds,zab]) hls
  have nls : nb ≠ ls:=zae (by rw [zad nlb,zad nds,zad pnb.symm,zab]) hls
  refine ⟨(by rw [zad dls,zad dlb,zab]),[(Sum.inr "buy",.ref lb),(Sum.inr "sell",.ref ls)],rfl,(by show 2 ≤ 15; decide),_,rfl,p,c.B,dx,_,rfl,(by rw [zad pds,zad pls,zad plb,zad pds,zab]),C.clB,C.b2,(by show 1 < 1000; decide),?_⟩
  rw [merge2]
  intro de hde
  have pde : p ≠ de:=zae zab hde
  have sde : ds ≠ de:=zae (by rw [zad pds.symm,zab]) hde
  have sld : ls ≠ de:=zae (by rw [zad pls.symm,zad dls.symm,zab]) hde
  have bld : lb ≠ de:=zae (by rw [zad plb.symm,zad dlb.symm,zad bls,zab]) hde
  have nde : nb ≠ de:=zae (by rw [zad pnb.symm,zad nds,zad nls,zad nlb,zad nds,zad pnb.symm,zab]) hde
  refine (rX rfl ⟨p,c.B,dx,rX rfl ⟨(by rw [zad pde,zab]),C.clB,C.b3,(by show 2 < 1000; decide),?_⟩⟩)
  refine (rX rfl ⟨p,c.B,dx,rX rfl ⟨zab,C.clB,C.b4,(by show 3 < 1000; decide),?_⟩⟩)
  refine (rX rfl ⟨p,c.B,dx,rX rfl ⟨zab,C.clB,C.b5,(by show 4 < 1000; decide),?_⟩⟩)
  refine (rX rfl ⟨p,c.B,dx,rX rfl ⟨zab,C.clB,C.b6,(by show 5 < 1000; decide),?_⟩⟩)
  refine (rX rfl ⟨p,c.B,dx,rX rfl ⟨zab,C.clB,C.b7,(by show 6 < 1000; decide),?_⟩⟩)
  rw [zaR,zaR,zaR,zaR]
  refine q ⟨p,nb,ds,lb,ls,de⟩ _ rfl ⟨⟨dx,zab⟩,⟨dn,?_⟩,?_,fun b => ?_,bls,sde.symm,⟨[],?_,List.nodup_nil,rfl,fun b e he => ?_,fun n v hv => ?_⟩,fun b e he => ?_⟩ (fun x o hx hxp => ?_) fun x hx => ?_
  ·show upd _ p _ nb = _
   rw [zad pnb.symm,zad nde,zad pnb.symm,zad nds,zad nls,zad nlb,zad nds,zad pnb.symm,zab]
   rfl
  ·show upd _ p _ ds = _
   rw [zad pds.symm,zad sde,zad pds.symm,zab]
  ·cases b
   ·show upd _ p _ ls = some (.lst [])
    rw [zad pls.symm,zad sld,zad pls.symm,zad dls.symm,zab]
   ·show upd _ p _ lb = some (.lst [])
    rw [zad plb.symm,zad bld,zad plb.symm,zad dlb.symm,zad bls,zab]
  ·show upd _ p _ de = _
   rw [zad pde.symm,zab]
  ·cases b <;> exact absurd he (by simp [Bk.at,B0])
  ·cases hv
  ·cases b <;> exact absurd he (by simp [Bk.at,B0])
  ·have xnb : x ≠ nb:=zae hx hnb
   have xdn : x ≠ dn:=zae hx hdn
   have h1 : ∀ u,upd (upd (upd (upd H dn (.own nb)) nb (.ins c.N dn [])) nb (.ins c.N dn (numF 0))) p u x = some o:=fun u => by
    rw [zad hxp,zad xnb,zad xnb,zad xdn]
    exact hx
   have xds : x ≠ ds:=zae (h1 _) hds
   have xlb : x ≠ lb:=zae (by rw [zad xds]; exact h1 _) hlb
   have xls : x ≠ ls:=zae (by rw [zad xlb,zad xds]; exact h1 _) hls
   have xde : x ≠ de:=zae (by rw [zad hxp,zad xds,zad xls,zad xlb,zad xds]; exact h1 _) hde
   rw [zad hxp,zad xde,zad hxp,zad xds,zad xls,zad xlb,zad xds]
   exact h1 _
  ·cases hxn : H x with
   | none => exact .inr rfl
   | some o =>
    refine .inl (Classical.byContradiction fun hxp => ?_)
    have xnb : x ≠ nb:=zae hxn hnb
    have xdn : x ≠ dn:=zae hxn hdn
    have h1 : ∀ u,upd (upd (upd (upd H dn (.own nb)) nb (.ins c.N dn [])) nb (.ins c.N dn (numF 0))) p u x = some o:=fun u => by
     rw [zad hxp,zad xnb,zad xnb,zad xdn]
     exact hxn
    have xds : x ≠ ds:=zae (h1 _) hds
    have xlb : x ≠ lb:=zae (by rw [zad xds]; exact h1 _) hlb
    have xls : x ≠ ls:=zae (by rw [zad xlb,zad xds]; exact h1 _) hls
    have xde : x ≠ de:=zae (by rw [zad hxp,zad xds,zad xls,zad xlb,zad xds]; exact h1 _) hde
    rcases hx with h | h | h | h | h | ⟨b,e,he,_⟩
    ·exact hxp h
    ·exact xnb h
    ·exact xlb h
    ·exact xls h
    ·exact xde h
    ·cases b <;> exact absurd he (by simp [Bk.at,B0])
end
end Fb
namespace Fb
open PySem L2
structure Pds where
 place : Addr
 may : Addr
 count : Addr
 meetAll : Addr
 next : Addr
 other : Addr
structure PTxt (K : W.Frag) (mg : Str → Option Value) (d : Pds) : Prop where
 place : Dn K "place" "place" ziB d.place ["book","owner","side","price","many","shows","way"]
 gPlace : mg "place" = some (.ref d.place)
 may : Dn K "may_meet" "may_meet" sMay d.may ["book","order"]
 gMay : mg "may_meet" = some (.ref d.may)
 count : Dn K "count_suiting" "count_suiting" ziE d.count ["book","order"]
 gCount : mg "count_suiting" = some (.ref d.count)
 meetAll : Dn K "meet_all" "meet_all" zeu d.meetAll ["book","coming"]
 gMeetAll : mg "meet_all" = some (.ref d.meetAll)
 next : Dn K "next_to_meet" "next_to_meet" sNext d.next ["book","coming"]
 gNext : mg "next_to_meet" = some (.ref d.next)
 gOther : mg "OTHER_SIDE" = some (.ref d.other)
 other : PyProof.Rows.KTD.tabLook (PyProof.Rows.KTD.datLooks fun b => K.lookup b) (fun b => K.lookup b) d.other zha = true
theorem zfM {X : Cx} {d : Addr} (e : PyProof.Rows.KTD.tabLook (PyProof.Rows.KTD.datLooks fun b => X.K.lookup b) (fun b => X.K.lookup b) d zha = true) : IxR X (rOther d):=by
 intro value slice pins s σ H x y v u Q I rx ry h hs
 exact ix_other (W.kt_text_in I.mod.kin e) value slice pins s σ H x y v u Q I rx ry h hs
theorem Kp.imp {P : Program} {w : World} {K : W.Frag} {mg : Str → Option Value} {base : Heap} {k : Nat} {f : Addr} {ps : List Str} {sp sp' : Sp} (h : Kp P w K mg base k f ps sp) (hi : ∀ vs H Q E,sp' vs H Q E → sp vs H Q E) : Kp P w K mg base k f ps sp' :=
 let ⟨fd,F,b,q⟩:=h; ⟨fd,F.imp hi,b,q⟩
noncomputable def cntS (owner : Int) (b : Bool) (price : Option Int) : List Ent → Int
 | [] => 0
 | e :: r => (if za0 e.price (zav b) price = true ∧ e.owner ≠ owner then e.left else 0) + cntS owner b price r
theorem zcT (owner : Int) (b : Bool) (price : Option Int) (e : Ent) : ∀ xs : List Ent,cntS owner b price (xs ++ [e]) = cntS owner b price xs + (if za0 e.price (zav b) price = true ∧ e.owner ≠ owner then e.left else 0)
 | [] => by simp [cntS]
 | x :: r => by
  show _ + cntS owner b price (r ++ [e]) = _ + cntS owner b price r + _
  rw [zcT owner b price e r]
  omega
section
variable {P : Program} {w : World} {K : W.Frag} {mg : Str → Option Value} {base : Heap} {bo nt nn be sides ways : Addr} {c : Cs} {a : Ads} {d : Pds}
theorem scCo : FnScope ["book","order","found","entry"] ["book","order"] (zak ziE):=fsc
noncomputable def spCount (c : Cs) : Sp:=fun vs H Q _ => ∃ (g : Ga) (B : Bk) (o dy : Addr) (owner : Int) (b : Bool) (price : Option Int) (many : Int) (shows : Option Int) (way : Str) (num : V),vs = [.ref g.b,.ref o] ∧ Rep c H g B ∧
 H o = some (.ins c.O dy (ordF owner (zav b) price many shows way num)) ∧ ∀ H',Same H H' → Q (.int (cntS owner b price (B.at (!b)))) H'
theorem kCount (C : CTxt K mg c) (F : FTxt K mg a c) (D : PTxt K mg d) : Kp P w K mg base 2 d.count ["book","order"] (spCount c):=D.count.kp fun fd G => by
 obtain ⟨fd1,G1,b1,k1⟩:=zcm (P:=P) (w:=w) (base:=base) C F
 obtain ⟨fd2,G2,b2,k2⟩ : Kp P w K mg base 1 a.suits ["price","order"] (zgi c):=F.suits.kp fun fd G => zhc G C
 refine G.okN scCo (fun vs H Q E h => ?_) (fun cdv A outer s H vs Q E hr h => ?_)
 ·obtain ⟨_,_,_,_,_,_,_,_,_,_,_,rfl,_⟩:=h
  rfl
 ·obtain ⟨g,B,o,dy,owner,b,price,many,shows,way,num,rfl,R,ho,q⟩:=h
  obtain ⟨dx,hb⟩:=R.ob
  refine ⟨_,zac (zap (i:=2) scCo.nd rfl (Or.inl rfl) zah)
   (zac (zg4 PassesOwn.never rfl (zbx (zaK (pv 0) C.clB F.mEntriesOf G1 hr b1 .nil zaq (zaa (zaB (zfM D.other) (zct D.gOther) (zal (pv 1) rfl) (fun _ _ => rfl)) zag))) (zbc (i:=3) scCo.nd rfl (Or.inl rfl))
    (zaf (zaJ (PW.pt (zbf (zbv (zas G2 hr rfl F.gSuits k2 b2 .nil zaq (zaa (zal (zal (pv 3) rfl) rfl) (zaa (pv 1) zag)))) (za2 (zao zfw (zal (zal (pv 3) rfl) rfl) (zal (pv 1) rfl) (zat _)))))
     (zaf (zg5 (i:=2) scCo.nd rfl (Or.inl rfl) (zal (pv 3) rfl) ip_add)) zau)))
   (zaf (zaw (pv 2)))),?_⟩
  refine (rX rfl (rM g.b dx rfl hb rfl (rX rfl (rA o c.O dy rfl ho C.clO C.o2 rfl ⟨rfl,b,rfl,g,B,!b,rfl,R,fun l0 l h0 h1 => ⟨l,rfl,⟨_,SqL.of zab⟩,?_⟩⟩))))
  have s2 : Same H (upd (upd H l0 (.lst [])) l (.lst (refs (B.at (!b))))):=(zai h0).trans (zai h1)
  have R2:=Same.rep s2 R
  have ho2:=s2 _ _ ho
  generalize hHx : upd (upd H l0 (.lst [])) l (.lst (refs (B.at (!b)))) = Hx at *
  have hl : Hx l = some (.lst (refs (B.at (!b)))):=by rw [← hHx,zab]
  refine ze4 (K:=K) (a:=l) (xs:=refs (B.at (!b))) (fun i σ H2 => H2 = Hx ∧ ∃ v,σ = [some (.ref g.b),some (.ref o),some (.int (cntS owner b price ((B.at (!b)).take i))),v]) ⟨rfl,none,rfl⟩ (fun i σ H2 _ h => by rw [h.1]; exact SqL.of hl) ?_ ?_
  ·rintro i y σ H2 hi ⟨rfl,v,rfl⟩
   rw [List.getElem?_map] at hi
   cases ex : (B.at (!b))[i]? with
   | none =>
    rw [ex] at hi
    cases hi
   | some e =>
    rw [ex] at hi
    obtain rfl : V.ref e.ea = y:=Option.some.inj hi
    have me:=List.mem_of_getElem? ex
    have ek:=R2.en _ e me
    obtain ⟨de,he⟩:=ek.en
    obtain ⟨do',hoo⟩:=ek.od
    have tk : (B.at (!b)).take (i + 1) = (B.at (!b)).take i ++ [e]:=by
     rw [List.take_add_one,ex]
     rfl
    refine (rX rfl (rA e.ea c.E de rfl he C.clE C.e1 rfl (rA e.oa c.O do' rfl hoo C.clO C.o3 rfl (rX rfl ⟨e.price,o,dy,owner,zav b,price,many,shows,way,num,rfl,ho2,rX rfl ?_⟩))))
    cases hsu : za0 e.price (zav b) price with
    | false =>
     refine iteF (iteF ⟨rfl,some (.ref e.ea),?_⟩)
     rw [tk,zcT,hsu]
     simp
    | true =>
     refine iteT (rX rfl (rA e.ea c.E de rfl he C.clE C.e1 rfl (rA e.oa c.O do' rfl hoo C.clO C.o1 rfl (rX rfl (rA o c.O dy rfl ho2 C.clO C.o1 rfl ⟨rfl,rX rfl ?_⟩)))))
     by_cases how : e.owner = owner
     ·refine iteNS (by rw [how]) ⟨rfl,some (.ref e.ea),?_⟩
      rw [tk,zcT,hsu]
      simp [how]
     ·have dd : (!decide (V.int e.owner = V.int owner)) = true:=by simp [how]
      rw [dd]
      refine iteT (rX rfl (rX rfl (rA e.ea c.E de rfl he C.clE C.e2 rfl (r2 rfl rfl ⟨rfl,some (.ref e.ea),?_⟩))))
      rw [tk,zcT,hsu]
      simp [how]
  ·rintro σ H2 ⟨rfl,v,rfl⟩
   refine (rX rfl ?_)
   have : (B.at (!b)).take (refs (B.at (!b))).length = B.at (!b):=by rw [List.length_map,List.take_length]
   rw [this]
   exact q _ s2
theorem scMa : FnScope ["book","order"] ["book","order"] (zak sMay):=fsc
noncomputable def mayB (B : Bk) (owner : Int) (b : Bool) (price : Option Int) (many : Int) (way : Str) : Bool:=!decide (way = "whole") || decide (many ≤ cntS owner b price (B.at (!b)))
noncomputable def spMay (c : Cs) : Sp:=fun vs H Q _ => ∃ (g : Ga) (B : Bk) (o dy : Addr) (owner : Int) (b : Bool) (price : Option Int) (many : Int) (shows : Option Int) (way : Str) (num : V),vs = [.ref g.b,.ref o] ∧ Rep c H g B ∧
 H o = some (.ins c.O dy (ordF owner (zav b) price many shows way num)) ∧ ∀ H',Same H H' → Q (.bl (mayB B owner b price many way)) H'
theorem kMay (C : CTxt K mg c) (F : FTxt K mg a c) (D : PTxt K mg d) : Kp P w K mg base 3 d.may ["book","order"] (spMay c):=D.may.kp fun fd G => by
 obtain ⟨fd1,G1,b1,k1⟩:=kCount (P:=P) (w:=w) (base:=base) C F D
 refine G.okN scMa (fun vs H Q E h => ?_) (fun cdv A outer s H vs Q E hr h => ?_)
 ·obtain ⟨_,_,_,_,_,_,_,_,_,_,_,rfl,_⟩:=h
  rfl
 ·obtain ⟨g,B,o,dy,owner,b,price,many,shows,way,num,rfl,R,ho,q⟩:=h
  refine ⟨_,zaf (zaw (pe_or (zbn zfw (zal (pv 1) rfl) zam (zat _)) (zfr (zbn op_ge (zas G1 hr rfl D.gCount k1 b1 .nil zaq (zaa (pv 0) (zaa (pv 1) zag))) (zal (pv 1) rfl) (zat _))))),?_⟩
  refine (rX rfl (rA o c.O dy rfl ho C.clO C.o6 rfl ⟨rfl,rX rfl ?_⟩))
  by_cases hw : way = "whole"
  ·subst hw
   refine iteNS rfl (rX rfl (rX rfl ⟨g,B,o,dy,owner,b,price,many,shows,_,num,rfl,R,ho,fun H' s1 => ?_⟩))
   refine (rX rfl (rA o c.O dy rfl (s1 _ _ ho) C.clO C.o4 rfl (r2 rfl rfl ?_)))
   have:=q H' s1
   simpa [mayB] using this
  ·have dd : (!decide (V.str way = V.str ("whole" : Str))) = true:=by simp [hw]
   rw [dd]
   refine iteT ?_
   have:=q H (Same.refl H)
   simpa [mayB,hw] using this
noncomputable def zbJ (xs : List Ent) (left : Int) (b : Bool) (price : Option Int) : V:=match xs with
 | [] => .non
 | e :: _ => if left = 0 then .non else if za0 e.price (zav b) price = true then .ref e.ea else .non
theorem scNe : FnScope ["book","coming","other"] ["book","coming"] (zak sNext):=fsc
noncomputable def spNext (c : Cs) : Sp:=fun vs H Q _ => ∃ (g : Ga) (B : Bk) (ea dx oa dy : Addr) (left sh : Int) (rk : V) (owner : Int) (b : Bool) (price : Option Int) (many : Int) (shows : Option Int) (way : Str) (num : V),vs = [.ref g.b,.ref ea] ∧ Rep c H g B ∧
 H ea = some (.ins c.E dx (entF oa left sh rk)) ∧ H oa = some (.ins c.O dy (ordF owner (zav b) price many shows way num)) ∧ Q (zbJ (B.at (!b)) left b price) H
theorem kNext (C : CTxt K mg c) (F : FTxt K mg a c) (D : PTxt K mg d) : Kp P w K mg base 2 d.next ["book","coming"] (spNext c):=D.next.kp fun fd G => by
 obtain ⟨fd1,G1,b1,k1⟩:=kFirst (P:=P) (w:=w) (base:=base) C F
 obtain ⟨fd2,G2,b2,k2⟩ : Kp P w K mg base 1 a.suits ["price","order"] (zgi c):=F.suits.kp fun fd G => zhc G C
 refine G.okN scNe (fun vs H Q E h => ?_) (fun cdv A outer s H vs Q E hr h => ?_)
 ·obtain ⟨_,_,_,_,_,_,_,_,_,_,_,_,_,_,_,_,rfl,_⟩:=h
  rfl
 ·obtain ⟨g,B,ea,dx,oa,dy,left,sh,rk,owner,b,price,many,shows,way,num,rfl,R,he,ho,q⟩:=h
  obtain ⟨dxb,hb⟩:=R.ob
  refine ⟨_,zac (zap (i:=2) scNe.nd rfl (Or.inl rfl) (zaK (pv 0) C.clB F.mFirst G1 hr b1 .nil zaq (zaa (zaB (zfM D.other) (zct D.gOther) (zal (zal (pv 1) rfl) rfl) (fun _ _ => rfl)) zag)))
   (zac (zaJ (PW.pt (zgv (zao za3 (zal (pv 1) rfl) zah (zat _)) (zdy (zbB (zcE (pv 2)))))) (zaf (zaw zbV)) zau)
   (zac (zaJ (zcD (zbv (zas G2 hr rfl F.gSuits k2 b2 .nil zaq (zaa (zal (zal (pv 2) rfl) rfl) (zaa (zal (pv 1) rfl) zag))))) (zaf (zaw zbV)) zau)
   (zaf (zaw (pv 2))))),?_⟩
  refine (rX rfl (rM g.b dxb rfl hb rfl (rX rfl (rA ea c.E dx rfl he C.clE C.e1 rfl (rA oa c.O dy rfl ho C.clO C.o2 rfl ⟨rfl,b,rfl,g,B,!b,rfl,R,?_⟩)))))
  refine (rX rfl (rA ea c.E dx rfl he C.clE C.e2 rfl ⟨rfl,rX rfl ?_⟩))
  cases hx : B.at (!b) with
  | nil =>
   rw [hx] at q
   refine ite2 (fun _ => iteT q) (fun _ => (rX rfl (rX rfl (iteT q))))
  | cons e r =>
   rw [hx] at q
   have ek:=R.en (!b) e (by rw [hx]; exact List.mem_cons_self)
   obtain ⟨de,hen⟩:=ek.en
   obtain ⟨do',hod⟩:=ek.od
   refine ite2 (fun hz => iteT ?_) (fun hz => (rX rfl (rX rfl (iteF ?_))))
   ·have h0 : left = 0:=by
     have:=of_decide_eq_true hz
     injection this
    have q' : zbJ (e :: r) left b price = .non:=by simp [zbJ,h0]
    rw [q'] at q
    exact q
   ·have h0 : ¬ left = 0:=fun z => hz (by rw [z]; exact decide_eq_true rfl)
    refine (rX rfl (rA e.ea c.E de rfl hen C.clE C.e1 rfl (rA e.oa c.O do' rfl hod C.clO C.o3 rfl (rX rfl (rA ea c.E dx rfl he C.clE C.e1 rfl ⟨e.price,oa,dy,owner,zav b,price,many,shows,way,num,rfl,ho,rX rfl ?_⟩)))))
    cases hsu : za0 e.price (zav b) price with
    | false =>
     have q' : zbJ (e :: r) left b price = .non:=by simp [zbJ,h0,hsu]
     rw [q'] at q
     exact iteT q
    | true =>
     have q' : zbJ (e :: r) left b price = .ref e.ea:=by simp [zbJ,h0,hsu]
     rw [q'] at q
     exact iteF (rX rfl q)
end
end Fb
namespace Fb
open PySem L2
structure Fr (H : Hp) (g : Ga) (B : Bk) (H' : Hp) (B' : Bk) : Prop where
 kp : ∀ x o,H x = some o → ¬ Foot g B x → H' x = some o
 ft : ∀ x,Foot g B' x → Foot g B x ∨ H x = none
section
variable {P : Program} {w : World} {K : W.Frag} {mg : Str → Option Value} {base : Heap} {bo nt nn be sides ways : Addr} {c : Cs} {a : Ads} {d : Pds}
theorem zbl {H : Hp} {g : Ga} {B : Bk} (R : Rep c H g B) {x : Addr} (f : Foot g B x) : ∃ o,H x = some o:=by
 rcases f with rfl | rfl | rfl | rfl | rfl | ⟨b,e,he,rfl⟩
 ·exact let ⟨_,h⟩:=R.ob; ⟨_,h⟩
 ·exact let ⟨_,h⟩:=R.nb; ⟨_,h⟩
 ·exact ⟨_,R.ls true⟩
 ·exact ⟨_,R.ls false⟩
 ·exact let ⟨_,h,_⟩:=R.de; ⟨_,h⟩
 ·exact let ⟨_,h⟩:=(R.en b e he).en; ⟨_,h⟩
theorem ze5 {g : Ga} {B : Bk} {e : Ent} {r x : Addr} (f : Foot g (B.put e r) x) : Foot g B x ∨ x = e.ea:=by
 rcases f with h | h | h | h | h | ⟨b,y,hy,rfl⟩
 ·exact .inl (.inl h)
 ·exact .inl (.inr (.inl h))
 ·exact .inl (.inr (.inr (.inl h)))
 ·exact .inl (.inr (.inr (.inr (.inl h))))
 ·exact .inl (.inr (.inr (.inr (.inr (.inl h)))))
 ·rcases zbd hy with ⟨_,z⟩ | z
  ·exact .inr (by rw [z])
  ·exact .inl (.inr (.inr (.inr (.inr (.inr ⟨b,y,z,rfl⟩)))))
noncomputable def spOrderA (bo : Addr) (c : Cs) : Sp:=fun vs H Q E => ∃ (p dx : Addr) (owner : Int) (side : Str) (price : Option Int) (many : Int) (shows : Option Int) (way : Str),
 vs = [.ref p,.int owner,.str side,oV price,.int many,oV shows,.str way] ∧ H p = some (.ins c.O dx []) ∧ Small side price many shows way ∧
 (zbk side price many shows way = true → ∀ H',H' p = some (.ins c.O dx (ordF owner side price many shows way .non)) → (∀ x,x ≠ p → H' x = H x) → Q .non H') ∧ (zbk side price many shows way = false → ∀ e,E (.ref bo) e H)
theorem kOrderA (T : XTxt K mg bo nt nn be) (O : OTxt K mg sides ways) (C : CTxt K mg c) (F : FTxt K mg a c) : Kp P w K mg base 2 a.orderInit ["self","owner","side","price","many","shows","way"] (spOrderA bo c) :=
 (kOrder T O C F).imp fun vs H Q E ⟨p,dx,owner,side,price,many,shows,way,e,hp,sm,h1,h2⟩ => ⟨p,dx,owner,side,price,many,shows,way,e,hp,sm,fun g => h1 g _ zab fun x hx => zad hx,h2⟩
noncomputable def spAdmitA (c : Cs) : Sp:=fun vs H Q _ => ∃ (p dx o dy : Addr) (k owner : Int) (side : Str) (price : Option Int) (many : Int) (shows : Option Int) (way : Str) (num : V),vs = [.ref p,.ref o] ∧ H p = some (.ins c.N dx (numF k)) ∧
 H o = some (.ins c.O dy (ordF owner side price many shows way num)) ∧ ∀ H',H' p = some (.ins c.N dx (numF (k + 1))) → H' o = some (.ins c.O dy (ordF owner side price many shows way (.int k))) → (∀ x,x ≠ p → x ≠ o → H' x = H x) → Q (.int k) H'
theorem kAdmitA (C : CTxt K mg c) (F : FTxt K mg a c) : Kp P w K mg base 1 a.admit ["self","order"] (spAdmitA c) :=
 Kp.imp (F.admit.kp fun fd G => ok_admit G C) fun vs H Q E ⟨p,dx,o,dy,k,owner,side,price,many,shows,way,num,e,hp,ho,h⟩ => by
  have npo : p ≠ o:=zhJ hp ho (zhe "came" (by show some (V.int k) ≠ none; simp))
  exact ⟨p,dx,o,dy,k,owner,side,price,many,shows,way,num,e,hp,ho,h _ zab (by rw [zad npo.symm,zab]) fun x h1 h2 => by rw [zad h1,zad h2]⟩
noncomputable def spEntA (c : Cs) : Sp:=fun vs H Q _ => ∃ (p dx o dy : Addr) (owner : Int) (side : Str) (price : Option Int) (many : Int) (shows : Option Int) (way : Str) (num : V),vs = [.ref p,.ref o] ∧ H p = some (.ins c.E dx []) ∧
 H o = some (.ins c.O dy (ordF owner side price many shows way num)) ∧ ∀ H',H' p = some (.ins c.E dx (entF o many 0 .non)) → (∀ x,x ≠ p → H' x = H x) → Q .non H'
theorem kEntA (C : CTxt K mg c) (F : FTxt K mg a c) : Kp P w K mg base 1 a.entInit ["self","order"] (spEntA c) :=
 Kp.imp (F.entInit.kp fun fd G => ok_entry G C) fun vs H Q E ⟨p,dx,o,dy,owner,side,price,many,shows,way,num,e,hp,ho,h⟩ => ⟨p,dx,o,dy,owner,side,price,many,shows,way,num,e,hp,ho,h _ zab fun x h1 => zad h1⟩
theorem ziH {H H' : Hp} {g : Ga} {B : Bk} {o dn dy : Addr} {owner : Int} {side : Str} {price : Option Int} {many : Int} {shows : Option Int} {way : Str} (R : Rep c H g B) (ho : H o = some (.ins c.O dy (ordF owner side price many shows way .non)))
  (hn : H' g.nb = some (.ins c.N dn (numF (B.came + 1)))) (f : ∀ x,x ≠ g.nb → x ≠ o → H' x = H x) : Rep c H' g { B with came:=B.came + 1 }:=by
 obtain ⟨⟨d1,h1⟩,⟨d2,h2⟩,h3,h4,h5,h6,⟨kvs,h7,h8⟩,h9⟩:=R
 have k : ∀ {x : Addr} {u : HO} (i : Nat),H x = some u → kd u = i → i ≠ 4 → i ≠ 2 → H' x = some u:=fun {x u} i hx hk h4 h2' => by
  rw [f x (zan i 4 hx h2 hk rfl h4) (zan i 2 hx ho hk rfl h2')]
  exact hx
 refine ⟨⟨d1,k 3 h1 rfl (by decide) (by decide)⟩,⟨dn,hn⟩,k 6 h3 rfl (by decide) (by decide),fun b => k 5 (h4 b) rfl (by decide) (by decide),h5,h6,⟨kvs,k 6 h7 rfl (by decide) (by decide),h8⟩,fun b e he => ?_⟩
 obtain ⟨⟨dx,en⟩,⟨dz,od⟩,rk⟩:=h9 b e he
 refine ⟨⟨dx,k 1 en rfl (by decide) (by decide)⟩,⟨dz,?_⟩,k 7 rk rfl (by decide) (by decide)⟩
 rw [f e.oa (zan 2 4 od h2) (zhJ od ho (zhe "number" (by show some (V.int e.num) ≠ some V.non; simp)))]
 exact od
theorem Bk.Ok.admit {B : Bk} (ok : B.Ok) (h : B.came < 500) : Bk.Ok { B with came:=B.came + 1 }:=by
 obtain ⟨h1,h2,h3,h4,h5,h6,h7,h8⟩:=ok
 refine ⟨h1,h2,h3,h4,fun b e he => ?_,h6,?_,?_⟩
 ·have:=h5 b e he
  show 0 ≤ e.num ∧ e.num < B.came + 1
  omega
 ·show ((B.buys.length + B.sells.length : Nat) : Int) ≤ B.came + 1
  have : ((B.buys.length + B.sells.length : Nat) : Int) ≤ B.came:=h7
  omega
 ·show B.came + 1 ≤ 500
  omega
end
end Fb
namespace Sx
open PySem
noncomputable def zhD (mask i : Nat) : Nat:=(i * 5 + 1) % (mask + 1)
noncomputable def zdc (mask : Nat) : Nat → Nat → Nat
 | 0,i => i
 | n + 1,i => zdc mask n (zhD mask i)
theorem zcO (mask : Nat) : ∀ a b i,zdc mask (a + b) i = zdc mask b (zdc mask a i)
 | 0,b,i => by rw [Nat.zero_add]; rfl
 | a + 1,b,i => by
  rw [show a + 1 + b = (a + b) + 1 by omega]
  show zdc mask (a + b) (zhD mask i) = zdc mask b (zdc mask a (zhD mask i))
  exact zcO mask a b _
noncomputable def orb (mask : Nat) : Nat → Nat → List Nat
 | 0,_ => []
 | n + 1,i => i :: orb mask n (zhD mask i)
theorem zje (mask : Nat) : ∀ n i j,j ∈ orb mask n i → ∃ b,b < n ∧ zdc mask b i = j
 | 0,_,_,h => absurd h (by simp [orb])
 | n + 1,i,j,h => by
  rcases List.mem_cons.mp h with h | h
  ·exact ⟨0,Nat.succ_pos _,h.symm⟩
  ·obtain ⟨b,hb,e⟩:=zje mask n _ j h
   exact ⟨b + 1,Nat.succ_lt_succ hb,e⟩
noncomputable def Mk (mask : Nat) : Prop:=mask = 7 ∨ mask = 15 ∨ mask = 31 ∨ mask = 63 ∨ mask = 127
theorem orb_all {mask : Nat} (h : Mk mask) : ((List.range (mask + 1)).all fun j => (orb mask (mask + 1) 0).contains j) = true:=by
 rcases h with rfl | rfl | rfl | rfl | rfl <;> decide +kernel
theorem orb_back {mask : Nat} (h : Mk mask) : zdc mask (mask + 1) 0 = 0:=by
 rcases h with rfl | rfl | rfl | rfl | rfl <;> decide +kernel
theorem orbit {mask : Nat} (h : Mk mask) {j : Nat} (hj : j ≤ mask) : ∃ b,b ≤ mask ∧ zdc mask b 0 = j:=by
 have h1:=List.all_eq_true.mp (orb_all h) j (List.mem_range.mpr (by omega))
 obtain ⟨b,hb,e⟩:=zje mask _ _ j (by simpa using h1)
 exact ⟨b,by omega,e⟩
theorem reach {mask : Nat} (h : Mk mask) {i j : Nat} (hi : i ≤ mask) (hj : j ≤ mask) : ∃ t,t ≤ mask + 1 ∧ zdc mask t i = j:=by
 obtain ⟨a,ha,ea⟩:=orbit h hi
 obtain ⟨b,hb,eb⟩:=orbit h hj
 by_cases hab : a ≤ b
 ·refine ⟨b - a,by omega,?_⟩
  rw [← ea,← zcO,show a + (b - a) = b by omega]
  exact eb
 ·refine ⟨b + (mask + 1) - a,by omega,?_⟩
  rw [← ea,← zcO,show a + (b + (mask + 1) - a) = (mask + 1) + b by omega,zcO,orb_back h]
  exact eb
noncomputable def lk (mask : Nat) : Nat → Nat × Nat → Nat × Nat
 | 0,p => p
 | n + 1,p => lk mask n (SetTable.leap mask p.1 p.2)
theorem lk_add (mask : Nat) : ∀ a b p,lk mask (a + b) p = lk mask b (lk mask a p)
 | 0,b,p => by rw [Nat.zero_add]; rfl
 | a + 1,b,p => by
  rw [show a + 1 + b = (a + b) + 1 by omega]
  exact lk_add mask a b _
theorem zjg (mask : Nat) : ∀ n i,lk mask n (i,0) = (zdc mask n i,0)
 | 0,_ => rfl
 | n + 1,i => by
  show lk mask n (SetTable.leap mask i 0) = _
  have : SetTable.leap mask i 0 = (zhD mask i,0):=by simp [SetTable.leap,zhD]
  rw [this]
  exact zjg mask n _
theorem lk_snd (mask : Nat) : ∀ n p,(lk mask n p).2 = p.2 / 32 ^ n
 | 0,p => by simp [lk]
 | n + 1,p => by
  show (lk mask n (SetTable.leap mask p.1 p.2)).2 = _
  rw [lk_snd mask n]
  show p.2 / 32 / 32 ^ n = _
  rw [Nat.div_div_eq_div_mul,Nat.pow_succ,Nat.mul_comm]
theorem zjh (mask : Nat) : ∀ n p,0 < n → (lk mask n p).1 ≤ mask
 | 0,_,h => absurd h (Nat.lt_irrefl _)
 | n + 1,p,_ => by
  by_cases hn : 0 < n
  ·exact zjh mask n _ hn
  ·have : n = 0:=by omega
   subst this
   show (p.1 * 5 + 1 + p.2 / 32) % (mask + 1) ≤ mask
   have:=Nat.mod_lt (p.1 * 5 + 1 + p.2 / 32) (show 0 < mask + 1 by omega)
   omega
theorem reachL {mask : Nat} (h : Mk mask) {i p j : Nat} (hp : p < 2 ^ 64) (hj : j ≤ mask) : ∃ t,t ≤ mask + 14 ∧ (lk mask t (i,p)).1 = j:=by
 have e2 : (lk mask 13 (i,p)).2 = 0:=by
  rw [lk_snd]
  show p / 32 ^ 13 = 0
  refine Nat.div_eq_of_lt (Nat.lt_trans hp (by decide))
 have e1:=zjh mask 13 (i,p) (by decide)
 obtain ⟨t,ht,et⟩:=reach h e1 hj
 refine ⟨13 + t,by omega,?_⟩
 rw [lk_add]
 have : lk mask 13 (i,p) = ((lk mask 13 (i,p)).1,0):=by rw [← e2]
 rw [this,zjg]
 exact et
theorem zfQ (mask : Nat) (owner : Array (Option Nat)) : ∀ fuel i p,(∃ t,t < fuel ∧ owner.getD (lk mask t (i,p)).1 (some 0) = none) → ∃ j,SetTable.layClean.free mask owner fuel i p = some j ∧ owner.getD j (some 0) = none
 | 0,_,_,⟨_,h,_⟩ => absurd h (Nat.not_lt_zero _)
 | fuel + 1,i,p,⟨t,ht,hf⟩ => by
  unfold SetTable.layClean.free
  cases hfi : (List.range (SetTable.runEnd mask i + 1 - i)).find? fun k => (owner.getD (i + k) (some 0)).isNone with
  | some k =>
   refine ⟨i + k,rfl,?_⟩
   have:=List.find?_some hfi
   simpa using this
  | none =>
   dsimp only
   have hno:=List.find?_eq_none.mp hfi 0 (List.mem_range.mpr (by unfold SetTable.runEnd; split <;> omega))
   cases t with
   | zero =>
    exfalso
    apply hno
    have hf' : owner.getD i (some 0) = none:=hf
    rw [Nat.add_zero,hf']
    rfl
   | succ t => exact zfQ mask owner fuel _ _ ⟨t,by omega,hf⟩
theorem fm_set (k : Nat) : ∀ (l : List (Option Nat)) (j : Nat),l[j]? = some none → ((l.set j (some k)).filterMap id).Perm (k :: l.filterMap id)
 | [],j,h => by simp at h
 | x :: r,0,h => by
  have : x = none:=by simpa using h
  subst this
  simp
 | x :: r,j + 1,h => by
  have ih:=fm_set k r j (by simpa using h)
  rw [List.set_cons_succ]
  cases x with
  | none => simpa using ih
  | some y =>
   have h1 : (some y :: r.set j (some k)).filterMap id = y :: (r.set j (some k)).filterMap id:=by simp
   have h2 : (some y :: r).filterMap id = y :: r.filterMap id:=by simp
   rw [h1,h2]
   exact (List.Perm.cons y ih).trans (List.Perm.swap k y _)
theorem zdR : ∀ (l : List (Option Nat)),(l.filterMap id).length < l.length → ∃ j : Nat,l[j]? = some none
 | [],h => absurd h (by simp)
 | none :: r,_ => ⟨0,rfl⟩
 | some y :: r,h => by
  obtain ⟨j,hj⟩:=zdR r (by simpa using h)
  exact ⟨j + 1,by simpa using hj⟩
theorem zj6 (h : Int) : SetTable.bits h < 2 ^ 64:=by
 unfold SetTable.bits
 omega
noncomputable def zeZ (mask : Nat) (acc : Option (Array (Option Nat) × Nat)) (h : Int) : Option (Array (Option Nat) × Nat):=do
 let (owner,k) ← acc
 let j ← SetTable.layClean.free mask owner (SetTable.turns mask) (SetTable.bits h % (mask + 1)) (SetTable.bits h)
 pure (owner.setIfInBounds j (some k),k + 1)
theorem zhj {mask : Nat} (hm : Mk mask) : ∀ (l : List Int) (owner : Array (Option Nat)) (k : Nat),owner.size = mask + 1 → (owner.toList.filterMap id).Perm (List.range k) → k + l.length ≤ mask →
  ∃ owner',l.foldl (zeZ mask) (some (owner,k)) = some (owner',k + l.length) ∧ owner'.size = mask + 1 ∧ (owner'.toList.filterMap id).Perm (List.range (k + l.length))
 | [],owner,k,h1,h2,_ => ⟨owner,rfl,h1,h2⟩
 | h :: l,owner,k,h1,h2,h3 => by
  rw [List.length_cons] at h3
  have hlen : (owner.toList.filterMap id).length = k:=by rw [h2.length_eq,List.length_range]
  obtain ⟨j0,hj0⟩:=zdR owner.toList (by rw [hlen,Array.length_toList,h1]; omega)
  have hj0l : j0 < owner.size:=by
   have:=(List.getElem?_eq_some_iff.mp hj0).1
   simpa using this
  have hd0 : owner.getD j0 (some 0) = none:=by
   rw [Array.getElem?_toList] at hj0
   rw [Array.getD_eq_getD_getElem?,hj0]
   rfl
  obtain ⟨t,ht,et⟩:=reachL hm (i:=SetTable.bits h % (mask + 1)) (zj6 h) (show j0 ≤ mask by omega)
  obtain ⟨j,hj,hjd⟩:=zfQ mask owner (SetTable.turns mask) (SetTable.bits h % (mask + 1)) (SetTable.bits h) ⟨t,by unfold SetTable.turns; omega,by rw [et]; exact hd0⟩
  have hjl : j < owner.size:=by
   refine Classical.byContradiction fun hn => ?_
   rw [Array.getD_eq_getD_getElem?,Array.getElem?_eq_none (by omega)] at hjd
   cases hjd
  have hjn : owner.toList[j]? = some none:=by
   rw [Array.getElem?_toList,Array.getElem?_eq_getElem hjl]
   rw [Array.getD_eq_getD_getElem?,Array.getElem?_eq_getElem hjl] at hjd
   exact congrArg some hjd
  have hstep : zeZ mask (some (owner,k)) h = some (owner.setIfInBounds j (some k),k + 1):=by
   unfold zeZ
   show (SetTable.layClean.free mask owner (SetTable.turns mask) (SetTable.bits h % (mask + 1)) (SetTable.bits h)).bind _ = _
   rw [hj]
   rfl
  have h2' : ((owner.setIfInBounds j (some k)).toList.filterMap id).Perm (List.range (k + 1)):=by
   rw [Array.toList_setIfInBounds]
   refine (fm_set k _ j hjn).trans ?_
   rw [List.range_succ]
   exact (List.Perm.cons k h2).trans (List.perm_append_singleton k _).symm
  obtain ⟨owner',e,s1,s2⟩:=zhj hm l (owner.setIfInBounds j (some k)) (k + 1) (by rw [Array.size_setIfInBounds]; exact h1) h2' (by omega)
  refine ⟨owner',?_,s1,?_⟩
  ·rw [List.foldl_cons,hstep,e,List.length_cons,show k + 1 + l.length = k + (l.length + 1) by omega]
  ·rw [List.length_cons,show k + (l.length + 1) = k + 1 + l.length by omega]
   exact s2
theorem zgD {mask : Nat} (hm : Mk mask) (hashes : Array Int) (hn : hashes.size ≤ mask) : ∃ owner,SetTable.layClean mask hashes = some owner ∧ owner.size = mask + 1 ∧ (owner.toList.filterMap id).Perm (List.range hashes.size):=by
 obtain ⟨owner,e,s1,s2⟩:=zhj hm hashes.toList (Array.replicate (mask + 1) none) 0 (by simp) (by simp [Array.toList_replicate]) (by simpa using hn)
 refine ⟨owner,?_,s1,by simpa using s2⟩
 unfold SetTable.layClean
 rw [← Array.foldl_toList]
 have : hashes.toList.foldl (zeZ mask) (some (Array.replicate (mask + 1) none,0)) = some (owner,0 + hashes.toList.length):=e
 exact congrArg (Option.map (·.1)) this
end Sx
namespace Sx
open PySem
noncomputable def Ris (xs : Array Nat) : Prop:=xs.toList.Pairwise (· < ·)
theorem zeB {xs : Array Nat} (h : Ris xs) {i k : Nat} (hik : i < k) (hk : k < xs.size) : xs.getD i 0 < xs.getD k 0:=by
 have:=List.pairwise_iff_getElem.mp h i k (by simpa using Nat.lt_trans hik hk) (by simpa using hk) hik
 rw [Array.getD_eq_getD_getElem?,Array.getD_eq_getD_getElem?,Array.getElem?_eq_getElem (Nat.lt_trans hik hk),Array.getElem?_eq_getElem hk]
 simpa using this
theorem getD_in {xs : Array Nat} {i : Nat} (h : i < xs.size) (a b : Nat) : xs.getD i a = xs.getD i b:=by
 rw [Array.getD_eq_getD_getElem?,Array.getD_eq_getD_getElem?,Array.getElem?_eq_getElem h]
 rfl
theorem zfa {xs : Array Nat} (h : Ris xs) (j : Nat) : ∀ fuel lo hi,hi - lo ≤ fuel → lo ≤ hi → hi ≤ xs.size → (∀ i,i < lo → xs.getD i 0 < j) → (∀ i,hi ≤ i → i < xs.size → ¬ xs.getD i 0 < j) →
  SetTable.below.go xs j fuel lo hi ≤ xs.size ∧ (∀ i,i < SetTable.below.go xs j fuel lo hi → xs.getD i 0 < j) ∧ ∀ i,SetTable.below.go xs j fuel lo hi ≤ i → i < xs.size → ¬ xs.getD i 0 < j
 | 0,lo,hi,hf,h1,h2,h3,h4 => by
  have e : lo = hi:=by omega
  subst e
  exact ⟨h2,h3,h4⟩
 | fuel + 1,lo,hi,hf,h1,h2,h3,h4 => by
  unfold SetTable.below.go
  by_cases hlt : lo < hi
  ·rw [if_pos hlt]
   dsimp only
   have hm : (lo + hi) / 2 < xs.size:=by omega
   rw [getD_in hm j 0]
   by_cases hv : xs.getD ((lo + hi) / 2) 0 < j
   ·rw [if_pos hv]
    refine zfa h j fuel _ _ (by omega) (by omega) h2 (fun i hi' => ?_) h4
    by_cases e : i = (lo + hi) / 2
    ·rw [e]
     exact hv
    ·have:=zeB h (show i < (lo + hi) / 2 by omega) hm
     omega
   ·rw [if_neg hv]
    refine zfa h j fuel _ _ (by omega) (by omega) (by omega) h3 (fun i hi' hs => ?_)
    by_cases e : i = (lo + hi) / 2
    ·rw [e]
     exact hv
    ·have:=zeB h (show (lo + hi) / 2 < i by omega) hs
     omega
  ·rw [if_neg hlt]
   have e : lo = hi:=by omega
   subst e
   exact ⟨h2,h3,h4⟩
theorem ze9 {xs : Array Nat} (h : Ris xs) (j : Nat) : SetTable.below xs j ≤ xs.size ∧ (∀ i,i < SetTable.below xs j → xs.getD i 0 < j) ∧ ∀ i,SetTable.below xs j ≤ i → i < xs.size → ¬ xs.getD i 0 < j :=
 zfa h j xs.size 0 xs.size (Nat.le_refl _) (Nat.zero_le _) (Nat.le_refl _) (fun i hi => absurd hi (Nat.not_lt_zero _)) fun i h1 h2 => absurd h2 (Nat.not_lt.mpr h1)
theorem at_below {xs : Array Nat} (h : Ris xs) {j : Nat} (hj : j ∈ xs.toList) : xs[SetTable.below xs j]? = some j:=by
 obtain ⟨h1,h2,h3⟩:=ze9 h j
 obtain ⟨k,hk,e⟩:=List.getElem_of_mem hj
 have hk' : k < xs.size:=by simpa using hk
 have ek : xs.getD k 0 = j:=by
  rw [Array.getD_eq_getD_getElem?,Array.getElem?_eq_getElem hk']
  simpa using e
 have : SetTable.below xs j = k:=by
  by_cases c : SetTable.below xs j < k
  ·have g:=zeB h c hk'
   have g2:=h3 (SetTable.below xs j) (Nat.le_refl _) (by omega)
   omega
  ·by_cases c2 : k < SetTable.below xs j
   ·have:=h2 k c2
    omega
   ·omega
 rw [this,Array.getElem?_eq_getElem hk']
 exact congrArg some (by simpa using e)
theorem ziu {t : SetTable} (hd : t.dummies = #[]) (j : Nat) (hj : j ∉ t.place.toList) : t.slot j = .empty:=by
 unfold SetTable.slot
 dsimp only
 have h1 : ¬ (t.place[SetTable.below t.place j]? == some j) = true:=fun z => by
  have z : t.place[SetTable.below t.place j]? = some j:=by simpa using z
  exact hj (by rw [← Array.getElem?_toList] at z; exact List.mem_of_getElem? z)
 rw [if_neg h1,hd]
 rfl
theorem ziv {t : SetTable} (h : Ris t.place) {j : Nat} (hj : j ∈ t.place.toList) : t.slot j = .live (SetTable.below t.place j):=by
 unfold SetTable.slot
 dsimp only
 rw [at_below h hj]
 simp
noncomputable def baseP (t : SetTable) (i p : Nat) : SetTable.Probe:={ j:=i,more:=SetTable.runEnd t.mask i - i,i:=i,perturb:=p,dummy:=none }
theorem ziG {mask i : Nat} (h : i ≤ mask) : i ≤ SetTable.runEnd mask i ∧ SetTable.runEnd mask i ≤ mask ∧ SetTable.runEnd mask i - i ≤ 9:=by
 unfold SetTable.runEnd
 split <;> omega
noncomputable def Free (t : SetTable) (r : Option SetTable.Met) : Prop:=∃ j,r = some (.empty j none) ∧ j ∉ t.place.toList ∧ j ≤ t.mask
theorem go_run {t : SetTable} (hr : Ris t.place) (hd : t.dummies = #[]) (h : Int) (i p : Nat) : ∀ m j fuel,j + m ≤ t.mask →
  Free t (SetTable.probe.go t (fun _ => h + 1) h (fuel + (m + 1)) ⟨j,m,i,p,none⟩) ∨ SetTable.probe.go t (fun _ => h + 1) h (fuel + (m + 1)) ⟨j,m,i,p,none⟩ = SetTable.probe.go t (fun _ => h + 1) h fuel (baseP t (SetTable.leap t.mask i p).1 (SetTable.leap t.mask i p).2)
 | m,j,fuel,hm => by
  have step : SetTable.probe.go t (fun _ => h + 1) h (fuel + m + 1) ⟨j,m,i,p,none⟩ = match t.slot j with
   | .empty => some (.empty j none)
   | .dummy => SetTable.probe.go t (fun _ => h + 1) h (fuel + m) (t.advance ⟨j,m,i,p,some j⟩)
   | .live k => if (h + 1 == h) = true then some (.candidate j k (t.advance ⟨j,m,i,p,none⟩)) else SetTable.probe.go t (fun _ => h + 1) h (fuel + m) (t.advance ⟨j,m,i,p,none⟩):=rfl
  rw [show fuel + (m + 1) = fuel + m + 1 by omega,step]
  by_cases hj : j ∈ t.place.toList
  ·rw [ziv hr hj]
   have hne : ¬ (h + 1 == h) = true:=by
    intro z
    have z : h + 1 = h:=by simpa using z
    omega
   dsimp only
   rw [if_neg hne]
   cases m with
   | zero =>
    refine .inr ?_
    rfl
   | succ m =>
    have : t.advance ⟨j,m + 1,i,p,none⟩ = ⟨j + 1,m,i,p,none⟩:=by
     unfold SetTable.advance
     rw [if_pos (Nat.succ_pos m)]
     rfl
    rw [this]
    exact go_run hr hd h i p m (j + 1) fuel (by omega)
  ·rw [ziu hd j hj]
   exact .inl ⟨j,rfl,hj,by omega⟩
theorem zjD {t : SetTable} (hr : Ris t.place) (hd : t.dummies = #[]) (h : Int) : ∀ n i p fuel,i ≤ t.mask → (∃ k,k ≤ n ∧ (lk t.mask k (i,p)).1 ∉ t.place.toList) → 10 * n < fuel → Free t (SetTable.probe.go t (fun _ => h + 1) h fuel (baseP t i p))
 | n,i,p,fuel,hi,⟨k,hk,hf⟩,hfu => by
  obtain ⟨r1,r2,r3⟩:=ziG hi
  by_cases hip : i ∈ t.place.toList
  ·cases k with
   | zero => exact absurd hip hf
   | succ k =>
    cases n with
    | zero => omega
    | succ n =>
     obtain ⟨f',rfl⟩ : ∃ f',fuel = f' + (SetTable.runEnd t.mask i - i + 1):=⟨fuel - (SetTable.runEnd t.mask i - i + 1),by omega⟩
     rcases go_run hr hd h i p (SetTable.runEnd t.mask i - i) i f' (by omega) with z | z
     ·exact z
     ·show Free t (SetTable.probe.go t (fun _ => h + 1) h (f' + (SetTable.runEnd t.mask i - i + 1)) ⟨i,SetTable.runEnd t.mask i - i,i,p,none⟩)
      rw [z]
      refine zjD hr hd h n _ _ f' ?_ ⟨k,by omega,hf⟩ (by omega)
      have:=zjh t.mask 1 (i,p) (by decide)
      exact this
  ·obtain ⟨f',rfl⟩ : ∃ f',fuel = f' + 1:=⟨fuel - 1,by omega⟩
   refine ⟨i,?_,hip,hi⟩
   show SetTable.probe.go t (fun _ => h + 1) h (f' + 1) ⟨i,SetTable.runEnd t.mask i - i,i,p,none⟩ = _
   unfold SetTable.probe.go
   rw [show (⟨i,SetTable.runEnd t.mask i - i,i,p,none⟩ : SetTable.Probe).j = i from rfl,ziu hd i hip]
theorem pigeon : ∀ (n : Nat) (l : List Nat),(∀ j,j < n → j ∈ l) → n ≤ l.length
 | 0,_,_ => Nat.zero_le _
 | n + 1,l,h => by
  have hm:=h n (Nat.lt_succ_self n)
  have h1:=pigeon n (l.erase n) fun j hj => (List.mem_erase_of_ne (Nat.ne_of_lt hj)).mpr (h j (Nat.lt_succ_of_lt hj))
  have h2:=List.length_erase_of_mem hm
  have h3:=List.length_pos_of_mem hm
  omega
theorem zit {t : SetTable} (hr : Ris t.place) (hs : t.place.size ≤ t.mask) : ∃ j,j ≤ t.mask ∧ j ∉ t.place.toList:=by
 refine Classical.byContradiction fun hn => ?_
 have hall : ∀ j,j ≤ t.mask → j ∈ t.place.toList:=fun j hj => Classical.byContradiction fun z => hn ⟨j,hj,z⟩
 have:=pigeon (t.mask + 1) t.place.toList fun j hj => hall j (by omega)
 rw [Array.length_toList] at this
 omega
theorem zgH {t : SetTable} (hm : Mk t.mask) (hr : Ris t.place) (hd : t.dummies = #[]) (hs : t.place.size ≤ t.mask) (h : Int) : ∃ j,t.freeSlot h = some (j,false) ∧ j ∉ t.place.toList ∧ j ≤ t.mask:=by
 obtain ⟨j0,h0,n0⟩:=zit hr hs
 obtain ⟨k,hk,ek⟩:=reachL hm (i:=SetTable.bits h % (t.mask + 1)) (zj6 h) h0
 have hi : SetTable.bits h % (t.mask + 1) ≤ t.mask:=by
  have:=Nat.mod_lt (SetTable.bits h) (show 0 < t.mask + 1 by omega)
  omega
 obtain ⟨j,e,h1,h2⟩:=zjD hr hd h (t.mask + 14) (SetTable.bits h % (t.mask + 1)) (SetTable.bits h) (10 * SetTable.turns t.mask) hi ⟨k,hk,by rw [ek]; exact n0⟩ (by unfold SetTable.turns; omega)
 refine ⟨j,?_,h1,h2⟩
 unfold SetTable.freeSlot SetTable.probe
 have e' : SetTable.probe.go t (fun _ => h + 1) h (10 * SetTable.turns t.mask) (t.probeStart h) = some (.empty j none):=e
 rw [e']
 rfl
theorem zhG {xs : Array Nat} (h : Ris xs) {j : Nat} (hj : j ∉ xs.toList) : Ris (SetTable.insertAt xs (SetTable.below xs j) j):=by
 obtain ⟨h1,h2,h3⟩:=ze9 h j
 unfold Ris
 rw [SetTable.toList_insertAt]
 have hp : xs.toList.Pairwise (· < ·):=h
 have tk : ∀ x ∈ xs.toList.take (SetTable.below xs j),x < j:=fun x hx => by
  obtain ⟨k,hk,e⟩:=List.getElem_of_mem hx
  rw [List.getElem_take] at e
  rw [List.length_take] at hk
  have hk1 : k < SetTable.below xs j:=by omega
  have hk2 : k < xs.size:=by omega
  have:=h2 k hk1
  rw [Array.getD_eq_getD_getElem?,Array.getElem?_eq_getElem hk2] at this
  have this : xs[k] < j:=this
  rw [← e]
  simpa using this
 have dr : ∀ x ∈ xs.toList.drop (SetTable.below xs j),j < x:=fun x hx => by
  obtain ⟨k,hk,e⟩:=List.getElem_of_mem hx
  rw [List.getElem_drop] at e
  rw [List.length_drop] at hk
  have hk2 : SetTable.below xs j + k < xs.size:=by simp at hk; omega
  have:=h3 (SetTable.below xs j + k) (by omega) hk2
  rw [Array.getD_eq_getD_getElem?,Array.getElem?_eq_getElem hk2] at this
  have this : ¬ xs[SetTable.below xs j + k] < j:=this
  have ex : xs[SetTable.below xs j + k] = x:=by simpa using e
  have hne : x ≠ j:=fun z => hj (by rw [← z]; exact List.drop_subset _ _ hx)
  rw [ex] at this
  omega
 refine List.pairwise_append.mpr ⟨hp.sublist (List.take_sublist _ _),List.pairwise_cons.mpr ⟨dr,hp.sublist (List.drop_sublist _ _)⟩,fun a ha b hb => ?_⟩
 rcases List.mem_cons.mp hb with rfl | hb
 ·exact tk a ha
 ·exact Nat.lt_trans (tk a ha) (dr b hb)
end Sx
namespace Sx
open PySem
structure Good (t : SetTable) (n : Nat) : Prop where
 mm : Mk t.mask
 ris : Ris t.place
 sz : t.place.size = n
 le : ∀ j ∈ t.place.toList,j ≤ t.mask
 dm : t.dummies = #[]
 pl : t.plain = true
 lt : n ≤ t.mask
theorem Good.fits {t : SetTable} {n : Nat} (g : Good t n) : t.fits n = true:=by
 unfold SetTable.fits SetTable.fill
 rw [g.dm,g.sz]
 have:=g.lt
 simp
 omega
theorem Good.fill {t : SetTable} {n : Nat} (g : Good t n) : t.fill = n:=by
 unfold SetTable.fill
 rw [g.dm,g.sz]
 rfl
theorem zhU (led : Bool) : Good (.fresh 0 0 led) 0:=⟨.inl rfl,List.Pairwise.nil,rfl,fun _ h => absurd h (by simp [SetTable.fresh]),rfl,rfl,Nat.zero_le _⟩
theorem zgC {t : SetTable} {es : Array (Int × Value)} (g : Good t es.size) (hs : es.size + 1 ≤ t.mask) (h : Int) (x : Value) :
  ∃ es' t',layNew t es h x = (es',t',false,false) ∧ Good t' es'.size ∧ es'.size = es.size + 1 ∧ t'.mask = t.mask ∧ t'.led = t.led ∧ es'.toList.Perm (es.toList ++ [(h,x)]):=by
 obtain ⟨j,e,h1,h2⟩:=zgH g.mm g.ris g.dm (by rw [g.sz]; exact g.lt) h
 have hput : t.put j = ({ t with place:=SetTable.insertAt t.place (SetTable.below t.place j) j },SetTable.below t.place j):=by
  unfold SetTable.put
  have : SetTable.has t.dummies j = false:=by rw [g.dm]; rfl
  rw [this]
  simp
 have hsz : ∀ {α : Type} (xs : Array α) (p : Nat) (y : α),(SetTable.insertAt xs p y).size = xs.size + 1:=fun xs p y => by
  have:=(SetTable.insertAt_perm xs p y).length_eq
  simpa using this
 have es1 : (SetTable.insertAt es (SetTable.below t.place j) (h,x)).size = es.size + 1:=hsz _ _ _
 have g' : Good { t with place:=SetTable.insertAt t.place (SetTable.below t.place j) j } (SetTable.insertAt es (SetTable.below t.place j) (h,x)).size:=by
  refine ⟨g.mm,zhG g.ris h1,by rw [es1]; show (SetTable.insertAt t.place _ j).size = _; rw [hsz,g.sz],fun k hk => ?_,g.dm,g.pl,by rw [es1]; exact hs⟩
  have hk : k ∈ (SetTable.insertAt t.place (SetTable.below t.place j) j).toList:=hk
  have:=(SetTable.insertAt_perm t.place (SetTable.below t.place j) j).mem_iff.mp hk
  rw [Array.toList_push] at this
  rcases List.mem_append.mp this with z | z
  ·exact g.le k z
  ·rw [List.mem_singleton.mp z]
   exact h2
 refine ⟨_,_,?_,g',es1,rfl,rfl,?_⟩
 ·unfold layNew
  rw [e]
  dsimp only
  rw [hput]
  dsimp only
  unfold SetTable.orStandIn
  rw [g'.fits]
  rfl
 ·have:=SetTable.insertAt_perm es (SetTable.below t.place j) (h,x)
  rwa [Array.toList_push] at this
theorem zfH {mask : Nat} (hm : Mk mask) (finger moves : Nat) (led : Bool) (hashes : Array Int) (hn : hashes.size ≤ mask) :
  ∃ t order,SetTable.laid mask finger moves led true hashes = some (t,order) ∧ Good t hashes.size ∧ t.mask = mask ∧ t.led = led ∧ order.toList.Perm (List.range hashes.size):=by
 obtain ⟨owner,e,s1,s2⟩:=zgD hm hashes hn
 let live:=(List.range (mask + 1)).filterMap fun j => (owner.getD j none).map (j,·)
 have hl : SetTable.laid mask finger moves led true hashes = some ({ mask:=mask,place:=(live.map (·.1)).toArray,dummies:=#[],finger:=finger,led:=led,moves:=moves,plain:=true },(live.map (·.2)).toArray):=by
  unfold SetTable.laid
  rw [e]
  rfl
 have h2 : live.map (·.2) = owner.toList.filterMap id:=by
  have e1 : (List.range (mask + 1)).map (fun j => owner.getD j none) = owner.toList:=by
   refine List.ext_getElem (by simp [s1]) fun i a b => ?_
   have hi : i < owner.size:=by simpa [s1] using a
   rw [List.getElem_map,List.getElem_range,Array.getD_eq_getD_getElem?,Array.getElem?_eq_getElem hi]
   simp
  rw [← e1,List.filterMap_map]
  show ((List.range (mask + 1)).filterMap fun j => (owner.getD j none).map (j,·)).map (·.2) = _
  rw [List.map_filterMap]
  refine congrArg (fun f => List.filterMap f (List.range (mask + 1))) (funext fun j => ?_)
  show Option.map (·.2) ((owner.getD j none).map (j,·)) = id (owner.getD j none)
  cases owner.getD j none <;> rfl
 have hlen : live.length = hashes.size:=by
  have:=congrArg List.length h2
  rw [List.length_map,s2.length_eq,List.length_range] at this
  exact this
 have mem1 : ∀ j ∈ live.map (·.1),j ≤ mask:=fun j hj => by
  obtain ⟨p,hp,ep⟩:=List.mem_map.mp hj
  obtain ⟨k,hk,ek⟩:=List.mem_filterMap.mp hp
  have:=List.mem_range.mp hk
  cases q : owner.getD k none with
  | none =>
   rw [q] at ek
   cases ek
  | some z =>
   rw [q] at ek
   have : p = (k,z):=(Option.some.inj ek).symm
   rw [← ep,this]
   show k ≤ mask
   omega
 refine ⟨_,_,hl,⟨hm,?_,?_,?_,rfl,rfl,hn⟩,rfl,rfl,?_⟩
 ·show (live.map (·.1)).toArray.toList.Pairwise (· < ·)
  rw [show (live.map (·.1)).toArray.toList = live.map (·.1) from rfl]
  show (((List.range (mask + 1)).filterMap fun j => (owner.getD j none).map (j,·)).map (·.1)).Pairwise (· < ·)
  rw [List.map_filterMap]
  have hp : (List.range (mask + 1)).Pairwise (· < ·):=List.pairwise_lt_range
  refine List.Pairwise.filterMap _ (fun a a' h b hb b' hb' => ?_) hp
  cases q : owner.getD a none with
  | none =>
   rw [q] at hb
   cases hb
  | some z =>
   rw [q] at hb
   cases q' : owner.getD a' none with
   | none =>
    rw [q'] at hb'
    cases hb'
   | some z' =>
    rw [q'] at hb'
    have e1 : a = b:=Option.some.inj hb
    have e2 : a' = b':=Option.some.inj hb'
    omega
 ·show (live.map (·.1)).toArray.size = _
  simpa using hlen
 ·intro j hj
  exact mem1 j (by simpa using hj)
 ·rw [show ((live.map (·.2)).toArray).toList = live.map (·.2) from rfl,h2]
  exact s2
theorem zci {es : Array (Int × Value)} {order : Array Nat} (h : order.toList.Perm (List.range es.size)) : (order.filterMap (es[·]?)).toList.Perm es.toList:=by
 rw [Array.toList_filterMap,← filterMap_getElem?_range es]
 exact h.filterMap _
theorem sizes : (List.range 128).all (fun n => ([7,15,31,63,127] : List Nat).contains (SetTable.sizeAbove n - 1) && decide (n ≤ SetTable.sizeAbove n - 1)) = true:=by decide +kernel
theorem zdr {n : Nat} (h : n < 128) : Mk (SetTable.sizeAbove n - 1) ∧ n ≤ SetTable.sizeAbove n - 1:=by
 have:=List.all_eq_true.mp sizes n (List.mem_range.mpr h)
 rw [Bool.and_eq_true] at this
 refine ⟨?_,of_decide_eq_true this.2⟩
 have h1:=List.contains_iff_mem.mp this.1
 unfold Mk
 simpa using h1
theorem zcr {t : SetTable} {n : Nat} (g : Good t n) (hashes : Array Int) (hh : hashes.size = n) {wanted : Nat} (hw : wanted < 128) (hn : n ≤ wanted) :
  ∃ t' order,t.relaid hashes wanted = some (t',order) ∧ Good t' n ∧ t'.led = t.led ∧ t'.mask = SetTable.sizeAbove wanted - 1 ∧ order.toList.Perm (List.range n):=by
 obtain ⟨h1,h2⟩:=zdr hw
 obtain ⟨t',order,e,g',m',l',p'⟩:=zfH h1 t.finger (t.movedTo (SetTable.sizeAbove wanted - 1)) t.led hashes (by omega)
 refine ⟨t',order,?_,by rw [← hh]; exact g',l',m',by rw [← hh]; exact p'⟩
 unfold SetTable.relaid
 rw [g.pl]
 exact e
theorem zeH {t : SetTable} {es : Array (Int × Value)} (g : Good t es.size) {wanted : Nat} (hw : wanted < 128) (hn : es.size ≤ wanted) :
  ∃ es' t',relayAll t es wanted = (es',t',false) ∧ Good t' es'.size ∧ es'.size = es.size ∧ t'.led = t.led ∧ t'.mask = SetTable.sizeAbove wanted - 1 ∧ es'.toList.Perm es.toList:=by
 obtain ⟨t',order,e,g',l',m',p'⟩:=zcr g (es.map (·.1)) (by simp) hw hn
 have hp:=zci p'
 have hs : (order.filterMap (es[·]?)).size = es.size:=by
  have:=hp.length_eq
  rw [Array.length_toList,Array.length_toList] at this
  exact this
 refine ⟨_,t',?_,by rw [hs]; exact g',hs,l',m',hp⟩
 unfold relayAll
 rw [e]
 dsimp only
 have hc : coversAll order es.size = true:=by
  unfold coversAll
  exact List.isPerm_iff.mpr p'
 rw [hc,hs,g'.fits]
 rfl
end Sx
namespace Sx
open PySem
noncomputable def byT (w : World) : Bool:=w.params.followText "set-order"
noncomputable def kOf (e : Int × Value) : Int:=match e.2 with
 | .int k _ => k
 | _ => 0
noncomputable def GS (w : World) (h : Heap) (a : Addr) (ks : List Int) : Prop:=∃ o es ep t,h.get? a = some o ∧ o.ExactSet ∧ o.data = .set es ep t ∧ Good t es.size ∧ es.size * 5 < t.mask * 3 ∧ t.led = !byT w ∧
 (∀ e ∈ es.toList,∃ k tk,e = (hashInt k,.int k tk)) ∧ (es.toList.map kOf).Perm ks ∧ ks.Nodup
section
variable {prog : Program} {w : World} {A : Around} {E : Value → Shared → Prop} {s : Shared}
theorem els {es : List (Int × Value)} (h : ∀ e ∈ es,∃ k tk,e = (hashInt k,Value.int k tk)) : ElemsOf (intKind prog w) es:=fun e he => by
 obtain ⟨k,tk,rfl⟩:=h e he
 exact ⟨⟨k,intKind_is prog w k tk,rfl⟩,rfl⟩
theorem kOf_is {e : Int × Value} {k : Int} (h : ∃ k tk,e = (hashInt k,Value.int k tk)) : (intKind prog w).is k e.2 = true ↔ kOf e = k:=by
 obtain ⟨k',tk,rfl⟩:=h
 show Value.isInt k (.int k' tk) = true ↔ k' = k
 simp [Value.isInt]
theorem find_ks {es : List (Int × Value)} {ks : List Int} (h : ∀ e ∈ es,∃ k tk,e = (hashInt k,Value.int k tk)) (hp : (es.map kOf).Perm ks) (k : Int) : (es.findIdx? fun e => (intKind prog w).is k e.2).isSome = decide (k ∈ ks):=by
 rw [List.findIdx?_isSome,Bool.eq_iff_iff,List.any_eq_true,decide_eq_true_eq,← hp.mem_iff,List.mem_map]
 constructor
 ·rintro ⟨e,he,hi⟩
  exact ⟨e,he,(kOf_is (h e he)).mp hi⟩
 ·rintro ⟨e,he,hi⟩
  exact ⟨e,he,(kOf_is (h e he)).mpr hi⟩
theorem zdl {t : SetTable} (h : Mk t.mask) : 7 ≤ t.mask ∧ t.mask ≤ 127:=by
 unfold Mk at h
 omega
theorem zg2 {h : Heap} {a : Addr} {o : Obj} {es es2 : Array (Int × Value)} {ep : Nat} {t t2 : SetTable} (ho : h.get? a = some o) (hd : o.data = .set es ep t) : (h.update a (Obj.putSet es2 t2)).get? a = some { o with data:=.set es2 (ep + 1) t2 }:=by
 have e:=putSet_of es2 t2 hd
 have q : (h.update a (Obj.putSet es2 t2)).get? a = some (Obj.putSet es2 t2 o):=Heap.get?_update_self _ ho (by rw [e]; rfl)
 rwa [e] at q
theorem GS.store {h : Heap} {a : Addr} {o : Obj} {es : Array (Int × Value)} {ep : Nat} {t : SetTable} (ho : h.get? a = some o) (hx : o.ExactSet) (hd : o.data = .set es ep t) {es' : Array (Int × Value)} {t' : SetTable} {ks : List Int}
  (g : Good t' es'.size) (hq : es'.size * 5 < t'.mask * 3) (hl : t'.led = !byT w) (he : ∀ e ∈ es'.toList,∃ k tk,e = (hashInt k,Value.int k tk)) (hp : (es'.toList.map kOf).Perm ks) (hn : ks.Nodup) :
  (h.update a (Obj.putSet es' t')).get? a = some { o with data:=.set es' (ep + 1) t' } ∧ GS w (h.update a (Obj.putSet es' t')) a ks:=by
 exact ⟨zg2 ho hd,_,es',ep + 1,t',zg2 ho hd,hx,rfl,g,hq,hl,he,hp,hn⟩
theorem GS.len {h : Heap} {a : Addr} {ks : List Int} {es : Array (Int × Value)} (hp : (es.toList.map kOf).Perm ks) : es.size = ks.length:=by
 have:=hp.length_eq
 rw [List.length_map,Array.length_toList] at this
 exact this
theorem wp_add {a : Addr} {ks : List Int} {k : Int} {tk : Tok} {Q : Bool → Shared → Prop} (hG : GS w s.heap a ks) (hl : ks.length ≤ 30)
  (h : ∀ h',Heap.SameBut a s.heap h' → GS w h' a (if k ∈ ks then ks else ks ++ [k]) → Q (!decide (k ∈ ks)) { s with heap:=h' }) :
  wpAny (model prog w) A (setAddHashed a (.int k tk) (hashInt k)) Q E s:=by
 obtain ⟨o,es,ep,t,ho,hx,hd,g,hq,hled,hes,hp,hn⟩:=id hG
 have hsz:=GS.len (h:=s.heap) (a:=a) hp
 have hel : ElemsOf (intKind prog w) es.toList:=els hes
 have hb : es.size < scanBound:=by unfold scanBound; omega
 obtain ⟨m1,m2⟩:=zdl g.mm
 unfold setAddHashed setAddHashedIn
 refine wpAny_holding (wpAny_bind (wpAny_setState_of ho hd g.fits ?_))
 dsimp only
 rw [byScan_of rfl hb hel]
 simp only [↓reduceIte]
 unfold setAddByScan
 refine wpAny_bind ?_
 refine wpAny_bind (wpAny_rule ?_)
 refine wpAny_bind (wpAny_setScan_of (knd:=intKind prog w) (intKind_is prog w k tk) ho hd g.fits hel ?_)
 have hfk:=find_ks (prog:=prog) (w:=w) hes hp k
 cases hr : List.findIdx? (fun e => (intKind prog w).is k e.2) es.toList with
 | some j =>
  dsimp only
  rw [hr] at hfk
  have hk : k ∈ ks:=of_decide_eq_true hfk.symm
  refine wpAny_pure (wpAny_pure ?_)
  have e : s = { s with heap:=s.heap }:=by cases s; rfl
  have:=h s.heap (Heap.SameBut.refl a s.heap) (by rw [if_pos hk]; exact hG)
  rw [decide_eq_true hk] at this
  rw [e]
  exact this
 | none =>
  dsimp only
  rw [hr] at hfk
  have hk : k ∉ ks:=of_decide_eq_false hfk.symm
  obtain ⟨es1,t1,hL,g1,hs1,hm1,hl1,hp1⟩:=zgC g (by omega) (hashInt k) (.int k tk)
  rw [hL]
  dsimp only
  have he1 : ∀ e ∈ es1.toList,∃ k tk,e = (hashInt k,Value.int k tk):=fun e he => by
   rcases List.mem_append.mp (hp1.mem_iff.mp he) with z | z
   ·exact hes e z
   ·exact ⟨k,tk,List.mem_singleton.mp z⟩
  have hpk : (es1.toList.map kOf).Perm (ks ++ [k]):=by
   refine (hp1.map kOf).trans ?_
   rw [List.map_append]
   exact hp.append (List.Perm.refl _)
  have hnk : (ks ++ [k]).Nodup:=List.nodup_append.mpr ⟨hn,by simp,fun x hx y hy => by rw [List.mem_singleton.mp hy]; exact fun z => hk (by rw [← z]; exact hx)⟩
  have hend : ∀ h',Heap.SameBut a s.heap h' → GS w h' a (ks ++ [k]) → Q true { s with heap:=h' }:=fun h' hsb hg' => by
   have:=h h' hsb
   rw [if_neg hk,decide_eq_false hk] at this
   exact this hg'
  refine wpAny_bind (wpAny_pure ?_)
  rw [if_pos g1.pl,hashByValue_scannable 8 rfl]
  refine wpAny_bind (wpAny_pure ?_)
  simp only [plainKind,↓reduceIte]
  have hfit : es1.size ≤ sizeLine:=by rw [sizeLine_eq]; omega
  refine wpAny_bind (wpAny_storeSet_of ho hd ?_ hfit)
  have hsb1:=Heap.SameBut.update s.heap a (Obj.putSet es1 t1)
  have hg1:=zg2 (es2:=es1) (t2:=t1) ho hd
  cases hf : t1.tooFull with
  | false =>
   simp only [Bool.not_false,Bool.and_false,Bool.false_eq_true,↓reduceIte]
   have hq1 : es1.size * 5 < t1.mask * 3:=by
    have hf' : ¬ (t1.fill * 5 ≥ t1.mask * 3):=by
     unfold SetTable.tooFull at hf
     exact of_decide_eq_false hf
    rw [g1.fill] at hf'
    omega
   refine wpAny_pure (wpAny_pure (hend _ hsb1 (GS.store ho hx hd g1 hq1 (by rw [hl1]; exact hled) he1 hpk hnk).2))
  | true =>
   simp only [Bool.not_false,Bool.and_true,↓reduceIte]
   have hgr : SetTable.grown es1.size = es1.size * 4:=by
    unfold SetTable.grown
    rw [if_neg (by omega)]
   obtain ⟨es2,t2,hR,g2,hs2,hl2,hm2,hp2⟩:=zeH g1 (wanted:=SetTable.grown es1.size) (by rw [hgr]; omega) (by rw [hgr]; omega)
   obtain ⟨_,hbig⟩:=zdr (n:=SetTable.grown es1.size) (by rw [hgr]; omega)
   rw [hR]
   dsimp only
   refine wpAny_bind (wpAny_pure ?_)
   refine wpAny_bind (wpAny_storeSet_of hg1 rfl ?_ (by rw [sizeLine_eq]; omega))
   have hq2 : es2.size * 5 < t2.mask * 3:=by
    rw [hm2]
    rw [hgr] at hbig ⊢
    omega
   refine wpAny_pure (wpAny_pure (hend _ (hsb1.trans (Heap.SameBut.update _ a _)) (GS.store hg1 hx rfl g2 hq2 (by rw [hl2,hl1]; exact hled) (fun e he => he1 e (hp2.mem_iff.mp he)) ((hp2.map kOf).trans hpk) hnk).2))
end
end Sx
namespace Sx
open PySem
section
variable {prog : Program} {w : World} {A : Around} {E : Value → Shared → Prop} {s : Shared}
theorem ziw {n : Nat} (h : n < 128) : SetTable.sizeAbove n ≤ 128:=by
 obtain ⟨h1,_⟩:=zdr h
 unfold Mk at h1
 omega
theorem wp_relay {a : Addr} {ks : List Int} {wanted : Nat} {Q : Unit → Shared → Prop} (hG : GS w s.heap a ks) (hw : wanted < 128) (hn : ks.length * 2 ≤ wanted) (h7 : 1 ≤ wanted)
  (h : ∀ h',Heap.SameBut a s.heap h' → GS w h' a ks → Q () { s with heap:=h' }) : wpAny (model prog w) A (setRelay a wanted) Q E s:=by
 obtain ⟨o,es,ep,t,ho,hx,hd,g,hq,hled,hes,hp,hnd⟩:=id hG
 have hsz:=GS.len (h:=s.heap) (a:=a) hp
 obtain ⟨t2,order,e,g2,l2,m2,p2⟩:=zcr g (es.map (·.1)) (by simp) hw (by omega)
 obtain ⟨_,hbig⟩:=zdr hw
 have hpm:=zci p2
 have hs2 : (order.filterMap (es[·]?)).size = es.size:=by
  have:=hpm.length_eq
  rw [Array.length_toList,Array.length_toList] at this
  exact this
 unfold setRelay
 refine wpAny_bind (wpAny_setState_of ho hd g.fits ?_)
 dsimp only
 rw [if_neg (by rw [sizeLine_eq]; have:=ziw hw; omega),e]
 refine wpAny_bind ?_
 show wpAny _ _ (if ((order.filterMap (es[·]?)).size != es.size) = true then _ else _) _ _ _
 rw [hs2,if_neg (by simp)]
 refine wpAny_pure ?_
 dsimp only
 refine wpAny_storeSet_of ho hd ?_ (by rw [hs2,sizeLine_eq]; have:=(zdl g.mm).2; have:=g.lt; omega)
 refine h _ (Heap.SameBut.update s.heap a _) (GS.store ho hx hd (by rw [hs2]; exact g2) ?_ (by rw [l2]; exact hled) (fun x hx => hes x (hpm.mem_iff.mp hx)) ((hpm.map kOf).trans hp) hnd).2
 rw [hs2,m2]
 omega
theorem wp_room {a : Addr} {ks : List Int} {more : Nat} {Q : Unit → Shared → Prop} (hG : GS w s.heap a ks) (hm : ks.length + more ≤ 60)
  (h : ∀ h',Heap.SameBut a s.heap h' → GS w h' a ks → Q () { s with heap:=h' }) : wpAny (model prog w) A (setRoomFor a more) Q E s:=by
 obtain ⟨o,es,ep,t,ho,hx,hd,g,hq,hled,hes,hp,hnd⟩:=id hG
 have hsz:=GS.len (h:=s.heap) (a:=a) hp
 unfold setRoomFor
 refine wpAny_bind (wpAny_setState_of ho hd g.fits ?_)
 dsimp only
 unfold SetTable.roomFor
 rw [g.fill,g.sz]
 by_cases c : (es.size + more) * 5 ≥ t.mask * 3
 ·rw [if_pos c]
  dsimp only
  have:=(zdl g.mm).1
  exact wp_relay hG (by omega) (by omega) (by omega) h
 ·rw [if_neg c]
  have e : s = { s with heap:=s.heap }:=by cases s; rfl
  have:=h s.heap (Heap.SameBut.refl a s.heap) hG
  exact wpAny_pure (by rw [e]; exact this)
theorem zh0 {f : Nat → PUnit → Sem (ForInStep PUnit)} {J : Nat → Shared → Prop} {Q : PUnit → Shared → Prop} : ∀ (m i : Nat) {s : Shared},J i s → (∀ j s',i ≤ j → j < i + m → J j s' → wpAny (model prog w) A (f j ⟨⟩) (fun r s2 => r = .yield ⟨⟩ ∧ J (j + 1) s2) E s') →
  (∀ s',J (i + m) s' → Q ⟨⟩ s') → wpAny (model prog w) A (forIn (List.range' i m) PUnit.unit f) Q E s
 | 0,i,_,h,_,q => wpAny_pure (q _ h)
 | m + 1,i,s,h,turn,q => by
  show wpAny _ _ (forIn (i :: List.range' (i + 1) m) PUnit.unit f) _ _ _
  rw [List.forIn_cons]
  refine wpAny_bind (wpAny_mono (turn i s (Nat.le_refl i) (by omega) h) (fun r s2 hr => ?_) fun _ _ z => z)
  obtain ⟨e,h2⟩:=hr
  subst e
  exact zh0 m (i + 1) h2 (fun j s' a b c => turn j s' (by omega) (by omega) c) fun s' z => q s' (by rw [show i + (m + 1) = i + 1 + m by omega]; exact z)
noncomputable def DInts (h : Heap) (d : Addr) (js : List Int) : Prop:=∃ o des dep,h.get? d = some o ∧ o.ExactDict ∧ o.data = .dict des dep ∧ des.size = js.length ∧ ∀ (i : Nat) (e : DictEntry) (k : Int),des[i]? = some e → js[i]? = some k → ∃ tk,e.key = .int k tk ∧ e.hash = hashInt k
noncomputable def addK (ks : List Int) (k : Int) : List Int:=if k ∈ ks then ks else ks ++ [k]
noncomputable def addAll (ks js : List Int) : List Int:=js.foldl addK ks
theorem addK_len (ks : List Int) (k : Int) : (addK ks k).length ≤ ks.length + 1:=by
 unfold addK
 split
 ·exact Nat.le_succ _
 ·simp
theorem addAll_len : ∀ (js ks : List Int),(addAll ks js).length ≤ ks.length + js.length
 | [],ks => Nat.le_refl _
 | k :: r,ks => by
  have h1:=addAll_len r (addK ks k)
  have h2:=addK_len ks k
  show (addAll (addK ks k) r).length ≤ ks.length + (r.length + 1)
  omega
theorem mem_addK (ks : List Int) (k x : Int) : x ∈ addK ks k ↔ x ∈ ks ∨ x = k:=by
 unfold addK
 split
 ·rename_i h
  exact ⟨.inl,fun z => z.elim id fun e => by rw [e]; exact h⟩
 ·simp
theorem mem_addAll (x : Int) : ∀ (js ks : List Int),x ∈ addAll ks js ↔ x ∈ ks ∨ x ∈ js
 | [],ks => by simp [addAll]
 | k :: r,ks => by
  show x ∈ addAll (addK ks k) r ↔ _
  rw [mem_addAll x r,mem_addK,List.mem_cons,or_assoc]
theorem zgK {js : List Int} {i : Nat} {k : Int} (h : js[i]? = some k) (ks : List Int) : addAll ks (js.take (i + 1)) = addK (addAll ks (js.take i)) k:=by
 unfold addAll
 rw [List.take_add_one,h,List.foldl_append]
 rfl
theorem zgh {nm : String} {a d : Addr} {ks js : List Int} {Q : Unit → Shared → Prop} (hG : GS w s.heap a ks) (hD : DInts s.heap d js) (hS : (d == sysModules) = false) (hm : ks.length + js.length ≤ 30)
  (h : ∀ h',Heap.SameBut a s.heap h' → GS w h' a (addAll ks js) → Q () { s with heap:=h' }) : wpAny (model prog w) A (Builtin.Frozenset.updateFrom nm a (.ref d)) Q E s:=by
 obtain ⟨oo,des,dep,hoo,hex,hdd,hsz,hel⟩:=id hD
 obtain ⟨oa,es,ep,t,ho,hx,hd,_⟩:=id hG
 have hne : a ≠ d:=fun z => by
  rw [z,hoo] at ho
  cases ho
  rw [hdd] at hd
  cases hd
 have hT : s.TypeIs (.ref d) "dict":=⟨oo,hoo,hex.1⟩
 unfold Builtin.Frozenset.updateFrom Builtin.Frozenset.isAnySet
 refine wpAny_bind (wpAny_bind (wpAny_isInstance hT F.sub_dict_set ?_))
 refine wpAny_isInstance hT F.sub_dict_frozenset ?_
 simp only [Bool.false_eq_true,↓reduceIte]
 refine wpAny_bind (wpAny_typeOf hT ?_)
 rw [if_pos (by decide)]
 refine wpAny_bind (wpAny_rule ?_)
 refine wpAny_bind (wpAny_pure ?_)
 rw [if_neg (by rw [hS]; exact Bool.false_ne_true)]
 refine wpAny_bind (wpAny_dictEpoch hoo hdd ?_)
 refine wpAny_bind (wpAny_dictEntries hoo hdd ?_)
 refine wpAny_bind (wp_room hG (by omega) fun h1 sb1 G1 => ?_)
 have hoo1 : h1.get? d = some oo:=(sb1.2 d (Ne.symm hne)).trans hoo
 refine wpAny_bind (wpAny_dictEntries hoo1 hdd ?_)
 have hrg : (Std.Legacy.Range.size ⟨0,des.size,1,by decide⟩) = des.size:=by
  show (des.size - 0 + 1 - 1) / 1 = des.size
  omega
 refine wpAny_bind ?_
 rw [Std.Legacy.Range.forIn_eq_forIn_range',hrg]
 refine zh0 (J:=fun i s' => ∃ h',s' = { s with heap:=h' } ∧ GS w h' a (addAll ks (js.take i)) ∧ h'.get? d = some oo ∧ Heap.SameBut a s.heap h') des.size 0 ⟨h1,rfl,G1,hoo1,sb1⟩ (fun i s' _ hi hJ => ?_) fun s' hJ => ?_
 ·obtain ⟨h',rfl,hG',hoo',hs'⟩:=hJ
  have hlt : i < des.size:=by omega
  have hij : i < js.length:=by omega
  have hk : js[i]? = some js[i]:=List.getElem?_eq_getElem hij
  obtain ⟨tk,hkey,hhash⟩:=hel i des[i] js[i] (Array.getElem?_eq_getElem hlt) hk
  have hlen : (addAll ks (js.take i)).length ≤ 30:=by
   have e1:=addAll_len (js.take i) ks
   rw [List.length_take] at e1
   omega
  refine wpAny_bind (wpAny_dictEntries hoo' hdd ?_)
  have he : des[i]? = some des[i]:=Array.getElem?_eq_getElem hlt
  rw [he]
  dsimp only
  rw [hkey,hhash]
  refine wpAny_bind (wpAny_holding (wp_add hG' hlen fun h2 sb2 G2 => ?_))
  have hoo2 : h2.get? d = some oo:=(sb2.2 d (Ne.symm hne)).trans hoo'
  refine wpAny_bind (wpAny_dictEpoch hoo2 hdd ?_)
  rw [if_neg (by simp)]
  exact wpAny_pure ⟨rfl,h2,rfl,by rw [zgK hk]; exact G2,hoo2,hs'.trans sb2⟩
 ·obtain ⟨h',rfl,hG',_,hs'⟩:=hJ
  rw [Nat.zero_add,hsz,List.take_length] at hG'
  exact wpAny_pure (h h' hs' hG')
end
end Sx
namespace Sx
open PySem PySem.Spec
theorem zcp : ∀ (js ks : List Int),(ks ++ js).Nodup → addAll ks js = ks ++ js
 | [],ks,_ => by simp [addAll]
 | k :: r,ks,h => by
  have hk : k ∉ ks:=fun z => (List.nodup_append.mp h).2.2 k z k List.mem_cons_self rfl
  show addAll (addK ks k) r = _
  have : addK ks k = ks ++ [k]:=if_neg hk
  rw [this,zcp r (ks ++ [k]) (by rw [List.append_assoc]; exact h),List.append_assoc]
  rfl
section
variable {prog : Program} {w : World} {A : Around} {E : Value → Shared → Prop} {s : Shared}
noncomputable abbrev newS (w : World) : Obj:={ cls:=.type "set",dict:=none,data:=.set #[] 0 (.fresh 0 0 (!byT w)) }
theorem gs_new {h : Heap} {a : Addr} (e : h.get? a = some (newS w)) : GS w h a []:=⟨_,#[],0,_,e,⟨rfl,rfl,rfl⟩,rfl,zhU _,by show 0 * 5 < 7 * 3; decide,rfl,fun _ h => absurd h (by simp),List.Perm.refl _,List.nodup_nil⟩
theorem zbG {Q : Bool → Shared → Prop} (h : Q (byT w) s) : wpAny (model prog w) A setsByText Q E s :=
 wpAny_bind (wpAny_askSetting (wpAny_pure h))
theorem zfc {Q : Value → Shared → Prop} (h : Q (.ref s.heap.objs.size) { s with heap:=s.heap.push (newS w) }) : wpAny (model prog w) A (newSet (.type "set")) Q E s:=by
 unfold newSet newObj
 exact wpAny_bind (zbG (wpAny_bind (wpAny_alloc (wpAny_pure h))))
theorem zf2 {T newId initId : String} {Bi : Builtin} {args : List Value} {Q Q₁ : Value → Shared → Prop} (ft : TypeCalled T newId initId) (ck : checkTypeCall T ⟨args,[]⟩ = pure ()) (en : entryFor table initId = some Bi)
  (made : codeAny (model prog w) A.in1 (.call (.builtin newId) ⟨.type T :: args,[]⟩) (wants Q₁ E) s)
  (next : ∀ x s1,Q₁ x s1 → s1.TypeIs x T ∧ wpAny (model prog w) A.in1.in1 (checkBuiltinCall initId ⟨x :: args,[]⟩) (fun _ s2 => wpAny (model prog w) A.in1.in1 (Bi ⟨x :: args,[]⟩)
   (fun fin s3 => match fin with
    | .done f => wants (fun r s4 => r = .none ∧ Q x s4) E (.ok f) s3
    | .again c => c.quiet = true ∧ codeAny (model prog w) A.in1 c (wants (fun r s4 => r = .none ∧ Q x s4) E) s3) (fun e s3 => wants (fun r s4 => r = .none ∧ Q x s4) E (.error e) s3) s2)
   (fun e s2 => wants (fun r s4 => r = .none ∧ Q x s4) E (.error e) s2) s1) : wpAny (model prog w) A (call (.type T) args) Q E s:=by
 obtain ⟨m0,m1,m2⟩:=ft.mro
 obtain ⟨k1,k2,k3,k4,k5⟩:=And.intro ft.made (And.intro ft.sub (And.intro ft.notType (And.intro ft.canCreate ft.init.lookup)))
 refine wpAny_call (codeAny_of_tree (show wpAny _ _ (callAny (.type T) ⟨args,[]⟩) _ _ _ from wpAny_pure ⟨Code.quiet_builtin _ (by decide +kernel),codeAny_builtin F.entry_type_call ?_⟩))
 rw [Around.under_plain (weight_type_call_type T args []) rfl]
 repeat (any_goals (first | with_reducible assumption | wp_step))
 refine codeAny_mono made fun r s1 hr => ?_
 rcases r with e | fl
 ·exact hr
 rcases fl with _ | _ | _ | x
 all_goals try exact hr.elim
 obtain ⟨hT,hck⟩:=next x s1 hr
 have k6:=ft.init.bind x
 repeat (any_goals (first | with_reducible assumption | wp_step))
 refine codeAny_mono (codeAny_call_builtin ft.init.plain en hck) fun r2 s2 hr2 => ?_
 rcases r2 with e | fl2
 ·exact hr2
 rcases fl2 with _ | _ | _ | y
 all_goals try exact hr2.elim
 obtain ⟨rfl,q⟩:=hr2
 repeat (any_goals (first | with_reducible assumption | wp_step))
theorem zfz (a : Value) {Q₁ : Value → Shared → Prop} (h : Q₁ (.ref s.heap.objs.size) { s with heap:=s.heap.push (newS w) }) : codeAny (model prog w) A (.call (.builtin "set.__new__") ⟨[.type "set",a],[]⟩) (wants Q₁ E) s:=by
 have su:=sub_set_self
 refine codeAny_of_tree (wpAny_bind (wpAny_of_eq (F.newCall_set_1 a) (wpAny_pure (And.intro (plainId_quiet F.plain_set_new _) (codeAny_builtin F.entry_set_new ?_)))))
 rw [Around.under_plainId F.plain_set_new]
 unfold Builtin.«set.__new__»
 unfold Builtin.Frozenset.newClass
 generalize hN : newSet = N
 wp_walk
 subst hN
 exact zfc (wpAny_pure h)
theorem call_set_dict {d : Addr} {js : List Int} {Q : Value → Shared → Prop} (hD : DInts s.heap d js) (hSy : (d == sysModules) = false) (hnd : js.Nodup) (hm : js.length ≤ 30)
  (h : ∀ h',GS w h' s.heap.objs.size js → (∀ b o,s.heap.get? b = some o → h'.get? b = some o) → Q (.ref s.heap.objs.size) { s with heap:=h' }) :
  wpAny (model prog w) A (call (.type "set") [.ref d]) Q E s:=by
 refine zf2 F.called_set (F.typeCall_set_1 (.ref d)) F.entry_set_init (zfz (.ref d) (Q₁:=fun x s1 => x = .ref s.heap.objs.size ∧ s1 = { s with heap:=s.heap.push (newS w) }) ⟨rfl,rfl⟩) fun x s1 hx => ?_
 obtain ⟨rfl,rfl⟩:=hx
 have hS : (s.heap.push (newS w)).get? s.heap.objs.size = some (newS w):=Heap.get?_push_size _ rfl
 have hT : Shared.TypeIs { s with heap:=s.heap.push (newS w) } (.ref s.heap.objs.size) "set":=⟨_,hS,rfl⟩
 have hD2 : DInts (s.heap.push (newS w)) d js:=by
  obtain ⟨o,des,dep,e,c⟩:=hD
  exact ⟨o,des,dep,Heap.get?_push_of_some _ e,c⟩
 refine ⟨hT,check_set_init_1 hT ?_⟩
 unfold Builtin.«set.__init__»
 unfold noKeywords
 generalize hUF : Builtin.Frozenset.updateFrom = UF
 wp_walk
 subst hUF
 refine zgh (ks:=[]) (js:=js) (gs_new hS) hD2 hSy (by simpa using hm) fun h' sb G => ?_
 rw [zcp js [] (by simpa using hnd)] at G
 refine wpAny_pure ⟨rfl,h h' (by simpa using G) fun b o e => ?_⟩
 exact (sb.2 b (Nat.ne_of_lt (Heap.lt_size e))).trans (Heap.get?_push_of_some _ e)
end
end Sx
namespace Sx
open PySem PySem.Spec
theorem zee {α : Type} : ∀ {l : List α} {i : Nat} {x : α},l[i]? = some x → l.Perm (x :: l.eraseIdx i)
 | [],i,x,h => by simp at h
 | y :: r,0,x,h => by
  have e : y = x:=by simpa using h
  subst e
  exact List.Perm.refl _
 | y :: r,i + 1,x,h => by
  have e : r[i]? = some x:=by simpa using h
  rw [List.eraseIdx_cons_succ]
  exact (List.Perm.cons y (zee e)).trans (List.Perm.swap x y _)
theorem ziN {α : Type} (next : Nat → Nat) : ∀ (fuel k : Nat) (left : List α) (out : Array α),left.length = fuel → (pickOrder.go next fuel k left out).toList.Perm (out.toList ++ left)
 | 0,k,left,out,h => by
  have : left = []:=List.length_eq_zero_iff.mp h
  subst this
  simp [pickOrder.go]
 | fuel + 1,k,left,out,h => by
  unfold pickOrder.go
  have hlt : next k % left.length < left.length:=Nat.mod_lt _ (by omega)
  have hx : left[next k % left.length]? = some left[next k % left.length]:=List.getElem?_eq_getElem hlt
  rw [hx]
  dsimp only
  refine (ziN next fuel (k + 1) _ _ (by rw [List.length_eraseIdx,if_pos hlt]; omega)).trans ?_
  rw [Array.toList_push,List.append_assoc]
  exact List.Perm.append_left _ (zee hx).symm
theorem zfq {α : Type} (next : Nat → Nat) (xs : Array α) : (pickOrder next xs).toList.Perm xs.toList:=by
 have:=ziN next xs.size 0 xs.toList #[] (by simp)
 simpa [pickOrder] using this
section
variable {prog : Program} {w : World} {A : Around} {E : Value → Shared → Prop} {s : Shared}
theorem GS.perm {h : Heap} {a : Addr} {ks us : List Int} (g : GS w h a ks) (p : ks.Perm us) : GS w h a us:=by
 obtain ⟨o,es,ep,t,ho,hx,hd,g,hq,hled,hes,hp,hnd⟩:=g
 exact ⟨o,es,ep,t,ho,hx,hd,g,hq,hled,hes,hp.trans p,p.nodup_iff.mp hnd⟩
theorem GS.keep {h h' : Heap} {a : Addr} {ks : List Int} (g : GS w h a ks) (k : ∀ o,h.get? a = some o → h'.get? a = some o) : GS w h' a ks:=by
 obtain ⟨o,es,ep,t,ho,c⟩:=g
 exact ⟨o,es,ep,t,k o ho,c⟩
theorem wp_walk' {a : Addr} {ks : List Int} {Q : Array (Int × Value) → Shared → Prop} (hG : GS w s.heap a ks)
  (h : ∀ es : Array (Int × Value),(∀ e ∈ es.toList,∃ k tk,e = (hashInt k,Value.int k tk)) → (es.toList.map kOf).Perm ks → Q es s) : wpAny (model prog w) A (setWalk a) Q E s:=by
 obtain ⟨o,es,ep,t,ho,hx,hd,g,hq,hled,hes,hp,hnd⟩:=hG
 unfold setWalk
 refine wpAny_bind (wpAny_setState_of ho hd g.fits ?_)
 dsimp only
 refine wpAny_bind (zbG ?_)
 cases hb : byT w with
 | true =>
  simp only [↓reduceIte]
  refine wpAny_bind (wpAny_askSetting (wpAny_pure ?_))
  have pp:=zfq ((⟨prog,w.params⟩ : Setting).params.setOrder a ep) es
  exact h _ (fun e he => hes e (pp.mem_iff.mp he)) ((pp.map kOf).trans hp)
 | false =>
  simp only [Bool.false_eq_true,↓reduceIte]
  have hdr : (!t.plain && decide (es.size > 1)) = false:=by rw [g.pl]; rfl
  have hml : (!t.led && decide (es.size > 1)) = false:=by rw [hled,hb]; rfl
  show wpAny _ _ (if (!t.plain && decide (es.size > 1)) = true then _ else _) _ _ _
  rw [hdr,if_neg Bool.false_ne_true]
  refine wpAny_bind ?_
  show wpAny _ _ (if (!t.led && decide (es.size > 1)) = true then _ else _) _ _ _
  rw [hml,if_neg Bool.false_ne_true]
  exact wpAny_pure (wpAny_pure (h es hes hp))
theorem wp_walkU {a : Addr} {ks : List Int} {others : List Addr} {filled : Option Addr} {Q : Array (Int × Value) → Shared → Prop} (hG : GS w s.heap a ks)
  (h : ∀ es : Array (Int × Value),(∀ e ∈ es.toList,∃ k tk,e = (hashInt k,Value.int k tk)) → (es.toList.map kOf).Perm ks → Q es s) : wpAny (model prog w) A (setWalkUnseen a others filled) Q E s:=by
 obtain ⟨o,es,ep,t,ho,hx,hd,g,hq,hled,_⟩:=id hG
 unfold setWalkUnseen
 refine wpAny_bind (wpAny_setState_of ho hd g.fits ?_)
 dsimp only
 refine wpAny_bind (zbG ?_)
 have : (byT w || t.led && t.plain || decide (es.size ≤ 1)) = true:=by
  rw [hled,g.pl]
  cases byT w <;> rfl
 rw [if_pos (by simpa using this)]
 exact wp_walk' hG h
theorem zcc : ∀ (js ks : List Int),ks.Nodup → (addAll ks js).Nodup
 | [],ks,h => h
 | k :: r,ks,h => by
  refine zcc r (addK ks k) ?_
  unfold addK
  split
  ·exact h
  ·rename_i hk
   exact List.nodup_append.mpr ⟨h,by simp,fun x hx y hy => by rw [List.mem_singleton.mp hy]; exact fun z => hk (by rw [← z]; exact hx)⟩
theorem zgL {ks js js' : List Int} (hn : ks.Nodup) (hp : js.Perm js') : (addAll ks js).Perm (addAll ks js') :=
 (List.perm_ext_iff_of_nodup (zcc _ _ hn) (zcc _ _ hn)).mpr fun x => by rw [mem_addAll,mem_addAll,hp.mem_iff]
theorem wp_one {a b : Addr} {ks js : List Int} {ob : Obj} {each : Sem Unit} {Q : Unit → Shared → Prop} {epoch : Nat} (hab : a ≠ b) (hA : GS w s.heap a ks) (hB : GS w s.heap b js) (hob : s.heap.get? b = some ob)
  (hep : ∀ es ep t,ob.data = .set es ep t → ep = epoch) (heach : ∀ (s' : Shared) (Q : Unit → Shared → Prop),s'.heap.get? b = some ob → Q () s' → wpAny (model prog w) A each Q E s') (hm : ks.length + js.length ≤ 30)
  (h : ∀ h',Heap.SameBut a s.heap h' → GS w h' a (addAll ks js) → Q () { s with heap:=h' }) :
  wpAny (model prog w) A (do
   for (hh,x) in ← setWalkUnseen b [a] (some a) do
    let _ ← holding [x] (setAddHashed a x hh)
    each
    if (← setState b).2.1 != epoch then unsupported "set.changed-during-merge") Q E s:=by
 obtain ⟨o,esb,epb,tb,ho,hx,hd,g,_⟩:=id hB
 rw [hob] at ho
 cases ho
 have he:=hep _ _ _ hd
 subst he
 have hkn : ks.Nodup:=by obtain ⟨_,_,_,_,_,_,_,_,_,_,_,_,z⟩:=hA; exact z
 refine wpAny_bind (wp_walkU hB fun es h1 h2 => ?_)
 have hlen : es.toList.length = js.length:=by rw [← h2.length_eq,List.length_map]
 refine wpAny_bind ?_
 rw [← Array.forIn_toList]
 refine wpAny_forIn_list _
  (fun rest _ s' => ∃ h' i,s' = { s with heap:=h' } ∧ rest = es.toList.drop i ∧ i ≤ es.toList.length ∧ GS w h' a (addAll ks ((es.toList.take i).map kOf)) ∧ h'.get? b = some ob ∧ Heap.SameBut a s.heap h')
  _ ?_ ?_ _ _ ⟨s.heap,0,rfl,by simp,Nat.zero_le _,by simpa [addAll] using hA,hob,Heap.SameBut.refl _ _⟩
 ·rintro x rest bb s' ⟨h',i,rfl,hr,hi,hG',hob',hs'⟩
  have hxi : es.toList[i]? = some x:=by
   have:=congrArg List.head? hr
   rw [List.head?_drop] at this
   simpa using this.symm
  have hrest : rest = es.toList.drop (i + 1):=by
   have:=congrArg List.tail hr
   rw [List.tail_drop] at this
   simpa using this
  have hlt : i < es.toList.length:=(List.getElem?_eq_some_iff.mp hxi).1
  obtain ⟨k,tk,rfl⟩:=h1 x (List.mem_of_getElem? hxi)
  dsimp only
  have hl30 : (addAll ks ((es.toList.take i).map kOf)).length ≤ 30:=by
   have e1:=addAll_len ((es.toList.take i).map kOf) ks
   rw [List.length_map,List.length_take] at e1
   omega
  refine wpAny_bind (wpAny_holding (wp_add hG' hl30 fun h'' sb'' G'' => ?_))
  have hob'' : h''.get? b = some ob:=(sb''.2 b (Ne.symm hab)).trans hob'
  refine wpAny_bind (heach _ _ hob'' ?_)
  refine wpAny_bind (wpAny_setState_of (s:={ s with heap:=h'' }) hob'' hd g.fits ?_)
  dsimp only
  rw [if_neg (by simp)]
  refine wpAny_pure ⟨h'',i + 1,rfl,hrest,hlt,?_,hob'',hs'.trans sb''⟩
  have : (es.toList.take (i + 1)).map kOf = (es.toList.take i).map kOf ++ [k]:=by
   rw [List.take_add_one,hxi,List.map_append]
   rfl
  rw [this]
  unfold addAll
  rw [List.foldl_append]
  exact G''
 ·rintro bb s' ⟨h',i,rfl,hr,hi,hG',hob',hs'⟩
  have hin : i = es.toList.length:=by
   have:=congrArg List.length hr
   rw [List.length_drop] at this
   simp at this
   simp
   simp at hi
   omega
  have : es.toList.take i = es.toList:=by rw [hin,List.take_length]
  rw [this] at hG'
  exact wpAny_pure (h h' hs' (hG'.perm (zgL hkn h2)))
end
end Sx
namespace Sx
open PySem PySem.Spec
section
variable {prog : Program} {w : World} {A : Around} {E : Value → Shared → Prop} {s : Shared}
noncomputable def GSr (w : World) (h : Heap) (a : Addr) (ks : List Int) (m : Nat) : Prop:=∃ o es ep t,h.get? a = some o ∧ o.ExactSet ∧ o.data = .set es ep t ∧ Good t es.size ∧ es.size * 5 < t.mask * 3 ∧ t.led = !byT w ∧
 (∀ e ∈ es.toList,∃ k tk,e = (hashInt k,Value.int k tk)) ∧ (es.toList.map kOf).Perm ks ∧ ks.Nodup ∧ m * 5 < t.mask * 3
theorem GSr.gs {h : Heap} {a : Addr} {ks : List Int} {m : Nat} (g : GSr w h a ks m) : GS w h a ks:=by
 obtain ⟨o,es,ep,t,ho,hx,hd,g,hq,hled,hes,hp,hnd,_⟩:=g
 exact ⟨o,es,ep,t,ho,hx,hd,g,hq,hled,hes,hp,hnd⟩
theorem wp_roomR {a : Addr} {ks : List Int} {more : Nat} {Q : Unit → Shared → Prop} (hG : GS w s.heap a ks) (hm : ks.length + more ≤ 60)
  (h : ∀ h',Heap.SameBut a s.heap h' → GSr w h' a ks (ks.length + more) → Q () { s with heap:=h' }) : wpAny (model prog w) A (setRoomFor a more) Q E s:=by
 obtain ⟨o,es,ep,t,ho,hx,hd,g,hq,hled,hes,hp,hnd⟩:=id hG
 have hsz:=GS.len (h:=s.heap) (a:=a) hp
 obtain ⟨m1,m2⟩:=zdl g.mm
 unfold setRoomFor
 refine wpAny_bind (wpAny_setState_of ho hd g.fits ?_)
 dsimp only
 unfold SetTable.roomFor
 rw [g.fill,g.sz]
 by_cases c : (es.size + more) * 5 ≥ t.mask * 3
 ·rw [if_pos c]
  dsimp only
  have hw : (es.size + more) * 2 < 128:=by omega
  obtain ⟨t2,order,e,g2,l2,mk2,p2⟩:=zcr g (es.map (·.1)) (by simp) hw (by omega)
  obtain ⟨_,hbig⟩:=zdr hw
  have hpm:=zci p2
  have hs2 : (order.filterMap (es[·]?)).size = es.size:=by
   have:=hpm.length_eq
   rw [Array.length_toList,Array.length_toList] at this
   exact this
  unfold setRelay
  refine wpAny_bind (wpAny_setState_of ho hd g.fits ?_)
  dsimp only
  rw [if_neg (by rw [sizeLine_eq]; have:=ziw hw; omega),e]
  refine wpAny_bind ?_
  show wpAny _ _ (if ((order.filterMap (es[·]?)).size != es.size) = true then _ else _) _ _ _
  rw [hs2,if_neg (by simp)]
  refine wpAny_pure ?_
  dsimp only
  refine wpAny_storeSet_of ho hd ?_ (by rw [hs2,sizeLine_eq]; have:=g.lt; omega)
  have hgt:=zg2 (es2:=order.filterMap (es[·]?)) (t2:=t2) ho hd
  refine h _ (Heap.SameBut.update s.heap a _) ⟨_,_,_,_,hgt,hx,rfl,by rw [hs2]; exact g2,?_,by rw [l2]; exact hled,fun x hx => hes x (hpm.mem_iff.mp hx),(hpm.map kOf).trans hp,hnd,?_⟩
  ·rw [hs2,mk2]
   omega
  ·rw [mk2]
   omega
 ·rw [if_neg c]
  have e : s = { s with heap:=s.heap }:=by cases s; rfl
  have:=h s.heap (Heap.SameBut.refl a s.heap) ⟨o,es,ep,t,ho,hx,hd,g,hq,hled,hes,hp,hnd,by omega⟩
  exact wpAny_pure (by rw [e]; exact this)
theorem zgN {a b : Addr} {ks js : List Int} {each : Sem Unit} {Q : Unit → Shared → Prop} (hab : a ≠ b) (hA : GS w s.heap a ks) (hB : GS w s.heap b js)
  (heach : ∀ (s' : Shared) (Q : Unit → Shared → Prop),s'.heap.get? b = s.heap.get? b → Q () s' → wpAny (model prog w) A each Q E s') (hm : ks.length + js.length ≤ 30)
  (h : ∀ h',Heap.SameBut a s.heap h' → GS w h' a (addAll ks js) → Q () { s with heap:=h' }) : wpAny (model prog w) A (setMerge a b each) Q E s:=by
 obtain ⟨ob,eb,epb,tb,hob,hxb,hdb,gb,hqb,hledb,hesb,hpb,hndb⟩:=id hB
 have hszb:=GS.len (h:=s.heap) (a:=b) hpb
 unfold setMerge
 rw [if_neg (by simpa using hab)]
 refine wpAny_bind (wpAny_setState_of hob hdb gb.fits ?_)
 dsimp only
 have es0 : s = { s with heap:=s.heap }:=by cases s; rfl
 cases hem : eb.isEmpty with
 | true =>
  simp only [↓reduceIte]
  have : js = []:=by
   have : eb.size = 0:=by simpa using hem
   exact List.length_eq_zero_iff.mp (by omega)
  subst this
  exact wpAny_pure (by rw [es0]; exact h s.heap (Heap.SameBut.refl a s.heap) hA)
 | false =>
  simp only [Bool.false_eq_true,↓reduceIte]
  refine wpAny_bind (wp_roomR hA (by omega) fun h1 sb1 G1 => ?_)
  have hob1 : h1.get? b = some ob:=(sb1.2 b (Ne.symm hab)).trans hob
  obtain ⟨oa,ea,epa,ta,hoa,hxa,hda,ga,hqa,hleda,hesa,hpa,hnda,hroom⟩:=id G1
  refine wpAny_bind (wpAny_setState_of (s:={ s with heap:=h1 }) hoa hda ga.fits ?_)
  dsimp only
  have hsza:=GS.len (h:=h1) (a:=a) hpa
  cases hk : ks with
  | nil =>
   subst hk
   have ha0 : ea.size = 0:=by simpa using hsza
   have hfill : (ta.fill != 0) = false:=by rw [ga.fill,ha0]; rfl
   have haj : addAll [] js = js:=by rw [zcp js [] (by simpa using hndb)]; rfl
   unfold SetTable.road
   rw [hfill,if_neg Bool.false_ne_true]
   have hgt : ∀ (es' : Array (Int × Value)) (t' : SetTable),Good t' es'.size → es'.size * 5 < t'.mask * 3 → t'.led = !byT w → es'.toList.Perm eb.toList → GS w (h1.update a (Obj.putSet es' t')) a (addAll [] js):=fun es' t' g' q' l' p' => by
    rw [haj]
    exact (GS.store hoa hxa hda g' q' l' (fun x hx => hesb x (p'.mem_iff.mp hx)) ((p'.map kOf).trans hpb) hndb).2
   by_cases hmk : (ta.mask == tb.mask && tb.dummies.isEmpty) = true
   ·rw [if_pos hmk]
    dsimp only
    refine wpAny_storeSet_of (s:={ s with heap:=h1 }) hoa hda ?_ (by rw [sizeLine_eq]; omega)
    refine h _ (sb1.trans (Heap.SameBut.update h1 a _)) (hgt eb _ ⟨gb.mm,gb.ris,gb.sz,gb.le,gb.dm,?_,gb.lt⟩ hqb ?_ (List.Perm.refl _))
    ·show (ta.plain && tb.plain) = true
     rw [ga.pl,gb.pl]
     rfl
    ·show (ta.led && tb.led) = !byT w
     rw [hleda,hledb,Bool.and_self]
   ·rw [if_neg hmk]
    dsimp only
    have hns : ([] : List Int).length + eb.size = eb.size:=by simp
    rw [hns] at hroom
    obtain ⟨t2,order,e,g2,m2,l2,p2⟩:=zfH ga.mm ta.finger ta.moves (ta.led && tb.led) (eb.map (·.1)) (by rw [Array.size_map]; omega)
    rw [Array.size_map] at g2 p2
    have hpm:=zci p2
    have hs2 : (order.filterMap (eb[·]?)).size = eb.size:=by
     have:=hpm.length_eq
     rw [Array.length_toList,Array.length_toList] at this
     exact this
    have hpl : (ta.plain && tb.plain) = true:=by rw [ga.pl,gb.pl]; rfl
    rw [hpl,e]
    refine wpAny_bind ?_
    show wpAny _ _ (if ((order.filterMap (eb[·]?)).size != eb.size) = true then _ else _) _ _ _
    rw [hs2,if_neg (by simp)]
    refine wpAny_pure ?_
    dsimp only
    refine wpAny_storeSet_of (s:={ s with heap:=h1 }) hoa hda ?_ (by rw [hs2,sizeLine_eq]; omega)
    refine h _ (sb1.trans (Heap.SameBut.update h1 a _)) (hgt _ t2 (by rw [hs2]; exact g2) (by rw [hs2,m2]; exact hroom) ?_ hpm)
    rw [l2,hleda,hledb,Bool.and_self]
  | cons k0 kr =>
   have hfill : (ta.fill != 0) = true:=by
    rw [ga.fill,hsza,hk]
    rfl
   unfold SetTable.road
   rw [hfill,if_pos rfl]
   dsimp only
   refine wp_one (s:={ s with heap:=h1 }) hab G1.gs (hB.keep fun o e => (sb1.2 b (Ne.symm hab)).trans e) hob1 (fun es' ep' t' e => ?_) (fun s' Q' e q => heach s' Q' (e.trans hob.symm) q) hm (fun h' sb G => h h' (sb1.trans sb) G)
   rw [hdb] at e
   cases e
   rfl
end
end Sx
namespace Sx
open PySem PySem.Spec
theorem zfT : entryFor table "set.__or__" = some Builtin.«frozenset.__or__»:=entryFor_alias (id':="frozenset.__or__") (by kernel_rfl) rfl (by decide +kernel) (by kernel_rfl)
section
variable {prog : Program} {w : World} {A : Around} {E : Value → Shared → Prop} {s : Shared}
theorem GS.type {a : Addr} {ks : List Int} (g : GS w s.heap a ks) : s.TypeIs (.ref a) "set":=by
 obtain ⟨o,es,ep,t,ho,hx,_⟩:=g
 exact ⟨o,ho,hx.1⟩
theorem zej {a : Addr} {Q : Bool → Shared → Prop} (hT : s.TypeIs (.ref a) "set") (h : Q true s) : wpAny (model prog w) A (Builtin.Frozenset.isAnySet (.ref a)) Q E s:=by
 unfold Builtin.Frozenset.isAnySet
 refine wpAny_bind (wpAny_isInstance hT sub_set_self ?_)
 exact wpAny_pure h
theorem zh1 {a : Addr} {ks : List Int} {Q : Value → Shared → Prop} (hG : GS w s.heap a ks) (hm : ks.length ≤ 30)
  (h : ∀ h',GS w h' s.heap.objs.size ks → (∀ b o,s.heap.get? b = some o → h'.get? b = some o) → Q (.ref s.heap.objs.size) { s with heap:=h' }) : wpAny (model prog w) A (Builtin.Frozenset.copyOf a) Q E s:=by
 obtain ⟨o,es,ep,t,ho,_⟩:=id hG
 have hnd : ks.Nodup:=by obtain ⟨_,_,_,_,_,_,_,_,_,_,_,_,z⟩:=hG; exact z
 have hlt:=Heap.lt_size ho
 unfold Builtin.Frozenset.copyOf Builtin.Frozenset.baseOf
 refine wpAny_bind (wpAny_bind (wpAny_isInstance hG.type sub_set_self ?_))
 simp only [↓reduceIte]
 refine wpAny_pure (wpAny_bind (zfc ?_))
 refine wpAny_bind (wpAny_pure ?_)
 have hN : GS w (s.heap.push (newS w)) s.heap.objs.size []:=gs_new (Heap.get?_push_size _ rfl)
 have hG2 : GS w (s.heap.push (newS w)) a ks:=hG.keep fun o e => Heap.get?_push_of_some _ e
 refine wpAny_bind (zgN (s:={ s with heap:=s.heap.push (newS w) }) (a:=s.heap.objs.size) (b:=a) (Nat.ne_of_gt hlt) hN hG2 (fun s' Q' _ q => wpAny_pure q) (by simpa using hm) fun h' sb G => ?_)
 rw [zcp ks [] (by simpa using hnd)] at G
 refine wpAny_pure (h h' (by simpa using G) fun b o e => ?_)
 exact (sb.2 b (Nat.ne_of_lt (Heap.lt_size e))).trans (Heap.get?_push_of_some _ e)
theorem zhA {nm : String} {a b : Addr} {ks js : List Int} {Q : Unit → Shared → Prop} (hab : a ≠ b) (hA : GS w s.heap a ks) (hB : GS w s.heap b js) (hm : ks.length + js.length ≤ 30)
  (h : ∀ h',Heap.SameBut a s.heap h' → GS w h' a (addAll ks js) → Q () { s with heap:=h' }) : wpAny (model prog w) A (Builtin.Frozenset.updateFrom nm a (.ref b)) Q E s:=by
 obtain ⟨ob,eb,epb,tb,hob,hxb,hdb,gb,_⟩:=id hB
 unfold Builtin.Frozenset.updateFrom
 refine wpAny_bind (zej hB.type ?_)
 simp only [↓reduceIte]
 refine wpAny_bind (wpAny_pure ?_)
 unfold Builtin.Frozenset.merge
 refine wpAny_bind (wpAny_setEpoch_of hob hdb gb.fits ?_)
 refine zgN hab hA hB (fun s' Q' e q => ?_) hm h
 unfold Builtin.Frozenset.unchanged
 refine wpAny_bind (wpAny_setEpoch_of (e.trans hob) hdb gb.fits ?_)
 rw [if_neg (by simp)]
 exact wpAny_pure q
theorem wp_or {a b : Addr} {ks js : List Int} {Q : Value → Shared → Prop} (hab : a ≠ b) (hA : GS w s.heap a ks) (hB : GS w s.heap b js) (hm : ks.length + js.length ≤ 30)
  (h : ∀ h',GS w h' s.heap.objs.size (addAll ks js) → (∀ b o,s.heap.get? b = some o → h'.get? b = some o) → Q (.ref s.heap.objs.size) { s with heap:=h' }) : wpAny (model prog w) A (binaryOp .BitOr (.ref a) (.ref b)) Q E s:=by
 refine wpAny_binaryOp_same (op:=.BitOr) (T:="set") hA.type hB.type F.fills_set_or F.slot_set_or
  (wpAny_call_entry F.slot_set_or hA.type zfT ?_ (F.args_set_or_2 _ _))
 show wpAny _ _ (do
  let (self,other) ← Builtin.Frozenset.slot1 "__or__" ⟨[.ref a,.ref b],[]⟩
  let (l,r):=if false then (other,self) else (self,other)
  if !(← Builtin.Frozenset.isAnySet l <&&> Builtin.Frozenset.isAnySet r) then rule s!"frozenset.{"__or__"}.declined"; return ← ret .notImplemented
  ret (← (do
   let result ← Builtin.Frozenset.copyOf (← Builtin.Frozenset.addrOf l)
   if r != .ref (← Builtin.Frozenset.addrOf l) then holding [result] (Builtin.Frozenset.updateFrom s!"frozenset.{"__or__"}" (← Builtin.Frozenset.addrOf result) r)
   return result))) _ _ _
 have hnd : ks.Nodup:=by obtain ⟨_,_,_,_,_,_,_,_,_,_,_,_,z⟩:=hA; exact z
 refine wpAny_bind (wpAny_of_eq (show Builtin.Frozenset.slot1 "__or__" ⟨[.ref a,.ref b],[]⟩ = pure (.ref a,.ref b) from rfl) ?_)
 dsimp only
 simp only [Bool.false_eq_true,↓reduceIte]
 refine wpAny_bind (wpAny_bind (zej hA.type ?_))
 refine zej hB.type ?_
 simp only [Bool.not_true,Bool.false_eq_true,↓reduceIte]
 refine wpAny_bind ?_
 refine wpAny_bind (wpAny_pure ?_)
 refine wpAny_bind (zh1 hA (by omega) fun h1 G1 k1 => ?_)
 have hne : ((Value.ref b) != Value.ref a) = true:=by simpa using fun z : b = a => hab z.symm
 refine wpAny_bind (wpAny_pure ?_)
 rw [if_pos hne]
 refine wpAny_bind (wpAny_pure ?_)
 have hb1 : GS w h1 b js:=hB.keep (k1 b)
 have hbl : b < s.heap.objs.size:=by obtain ⟨_,_,_,_,e,_⟩:=hB; exact Heap.lt_size e
 refine wpAny_bind (wpAny_holding (zhA (s:={ s with heap:=h1 }) (Nat.ne_of_gt hbl) G1 hb1 hm fun h2 sb2 G2 => ?_))
 refine wpAny_pure (wpAny_pure ⟨_,rfl,by simp,h h2 G2 fun c o e => ?_⟩)
 exact (sb2.2 c (Nat.ne_of_lt (Heap.lt_size e))).trans (k1 c o e)
end
end Sx
namespace Sx
open PySem PySem.Spec
theorem zd1 : entryFor table "set.__iter__" = some Builtin.«frozenset.__iter__»:=entryFor_alias (id':="frozenset.__iter__") (by kernel_rfl) rfl (by decide +kernel) (by kernel_rfl)
theorem zix {nm : Str} {id n : String} (l : typeLookup (.type "set_iterator") nm = pure (some (.builtin id))) (c : splitId id = some ("set_iterator",n)) (c1 : withoutEnding? id "#opaque" = none) (c2 : withoutEnding? id "#data" = none)
  (c3 : (Manifest.find? "set_iterator").bind (·.attrs.lookup n) = some .slot) (c4 : plainId id = true) : Slot "set_iterator" nm id :=
 Slot.of l c c1 c2 (Or.inl c3) (by rw [isSubtype_type]; kernel_rfl) c4
theorem za7 : Slot "set_iterator" "__next__" "set_iterator.__next__":=zix (n:="__next__") (by rw [typeLookup_type,builtinLookup_eq_fast]; kernel_rfl) (by decide +kernel) (by decide +kernel) (by decide +kernel) (by decide +kernel) (by decide +kernel)
theorem zcP : entryFor table "set_iterator.__next__" = some Builtin.«set_iterator.__next__»:=entryFor_of_tree (by kernel_rfl)
theorem zdb (a : Value) : argsOk "set_iterator.__next__" ⟨[a],[]⟩:=by unfold argsOk; kernel_rfl
structure SO (w : World) (o : Obj) (es : Array (Int × Value)) (ep : Nat) (t : SetTable) (ks : List Int) : Prop where
 ex : o.ExactSet
 dt : o.data = .set es ep t
 g : Good t es.size
 led : t.led = !byT w
 el : ∀ e ∈ es.toList,∃ k tk,e = (hashInt k,Value.int k tk)
 pm : (es.toList.map kOf).Perm ks
 nd : ks.Nodup
theorem GS.so {w : World} {h : Heap} {a : Addr} {ks : List Int} (g : GS w h a ks) : ∃ o es ep t,h.get? a = some o ∧ SO w o es ep t ks:=by
 obtain ⟨o,es,ep,t,ho,hx,hd,g,hq,hled,hes,hp,hnd⟩:=g
 exact ⟨o,es,ep,t,ho,hx,hd,g,hled,hes,hp,hnd⟩
noncomputable def zbX (w : World) (a : Addr) (es : Array (Int × Value)) (ep : Nat) : Array (Int × Value):=if byT w = true then pickOrder (w.params.setOrder a ep) es else es
theorem zdo (w : World) (a : Addr) (es : Array (Int × Value)) (ep : Nat) : (zbX w a es ep).toList.Perm es.toList:=by
 unfold zbX
 split
 ·exact zfq _ _
 ·exact List.Perm.refl _
theorem zcz (w : World) (a : Addr) (es : Array (Int × Value)) (ep : Nat) : (zbX w a es ep).size = es.size:=by
 have:=(zdo w a es ep).length_eq
 rwa [Array.length_toList,Array.length_toList] at this
noncomputable def zbs (t : SetTable) (i : Nat) : Nat:=match i with
 | 0 => 0
 | i + 1 => t.place.getD i 0 + 1
theorem zhZ {t : SetTable} (h : Ris t.place) {i : Nat} (hi : i ≤ t.place.size) : SetTable.below t.place (zbs t i) = i:=by
 obtain ⟨h1,h2,h3⟩:=ze9 h (zbs t i)
 cases i with
 | zero =>
  by_cases c : 0 < SetTable.below t.place (zbs t 0)
  ·have:=h2 0 c
   have e : zbs t 0 = 0:=rfl
   omega
  ·omega
 | succ i =>
  have e : zbs t (i + 1) = t.place.getD i 0 + 1:=rfl
  have up : ¬ SetTable.below t.place (zbs t (i + 1)) ≤ i:=fun z => by
   have:=h3 i z (by omega)
   omega
  by_cases c : i + 1 < SetTable.below t.place (zbs t (i + 1))
  ·have a1:=h2 (i + 1) c
   have a2:=zeB h (show i < i + 1 by omega) (show i + 1 < t.place.size by omega)
   omega
  ·omega
section
variable {prog : Program} {w : World} {A : Around} {E : Value → Shared → Prop} {s : Shared} {o : Obj} {es : Array (Int × Value)} {ep : Nat} {t : SetTable} {ks : List Int} {a : Addr}
theorem zd3 {i slot : Nat} {Q : Option (Value × Nat) → Shared → Prop} (ho : s.heap.get? a = some o) (g : SO w o es ep t ks) (hi : i ≤ es.size) (hs : byT w = false → slot = zbs t i)
  (h : ∀ nx,(byT w = false → nx = zbs t (i + 1)) → Q (((zbX w a es ep)[i]?).map fun e => (e.2,nx)) s) : wpAny (model prog w) A (setNext a slot i ep) Q E s:=by
 unfold setNext
 refine wpAny_bind (wpAny_setState_of ho g.dt g.g.fits ?_)
 dsimp only
 refine wpAny_bind (zbG ?_)
 cases hb : byT w with
 | true =>
  simp only [↓reduceIte]
  rw [if_neg (by simp)]
  unfold setWalk
  refine wpAny_bind (wpAny_bind (wpAny_setState_of ho g.dt g.g.fits ?_))
  dsimp only
  refine wpAny_bind (zbG ?_)
  rw [if_pos hb]
  refine wpAny_bind (wpAny_askSetting (wpAny_pure ?_))
  have hw : zbX w a es ep = pickOrder (w.params.setOrder a ep) es:=by unfold zbX; rw [if_pos hb]
  have:=h slot (fun z => by rw [hb] at z; cases z)
  rw [hw] at this
  exact wpAny_pure this
 | false =>
  simp only [Bool.false_eq_true,↓reduceIte]
  have hdr : (!t.plain && decide (es.size > 1)) = false:=by rw [g.g.pl]; rfl
  have hml : (!t.led && !es.isEmpty) = false:=by rw [g.led,hb]; rfl
  show wpAny _ _ (if (!t.plain && decide (es.size > 1)) = true then _ else _) _ _ _
  rw [hdr,if_neg Bool.false_ne_true]
  refine wpAny_bind ?_
  show wpAny _ _ (if (!t.led && !es.isEmpty) = true then _ else _) _ _ _
  rw [hml,if_neg Bool.false_ne_true]
  refine wpAny_pure ?_
  rw [hs hb,zhZ g.g.ris (by rw [g.g.sz]; exact hi)]
  have hw : zbX w a es ep = es:=by unfold zbX; rw [if_neg (by rw [hb]; exact Bool.false_ne_true)]
  have:=h (zbs t (i + 1)) (fun _ => rfl)
  rw [hw] at this
  refine wpAny_pure ?_
  by_cases hlt : i < es.size
  ·have hp : i < t.place.size:=by rw [g.g.sz]; exact hlt
   rw [Array.getElem?_eq_getElem hlt] at this ⊢
   rw [Array.getElem?_eq_getElem hp]
   have e : zbs t (i + 1) = t.place[i] + 1:=by
    show t.place.getD i 0 + 1 = _
    rw [Array.getD_eq_getD_getElem?,Array.getElem?_eq_getElem hp]
    rfl
   rw [e] at this
   exact this
  ·rw [Array.getElem?_eq_none (by omega)] at this ⊢
   exact this
end
end Sx
namespace Sx
open PySem PySem.Spec
noncomputable def siO (a : Addr) (slot i n ep : Nat) : Obj:={ cls:=.type "set_iterator",data:=.fields #[.int slot 0,.int i 0,.ref a,.int n 0,.int ep 0] }
theorem zc5 : Slot "set_iterator" "__iter__" "set_iterator.__iter__":=zix (n:="__iter__") (by rw [typeLookup_type,builtinLookup_eq_fast]; kernel_rfl) (by decide +kernel) (by decide +kernel) (by decide +kernel) (by decide +kernel) (by decide +kernel)
section
variable {prog : Program} {w : World} {A : Around} {E : Value → Shared → Prop} {s : Shared} {o : Obj} {es : Array (Int × Value)} {ep : Nat} {t : SetTable} {ks : List Int} {a : Addr}
theorem wp_iter {Q : Value → Shared → Prop} (ho : s.heap.get? a = some o) (g : SO w o es ep t ks)
  (hQ : Q (.ref s.heap.objs.size) { s with heap:=s.heap.push (siO a 0 0 es.size ep) }) : wpAny (model prog w) A (pyIter (.ref a)) Q E s:=by
 have hT : s.TypeIs (.ref a) "set":=⟨o,ho,g.ex.1⟩
 refine wpAny_pyIter_slot hT F.slot_set_iter (wpAny_call_entry F.slot_set_iter hT zd1 ?_ (F.args_set_iter_1 _))
 unfold Builtin.«frozenset.__iter__»
 refine wpAny_bind (wpAny_of_eq (show Builtin.Frozenset.slot0 "__iter__" ⟨[.ref a],[]⟩ = pure a from rfl) ?_)
 unfold Builtin.Frozenset.sizeOf
 refine wpAny_bind (wpAny_bind (wpAny_setEntries_of ho g.dt g.g.fits (wpAny_pure ?_)))
 unfold setDrawn
 refine wpAny_bind (wpAny_bind (wpAny_setState_of ho g.dt g.g.fits ?_))
 dsimp only
 refine wpAny_bind (zbG ?_)
 have hdr : (!t.plain && decide (es.size > 1)) = false:=by rw [g.g.pl]; rfl
 refine wpAny_pure ?_
 show wpAny _ _ (if (!byT w && (!t.plain && decide (es.size > 1))) = true then _ else _) _ _ _
 rw [hdr,Bool.and_false,if_neg Bool.false_ne_true]
 refine wpAny_bind (wpAny_pure ?_)
 refine wpAny_bind (wpAny_setEpoch_of ho g.dt g.g.fits ?_)
 refine wpAny_bind (wpAny_newObj_type (wpAny_pure ⟨_,rfl,"set_iterator",_,⟨_,Heap.get?_push_size _ rfl,rfl⟩,za7.lookup,?_⟩))
 exact hQ
theorem zfb {it i slot : Nat} {e : Int × Value} {Q : Option Value → Shared → Prop} (hit : s.heap.get? it = some (siO a slot i es.size ep)) (ho : s.heap.get? a = some o) (hne : a ≠ it) (g : SO w o es ep t ks) (hs : byT w = false → slot = zbs t i) (hx : (zbX w a es ep)[i]? = some e)
  (hQ : ∀ h' slot',(byT w = false → slot' = zbs t (i + 1)) → h'.get? it = some (siO a slot' (i + 1) es.size ep) → Heap.SameBut it s.heap h' → Q (some e.2) { s with heap:=h' }) : wpAny (model prog w) A (pyNext (.ref it)) Q E s:=by
 have hT : s.TypeIs (.ref it) "set_iterator":=⟨_,hit,rfl⟩
 have hi : i ≤ es.size:=by
  have:=(Array.getElem?_eq_some_iff.mp hx).1
  rw [zcz] at this
  omega
 unfold pyNext
 refine wpAny_bind (wpAny_attempt (wpAny_callSpecial?_slot (name:=Str.ofString "__next__") hT za7 (wpAny_call_entry za7 hT zcP ?_ (zdb _))))
 unfold Builtin.«set_iterator.__next__»
 refine wpAny_bind (wpAny_of_eq (show slotArgs "__next__" 0 ⟨[.ref it],[]⟩ = pure (.ref it,[]) from rfl) ?_)
 refine wpAny_bind (wpAny_fieldsOf hit rfl ?_)
 dsimp only
 refine wpAny_bind (wpAny_setEntries_of ho g.dt g.g.fits ?_)
 rw [if_neg (by simp)]
 refine wpAny_bind ?_
 show wpAny _ _ (setNext a (slot : Int).toNat (i : Int).toNat (ep : Int).toNat) _ _ _
 rw [Int.toNat_natCast,Int.toNat_natCast,Int.toNat_natCast]
 refine zd3 ho g hi hs fun nx hnx => ?_
 rw [hx]
 dsimp only [Option.map]
 refine wpAny_bind (wpAny_setField_rec hit (by simp) fun h1 e1 sb1 => ?_)
 refine wpAny_bind (wpAny_setField_rec (s:={ s with heap:=h1 }) e1 (by simp) fun h2 e2 sb2 => ?_)
 refine wpAny_pure ⟨_,rfl,wpAny_pure (hQ h2 nx hnx ?_ (sb1.trans sb2))⟩
 rw [e2]
 rfl
theorem wp_stop {α : Type} {Q : α → Shared → Prop} (hh : A.handled = none) (k : ∀ h' x,(∀ b u,s.heap.get? b = some u → h'.get? b = some u) → Shared.TypeIs { s with heap:=h' } (.ref x) "StopIteration" → E (.ref x) { s with heap:=h' }) :
  wpAny (model prog w) A (do raiseNew (← newExc (.type "StopIteration") [])) Q E s:=by
 unfold newExc newTuple
 have none1 : firstArgMember (.type "StopIteration") [] = (pure Value.none : Sem Value):=rfl
 rw [none1]
 exact wpAny_bind (wpAny_bind (wpAny_newObj_type (wpAny_bind (wpAny_pure (wpAny_newObj_type (wpAny_raiseNew_none hh (k _ _ (fun b u e => Heap.get?_push_of_some _ (Heap.get?_push_of_some _ e)) ⟨_,Heap.get?_push_size _ rfl,rfl⟩)) (by size_fits)))) (by size_fits)))
theorem zgg {it slot : Nat} {Q : Option Value → Shared → Prop} (hh : A.handled = none) (hit : s.heap.get? it = some (siO a slot es.size es.size ep)) (ho : s.heap.get? a = some o) (g : SO w o es ep t ks) (hs : byT w = false → slot = zbs t es.size)
  (hQ : ∀ h',(∀ b u,b ≠ it → s.heap.get? b = some u → h'.get? b = some u) → Q none { s with heap:=h' }) :
  wpAny (model prog w) A (pyNext (.ref it)) Q E s:=by
 have hT : s.TypeIs (.ref it) "set_iterator":=⟨_,hit,rfl⟩
 have hn : (zbX w a es ep)[es.size]? = none:=Array.getElem?_eq_none (Nat.le_of_eq (zcz w a es ep))
 have body : ∀ (P : Fin → Shared → Prop) (E' : Value → Shared → Prop),(∀ h' x,(∀ b u,b ≠ it → s.heap.get? b = some u → h'.get? b = some u) → Shared.TypeIs { s with heap:=h' } (.ref x) "StopIteration" → E' (.ref x) { s with heap:=h' }) →
   wpAny (model prog w) A.in1 (Builtin.«set_iterator.__next__» ⟨[.ref it],[]⟩) P E' s:=fun P E' k => by
  unfold Builtin.«set_iterator.__next__»
  refine wpAny_bind (wpAny_of_eq (show slotArgs "__next__" 0 ⟨[.ref it],[]⟩ = pure (.ref it,[]) from rfl) (wpAny_bind (wpAny_fieldsOf hit rfl (wpAny_bind (wpAny_setEntries_of ho g.dt g.g.fits ?_)))))
  rw [if_neg (by simp)]
  refine wpAny_bind ?_
  show wpAny _ _ (setNext a (slot : Int).toNat (es.size : Int).toNat (ep : Int).toNat) _ _ _
  rw [Int.toNat_natCast,Int.toNat_natCast,Int.toNat_natCast]
  refine zd3 ho g (Nat.le_refl _) hs fun nx _ => ?_
  rw [hn]
  exact wpAny_bind (wpAny_setField_rec hit (by simp) fun h1 _ sb => wp_stop (s:={ s with heap:=h1 }) hh fun h' x kp tx => k h' x (fun b u nb e => kp b u ((sb.2 b nb).trans e)) tx)
 unfold pyNext
 exact wpAny_bind (wpAny_attempt (wpAny_callSpecial?_slot (name:=Str.ofString "__next__") hT za7 (wpAny_call_entry za7 hT zcP (body _ _ fun h' x kp tx => wpAny_bind (wpAny_isInstance (b:=true) tx isSubtype_stop (wpAny_pure (hQ h' kp)))) (zdb _))))
end
end Sx
namespace Sx
open PySem PySem.Spec PyProof.Rows
theorem ze7 : entryFor table "set_iterator.__iter__" = some Builtin.«dict_keyiterator.__iter__»:=entryFor_alias (id':="dict_keyiterator.__iter__") (by kernel_rfl) rfl (by decide +kernel) (by kernel_rfl)
theorem zgd (a : Value) : argsOk "set_iterator.__iter__" ⟨[a],[]⟩:=by unfold argsOk; kernel_rfl
theorem len_set : typeLookup (.type "set") "__len__" = pure (some (.builtin "set.__len__")):=by rw [typeLookup_type,builtinLookup_eq_fast]; kernel_rfl
section
variable {prog : Program} {w : World} {A : Around} {E : Value → Shared → Prop} {s : Shared} {o : Obj} {es : Array (Int × Value)} {ep : Nat} {t : SetTable} {ks : List Int} {a : Addr}
theorem walksS (hh : A.handled = none) (I : Addr) (hne : a ≠ I) (g : SO w o es ep t ks) :
  Walks prog w A I [I,a] [I] es.size (fun i v => ∃ e,(zbX w a es ep)[i]? = some e ∧ v = e.2) (fun i h => (∃ slot,(byT w = false → slot = zbs t i) ∧ h.get? I = some (siO a slot i es.size ep)) ∧ h.get? a = some o) where
 sub:=fun b hb => by simp at hb; simp [hb]
 frame:=fun _ _ _ st hk => by
  obtain ⟨⟨slot,h1,h2⟩,h3⟩:=st
  exact ⟨⟨slot,h1,hk I (by simp) _ h2⟩,hk a (by simp) _ h3⟩
 item:=fun i s Q E hi st hQ => by
  obtain ⟨⟨slot,h1,h2⟩,h3⟩:=st
  have hi2 : i < (zbX w a es ep).size:=by rw [zcz]; exact hi
  have hx : (zbX w a es ep)[i]? = some (zbX w a es ep)[i]:=Array.getElem?_eq_getElem hi2
  refine zfb h2 h3 hne g h1 hx fun h' slot' e1 e2 sb => ?_
  exact hQ _ h' s.toks ⟨_,hx,rfl⟩ ⟨⟨slot',e1,e2⟩,(sb.2 a hne).trans h3⟩ fun b o hb e => (sb.2 b (fun z => hb (by simp [z]))).trans e
 done:=fun s Q E st hQ => by
  obtain ⟨⟨slot,h1,h2⟩,h3⟩:=st
  exact zgg hh h2 h3 g h1 fun h' kp => hQ h' s.toks fun b u hb e => kp b u (fun z => hb (by rw [z]; exact List.mem_singleton_self _)) e
 self:=fun _ s _ _ st hQ => by
  obtain ⟨⟨slot,h1,h2⟩,h3⟩:=st
  have hT : s.TypeIs (.ref I) "set_iterator":=⟨_,h2,rfl⟩
  refine wpAny_pyIter_slot hT zc5 (wpAny_call_entry zc5 hT ze7 ?_ (zgd _))
  show wpAny _ _ (ret (.ref I)) _ _ s
  exact wpAny_pure ⟨_,rfl,"set_iterator",_,hT,za7.lookup,hQ⟩
theorem hint_set {r : Addr} {Q : Bool → Shared → Prop} (hT : s.TypeIs (.ref r) "set") (h : Q false s) : wpAny (model prog w) A (Builtin.List.listLengthHint (.ref r)) Q E s:=by
 have sub : isSubtype (.type "set") (.type "set") = pure true:=by rw [isSubtype_type]; kernel_rfl
 delta Builtin.List.listLengthHint
 refine wpAny_bind (wpAny_specialOf hT len_set ?_)
 generalize hid : ("set.__len__" : String) = id0
 wp_delta
 rw [show splitId id0 = some ("set","__len__") from by subst hid; decide +kernel]
 subst hid
 exact wpAny_bind (wpAny_isInstance (T:="set") (b:=true) hT sub (wpAny_ite_split (fun z => absurd z (by decide)) fun _ => wpAny_ite_split (fun _ => wpAny_bind (wpAny_typeOf hT (wpAny_pure h))) fun z => absurd (by decide +kernel) z))
theorem kdl_set (g : SO w o es ep t ks) : W.KdlSrc prog w "set" a a es.size (fun i v => ∃ e,(zbX w a es ep)[i]? = some e ∧ v = e.2) (fun h => h.get? a = some o) where
 type:=fun _ hm => ⟨o,hm,g.ex.1⟩
 there:=fun _ hm => ⟨Heap.lt_size hm,Heap.lt_size hm⟩
 keep:=fun _ _ hm hk => hk a (.inl rfl) o hm
 notList:=by decide
 notTuple:=by decide
 hint:=fun _ _ _ _ hm hq => hint_set ⟨o,hm,g.ex.1⟩ hq
 iter:=fun _ s hh hm => ⟨siO a 0 0 es.size ep,_,(fun _ _ hq => wp_iter hm g hq),walksS hh _ (Nat.ne_of_lt (Heap.lt_size hm)) g,⟨⟨0,fun _ => rfl,Heap.get?_push_size _ rfl⟩,Heap.get?_push_of_some _ hm⟩⟩
end
end Sx
namespace Sx
open PySem PySem.Spec PyProof.Rows
theorem zju : ∀ (l : List Value) (m : List (Int × Value)),l.length = m.length → (∀ (j : Nat) (v : Value),l[j]? = some v → ∃ e,m[j]? = some e ∧ v = e.2) → (∀ e ∈ m,∃ k tk,e = (hashInt k,Value.int k tk)) → IntsAre l (m.map kOf)
 | [],[],_,_,_ => .nil
 | [],_ :: _,h,_,_ => by simp at h
 | _ :: _,[],h,_,_ => by simp at h
 | v :: l,e :: m,h,h1,h2 => by
  obtain ⟨e',h3,h4⟩:=h1 0 v rfl
  have he : e = e':=by simpa using h3
  subst he
  obtain ⟨k,tk,rfl⟩:=h2 e List.mem_cons_self
  subst h4
  exact .cons k tk (zju l m (by simpa using h) (fun j v hv => by simpa using h1 (j + 1) v (by simpa using hv)) fun e he => h2 e (List.mem_cons_of_mem _ he))
section
variable {prog : Program} {w : World} {A : Around} {E : Value → Shared → Prop} {s : Shared} {o : Obj} {es : Array (Int × Value)} {ep : Nat} {t : SetTable} {ks : List Int} {a : Addr}
theorem zfY {R : Result → Shared → Prop} (hh : A.handled = none) (ho : s.heap.get? a = some o) (g : SO w o es ep t ks) (hn : es.size ≤ sizeLine)
  (h : ∀ h' tk acc c,(∀ b u,b ≠ s.heap.objs.size → (s.heap.push (seqObj "list" #[] 0)).get? b = some u → h'.get? b = some u) → h'.get? s.heap.objs.size = some ⟨.type "list",none,.seq acc c,#[]⟩ → PySem.ItemsOf (fun i v => ∃ e,(zbX w a es ep)[i]? = some e ∧ v = e.2) acc es.size → R (.ok (.ret (.ref s.heap.objs.size))) { s with heap:=h',toks:=tk }) :
  codeAny (model prog w) A (.builtin "proto.collect" ⟨[.ref a],[]⟩) R s:=by
 have pl : plainId "list.__iadd__" = true:=by decide +kernel
 have hlt:=Heap.lt_size ho
 have ho' : (s.heap.push (seqObj "list" #[] 0)).get? a = some o:=Heap.get?_push_of_some _ ho
 refine codeAny_builtin entry_proto_collect' (show wpAny _ _ (newList [] >>= _) _ _ s from wpAny_bind (wpAny_newList (wpAny_pure ⟨plainId_quiet pl _,codeAny_builtin entry_list_iadd' ?_⟩)))
 rw [Around.under_plainId pl]
 exact W.kdl_extend (R:=R) (s:={ s with heap:=s.heap.push (seqObj "list" #[] 0) }) (kdl_set g) hh ho' s.heap.objs.size (Nat.ne_of_gt hlt) (Nat.ne_of_gt hlt) (.ref s.heap.objs.size) 0 (Heap.get?_push_size _ rfl) (fun h' tk acc c k e it => h h' tk acc c k e it) hn
theorem zgJ {Q : List Value → Shared → Prop} (hh : A.handled = none) (ho : s.heap.get? a = some o) (g : SO w o es ep t ks) (hn : es.size ≤ sizeLine)
  (h : ∀ h' tk vs,IntsAre vs ((zbX w a es ep).toList.map kOf) → (∀ b o,s.heap.get? b = some o → h'.get? b = some o) → s.heap.objs.size < h'.objs.size → Q vs { s with heap:=h',toks:=tk }) :
  wpAny (model prog w) A (collect (.ref a)) Q E s:=by
 refine (show wpAny _ _ (runValue _ >>= _) _ _ s from wpAny_bind (wpAny_runValue (zfY hh ho g hn fun h' tk acc' c' k' e' it' => ?_)))
 refine (show wpAny _ _ (load s.heap.objs.size >>= _) _ _ _ from wpAny_bind (wpAny_load e' (show wpAny _ _ (pure acc'.toList) _ _ _ from ?_)))
 have hw:=zdo w a es ep
 refine wpAny_pure (h h' tk acc'.toList (zju _ _ ?_ (fun j v hv => ?_) fun e he => g.el e (hw.mem_iff.mp he)) (fun b ob e => k' b ob (Nat.ne_of_lt (Heap.lt_size e)) (Heap.get?_push_of_some _ e)) (Heap.lt_size e'))
 ·rw [Array.length_toList,Array.length_toList,zcz]
  exact it'.1
 ·obtain ⟨x,h1,h2⟩:=it'.2 j v (by rw [← Array.getElem?_toList]; exact hv)
  exact ⟨x,by rw [Array.getElem?_toList]; exact h1,h2⟩
theorem sorted_set {Q : Value → Shared → Prop} (hh : A.handled = none) (hG : GS w s.heap a ks) (h64 : ks.length < 64)
  (h : ∀ (p : Addr) (h' : Heap) (tk n : Nat) (out : List Value) (zs : List Int),s.heap.get? p = none → IntsAre out zs → zs.Perm ks → zs.Pairwise (· ≤ ·) → (∀ b o,s.heap.get? b = some o → h'.get? b = some o) → h'.get? p = some { cls:=.type "list",data:=.seq out.toArray n } → s.heap.objs.size ≤ p → Q (.ref p) { s with heap:=h',toks:=tk }) :
  wpAny (model prog w) A (call (.builtin "sorted") [.ref a]) Q E s:=by
 obtain ⟨o,es,ep,t,ho,g⟩:=hG.so
 have hsz:=GS.len (h:=s.heap) (a:=a) g.pm
 refine Calls.call_function_entry kind_sorted plain_sorted entry_sorted (args_sorted1 _) (show wpAny _ _ (checkCount _ _ _ _ >>= _) _ _ _ from wpAny_bind (wpAny_pure (wpAny_bind (zgJ hh ho g (by rw [sizeLine_eq]; omega) fun h1 tk vs hI k1 hlt1 => ?_))))
 have hpk : ((zbX w a es ep).toList.map kOf).Perm ks:=((zdo w a es ep).map kOf).trans g.pm
 have hvl : vs.length < 64:=by
  rw [IntsAre.length hI,hpk.length_eq]
  exact h64
 refine wpAny_bind (wpAny_newList (hsz:=by rw [sizeLine_eq]; omega) ?_)
 have hoL : (h1.push (seqObj "list" vs.toArray 0)).get? h1.objs.size = some (seqObj "list" vs.toArray 0):=Heap.get?_push_size _ rfl
 have hge : s.heap.objs.size ≤ h1.objs.size:=Nat.le_of_lt hlt1
 show wpAny _ _ _ _ _ { s with heap:=h1.push (seqObj "list" vs.toArray 0),toks:=tk }
 refine wpAny_bind (wpAny_holding (wpAny_call_entry slot_list_sort ⟨_,hoL,rfl⟩ entry_list_sort (list_sort_tree hoL hI hvl fun out ns' a1 a2 a3 => ⟨_,rfl,?_⟩) (args_list_sort _)))
 obtain ⟨n,hn⟩:=sortedHeap_at (out:=out) hoL
 refine wpAny_pure ⟨_,rfl,h h1.objs.size _ tk n out.toList ns' ?_ a1 (a2.trans hpk) a3 (fun b ob e => ?_) ?_ hge⟩
 ·cases q : s.heap.get? h1.objs.size with
  | none => rfl
  | some x => exact absurd (Heap.lt_size q) (Nat.not_lt.mpr hge)
 ·have hb:=Heap.lt_size e
  have hb1 : b < h1.objs.size:=Nat.lt_of_lt_of_le hb hge
  have hb2 : b < (h1.push (seqObj "list" vs.toArray 0)).objs.size:=by rw [size_push']; exact Nat.lt_succ_of_lt hb1
  exact (sortedHeap_old (out:=out) (vs:=vs) (Nat.ne_of_lt hb1) hb2).trans (Heap.get?_push_of_some _ (k1 b ob e))
 ·exact hn
end
end Sx
namespace L2
open PySem PySem.Spec PyProof.Rows
noncomputable abbrev gsO (w : World) (a : Addr) (ks : List Int) : HO:=.ext fun h => Sx.GS w h a ks
theorem gs_ok {P : Program} {w w' : World} {H : Hp} {h : Heap} {a : Addr} {ks : List Int} (g : Sx.GS w h a ks) : zaY P w' H h a (gsO w a ks):=by
 obtain ⟨o,es,ep,t,e,_⟩:=id g
 exact ⟨g,⟨o,e⟩,fun _ _ g k => g.keep k⟩
theorem kv_get : ∀ {kvs : List (Key × V)} {vs : List (Key × Value)},KV kvs vs → ∀ {js : List Int},kvs.map (·.1) = js.map Sum.inl → vs.length = js.length ∧ ∀ (i : Nat) (k : Int),js[i]? = some k → ∃ v,vs[i]? = some (Sum.inl k,v)
 | _,_,.nil,[],_ => ⟨rfl,fun i k h => by simp at h⟩
 | _,_,.nil,_ :: _,h => by simp at h
 | _,_,.cons _ _,[],h => by simp at h
 | p :: _,q :: _,.cons r t,j :: js,h => by
  have h':=h
  rw [List.map_cons,List.map_cons] at h'
  injection h' with h1 h2
  obtain ⟨l,g⟩:=kv_get t h2
  refine ⟨by simpa using l,fun i k hk => ?_⟩
  cases i with
  | zero =>
   have e : j = k:=by simpa using hk
   subst e
   refine ⟨q.2,?_⟩
   have : q.1 = Sum.inl j:=r.1.symm.trans h1
   simp [← this]
  | succ i => simpa using g i k (by simpa using hk)
section
variable {X : Cx}
theorem dints {H : Hp} {h : Heap} {P : Program} {w : World} {a : Addr} {kvs : List (Key × V)} {js : List Int} (ok : HOk P w H h) (e : H a = some (.dK kvs)) (hk : kvs.map (·.1) = js.map Sum.inl) : Sx.DInts h a js ∧ (a == sysModules) = false:=by
 obtain ⟨z,hd,vs,rel,o,es,ep,ho,hc,hdat,hks,hp,hn⟩:=zfV ok e
 obtain ⟨hl,hg⟩:=kv_get rel hk
 refine ⟨⟨o,es,ep,ho,hc,hdat,?_,fun i en k he hj => ?_⟩,hd⟩
 ·have:=hp.length
  rw [Array.length_toList] at this
  omega
 ·obtain ⟨v,hv⟩:=hg i k hj
  obtain ⟨h1,_⟩:=hp.get? (e:=en) (by rw [Array.getElem?_toList]; exact he) hv
  obtain ⟨k',h2,h3⟩:=hks en (Array.mem_of_getElem? he)
  have : k' = Sum.inl k:=(zaI P w).inj _ _ _ h2 h1
  subst this
  have h1' : zgE (Sum.inl k) en.key = true:=h1
  rcases zaM h1' with ⟨i',tk,e1,e2⟩ | ⟨x,tk,e1,_⟩
  ·have : k = i':=Sum.inl.inj e1
   subst this
   exact ⟨tk,e2,h3⟩
  ·cases e1
theorem zf6 : zce X (.type "set") (fun xs H Q => ∃ (a : Addr) (kvs : List (Key × V)) (js : List Int),xs = [.ref a] ∧ H a = some (.dK kvs) ∧ kvs.map (·.1) = js.map Sum.inl ∧ js.Nodup ∧ js.length ≤ 30 ∧ ∀ p,H p = none → Q (.ref p) (upd H p (gsO X.w p js))):=by
 intro pins s σ H xs us Q I r h
 obtain ⟨a,kvs,js,rfl,ha,hk,hn,hl,q⟩:=h
 obtain ⟨u,rfl,rx⟩:=zbZ r
 cases rx
 obtain ⟨hD,hS⟩:=dints I.hok ha hk
 exact Sx.call_set_dict hD hS hn hl fun h' g kp => ⟨.ref s.heap.objs.size,_,I.laid (t':=s.toks) kp (Nat.le_refl _) (gs_ok g),rfl,q _ (I.hok.fresh (Nat.le_refl _))⟩
theorem gs_of {H : Hp} {h : Heap} {P : Program} {w w' : World} {a : Addr} {ks : List Int} (ok : HOk P w' H h) (e : H a = some (gsO w a ks)) : Sx.GS w h a ks:=(show zaY P w' H h a (gsO w a ks) from ok a _ e).1
theorem op_orS : OpR X (binaryOp .BitOr) (fun x y H Q => ∃ (a b : Addr) (ks js : List Int),x = .ref a ∧ y = .ref b ∧ a ≠ b ∧ H a = some (gsO X.w a ks) ∧ H b = some (gsO X.w b js) ∧ ks.length + js.length ≤ 30 ∧ ∀ p,H p = none → Q (.ref p) (upd H p (gsO X.w p (Sx.addAll ks js)))):=by
 intro pins s σ H x y v u Q I rx ry h
 obtain ⟨a,b,ks,js,rfl,rfl,hab,ha,hb,hl,q⟩:=h
 cases rx
 cases ry
 exact Sx.wp_or hab (gs_of I.hok ha) (gs_of I.hok hb) hl fun h' g kp => ⟨.ref s.heap.objs.size,_,I.laid (t':=s.toks) kp (Nat.le_refl _) (gs_ok g),rfl,q _ (I.hok.fresh (Nat.le_refl _))⟩
theorem zfO : ∀ {out : List Value} {zs : List Int},IntsAre out zs → Vals (zs.map V.int) out
 | _,_,.nil => .nil
 | _,_,.cons n t r => .cons ⟨t,rfl⟩ (zfO r)
theorem zf3 (hc : X.calm = true) : zce X (.builtin "sorted") (fun xs H Q => ∃ (a : Addr) (ks : List Int),xs = [.ref a] ∧ H a = some (gsO X.w a ks) ∧ ks.length < 64 ∧ ∀ p (zs : List Int),zs.Perm ks → zs.Pairwise (· ≤ ·) → H p = none → Q (.ref p) (upd H p (.lst (zs.map V.int)))):=by
 intro pins s σ H xs us Q I r h
 obtain ⟨a,ks,rfl,ha,hl,q⟩:=h
 obtain ⟨u,rfl,rx⟩:=zbZ r
 cases rx
 refine Sx.sorted_set (I.ok.hd hc) (gs_of I.hok ha) hl fun p h' tk n out zs hp hI pm pw kp e hge => ?_
 have hz : (zs.map V.int).length ≤ sizeLine:=by rw [List.length_map,pm.length_eq,sizeLine_eq]; omega
 exact ⟨.ref p,_,I.laid (t':=tk) kp hge (show zaY X.prog X.w _ h' _ (.lst (zs.map V.int)) from ⟨hz,out,n,zfO hI,e⟩),rfl,q p zs pm pw (I.hok.fresh hge)⟩
end
end L2
namespace L2
open PySem PySem.Spec PyProof.Rows
noncomputable abbrev vwO (v d : Addr) : HO:=.ext fun h => h.IsValuesView v d
theorem vw_ok {P : Program} {w : World} {H : Hp} {h : Heap} {v d : Addr} (g : h.IsValuesView v d) : zaY P w H h v (vwO v d):=by
 obtain ⟨o,e,c⟩:=id g
 exact ⟨g,⟨o,e⟩,fun _ _ ⟨o,e,c⟩ k => ⟨o,k o e,c⟩⟩
noncomputable def sumI : List Int → Int
 | [] => 0
 | n :: r => n + sumI r
theorem zc7 (f : Nat → Int) : ∀ n,preSum f (n + 1) = f 0 + preSum (fun j => f (j + 1)) n
 | 0 => by
  show 0 + f 0 = f 0 + 0
  omega
 | n + 1 => by
  show preSum f (n + 1) + f (n + 1) = f 0 + (preSum (fun j => f (j + 1)) n + f (n + 1))
  rw [zc7 f n]
  omega
theorem zcs : ∀ ns : List Int,preSum (fun i => ns.getD i 0) ns.length = sumI ns
 | [] => rfl
 | n :: r => by
  rw [List.length_cons,zc7]
  show n + preSum (fun j => (n :: r).getD (j + 1) 0) r.length = n + sumI r
  rw [← zcs r]
  rfl
theorem zjl : ∀ {kvs : List (Key × V)} {vs : List (Key × Value)},KV kvs vs → ∀ {ns : List Int},kvs.map (·.2) = ns.map V.int → vs.length = ns.length ∧ ∀ (i : Nat) (k : Key) (v : Value),vs[i]? = some (k,v) → ∃ t,v = .int (ns.getD i 0) t
 | _,_,.nil,[],_ => ⟨rfl,fun i k v h => by simp at h⟩
 | _,_,.nil,_ :: _,h => by simp at h
 | _,_,.cons _ _,[],h => by simp at h
 | p :: _,q :: _,.cons r t,n :: ns,h => by
  have h':=h
  rw [List.map_cons,List.map_cons] at h'
  injection h' with h1 h2
  obtain ⟨l,g⟩:=zjl t h2
  refine ⟨by simpa using l,fun i k v hv => ?_⟩
  cases i with
  | zero =>
   have e : q = (k,v):=by simpa using hv
   have r2 : RelV p.2 q.2:=r.2
   rw [h1,e] at r2
   obtain ⟨t',ht⟩:=r2
   exact ⟨t',ht⟩
  | succ i => exact g i k v (by simpa using hv)
section
variable {X : Cx}
noncomputable def rValues : V → List V → Hp → VK → Prop:=fun x vs H Q => ∃ (d : Addr) (kvs : List (Key × V)),x = .ref d ∧ vs = [] ∧ H d = some (.dK kvs) ∧ ∀ p,H p = none → Q (.ref p) (upd H p (vwO p d))
theorem zi5 : MtR X "dict.values" rValues:=by
 intro pins s σ H x vs v us Q I rx rv h
 obtain ⟨d,kvs,rfl,rfl,hH,q⟩:=h
 cases rx
 cases rv
 obtain ⟨z,hd,ws,rel,dd⟩:=zfV I.hok hH
 refine call_meetsIn F.slot_dict_values dd.typeIs F.entry_dict_values (F.args_dict_values_1 _) (meets_dict_values (zaI X.prog X.w) d hd) ⟨⟨ws,dd⟩,?_⟩
 exact ⟨.ref s.heap.objs.size,_,I.laid (t':=s.toks) (fun _ _ e => Heap.get?_push_of_some _ e) (Nat.le_refl _) (vw_ok ⟨_,Heap.get?_push_size _ rfl,rfl,rfl⟩),rfl,q _ (I.hok.fresh (Nat.le_refl _))⟩
theorem zjY (hc : X.calm = true) : zce X (.builtin "sum") (fun xs H Q => ∃ (v d : Addr) (kvs : List (Key × V)) (ns : List Int),xs = [.ref v] ∧ H v = some (vwO v d) ∧ H d = some (.dK kvs) ∧ kvs.map (·.2) = ns.map V.int ∧ Q (.int (sumI ns)) H):=by
 intro pins s σ H xs us Q I r h
 obtain ⟨v,d,kvs,ns,rfl,hv,hd,hn,q⟩:=h
 obtain ⟨u,rfl,rx⟩:=zbZ r
 cases rx
 obtain ⟨z,hS,ws,rel,o,es,ep,ho,hcl,hdat,hks,hp,hnd⟩:=zfV I.hok hd
 have hvw : s.heap.IsValuesView v d:=(show zaY X.prog X.w H s.heap v (vwO v d) from I.hok v _ hv).1
 have hm : s.heap.DictAt (zaI X.prog X.w) d ws ep:=⟨o,es,ho,hcl,hdat,hks,hp,hnd⟩
 obtain ⟨hl,hg⟩:=zjl rel hn
 refine call_sum_walkAnyS (wpAny_pyIter_values hvw hm ?_)
 refine ⟨s.heap.objs.size,[s.heap.objs.size,d],[s.heap.objs.size],_,ws.length,_,_,(fun i => ns.getD i 0),rfl,(Walks.dictValues (A:=X.A.in1) (knd:=zaI X.prog X.w) (show X.A.in1.handled = none from I.ok.hd hc) s.heap.objs.size d (Nat.ne_of_lt hm.lt_size) ws ep).toS,⟨⟨_,Heap.get?_push_size _ rfl,rfl,rfl⟩,hm.push _⟩,fun b hb => ?_,fun i x hx => ?_,fun s' t' hmv => ?_⟩
 ·rw [Heap.size_push]
  rcases List.mem_cons.mp hb with e | hb
  ·rw [e]
   exact Nat.lt_succ_self _
  ·rw [List.mem_singleton.mp hb]
   exact Nat.lt_succ_of_lt hm.lt_size
 ·obtain ⟨k,hk⟩:=hx
  exact hg i k x hk
 ·rw [hl,zcs]
  rw [Moved.eq_with hmv]
  exact ⟨.int (sumI ns),H,I.kept (t':=s'.toks) fun b u e => hmv.heap b u (fun hb => absurd (Heap.lt_size e) (by rw [List.mem_singleton.mp hb]; exact Nat.lt_irrefl _)) (Heap.get?_push_of_some _ e),⟨t',rfl⟩,q⟩
end
end L2
namespace L2
open PySem PySem.Spec PyProof.Rows
noncomputable def zb8 (lt : Value → Value → Bool) : Option Value → List Value → Option Value
 | o,[] => o
 | none,v :: r => zb8 lt (some v) r
 | some b,v :: r => zb8 lt (some (if lt v b = true then v else b)) r
noncomputable def oldA : Option Value → Array Value
 | none => #[]
 | some v => #[v,v]
noncomputable abbrev Kept (h h' : Heap) : Prop:=∀ b o,h.get? b = some o → h'.get? b = some o
noncomputable abbrev bestAt (h : Heap) (S : Addr) (old : Option Value) : Prop:=∃ n,h.get? S = some ⟨.type "list",none,.seq (oldA old) n,#[]⟩
theorem zgR (v : Value) : (oldA (some v)).size ≤ sizeLine:=by
 rw [sizeLine_eq]
 show 2 ≤ 16777216
 decide
theorem zdm : (toString "min" ++ toString ".loop") = ("min.loop" : String):=by decide
section
variable {prog : Program} {w : World} {A : Around} {R : Result → Shared → Prop} {h0 : Heap} {l I S : Addr} {vs : List Value} {lt : Value → Value → Bool} {d : Value} {kw : List (Str × Value)}
theorem in_min {args : Args} {s : Shared} (h : wpAny (model prog w) A.in1 (Builtin.«min.loop» args) (fun fin s' => match fin with | .done f => R (.ok f) s' | .again c' => c'.quiet = true ∧ codeAny (model prog w) A c' R s') (fun e s' => R (.error e) s') s) :
  codeAny (model prog w) A (.builtin "min.loop" args) R s :=
 codeAny_builtin F.entry_min_loop (by rwa [Around.under_plainId F.plain_min_loop])
theorem min_go (hh : A.handled = none) (hl : h0.IsList l vs.toArray) (hI : h0.objs.size ≤ I) (hS : h0.objs.size ≤ S) (hIS : I ≠ S)
  (hc : ∀ v ∈ vs,∀ u ∈ vs,∀ (s' : Shared) (Q E : Value → Shared → Prop),Kept h0 s'.heap → Q (.bool (lt v u)) s' → wpAny (model prog w) A.in1 (richCompare .Lt v u) Q E s') :
  ∀ (rest pre : List Value) (old : Option Value) (s : Shared),vs = pre ++ rest → (∀ v,old = some v → v ∈ vs) → s.heap.IsListIter I l pre.length → Kept h0 s.heap → bestAt s.heap S old → (zb8 lt old rest = none → ∃ k tl,kw = (k,d) :: tl) →
   (∀ h' tk,Kept h0 h' → R (.ok (.ret ((zb8 lt old rest).getD d))) { s with heap:=h',toks:=tk }) →
   codeAny (model prog w) A (.builtin "min.loop" ⟨[.ref I,.none,.ref S],kw⟩) R s:=by
 have nI : ∀ {b : Addr} {o : Obj},h0.get? b = some o → b ≠ I:=fun e => Nat.ne_of_lt (Nat.lt_of_lt_of_le (Heap.lt_size e) hI)
 have nS : ∀ {b : Addr} {o : Obj},h0.get? b = some o → S ≠ b:=fun e => Nat.ne_of_gt (Nat.lt_of_lt_of_le (Heap.lt_size e) hS)
 intro rest
 induction rest with
 | nil =>
  intro pre old s hv ho it kp ⟨n,hb⟩ hkw r
  refine in_min (show wpAny _ A.in1 (seqItems? _ >>= _) _ _ _ from wpAny_bind (wpAny_seqItems hb rfl (show wpAny _ A.in1 (tryCatch (pyNext _) _ >>= _) _ _ _ from wpAny_bind (wpAny_tryCatch ?_))))
  refine wpAny_pyNext_list_end hh it (hl.at fun o e => kp l o e) (by rw [hv]; simp) fun h' x => ?_
  have kp' : Kept h0 h':=fun b o e => x b o (nI e) (kp b o e)
  have hb':=x S _ (Ne.symm hIS) hb
  cases old with
  | none =>
   obtain ⟨k,tl,rfl⟩:=hkw rfl
   exact wpAny_bind (wpAny_rule (wpAny_pure (r h' s.toks kp')))
  | some v =>
   refine (show wpAny _ A.in1 (updateSeq S _ >>= _) _ _ _ from wpAny_bind (wpAny_updateSeq (hz:=zgR v) hb' rfl (wpAny_bind (wpAny_letGo (wpAny_pure ?_)))))
   exact r _ s.toks fun b o e => (Heap.get?_update_other _ _ (nS e)).trans (kp' b o e)
 | cons v rest ih =>
  intro pre old s hv ho it kp ⟨n,hb⟩ hkw r
  have mv : v ∈ vs:=by rw [hv]; simp
  refine in_min (show wpAny _ A.in1 (seqItems? _ >>= _) _ _ _ from wpAny_bind (wpAny_seqItems hb rfl (show wpAny _ A.in1 (tryCatch (pyNext _) _ >>= _) _ _ _ from wpAny_bind (wpAny_tryCatch ?_))))
  refine wpAny_pyNext_list_item it (hl.at fun o e => kp l o e) (x:=v) (by rw [hv]; simp) fun h' it' x => ?_
  have kp' : Kept h0 h':=fun b o e => x.extBut b o (nI e) (kp b o e)
  have hb':=x.extBut S _ (Ne.symm hIS) hb
  have hv' : vs = (pre ++ [v]) ++ rest:=by rw [hv]; simp
  have hlen : (pre ++ [v]).length = pre.length + 1:=by simp
  have wr : ∀ f : Array Value → Array Value,Kept h0 (h'.update S (Obj.mapSeq f)) ∧ (h'.update S (Obj.mapSeq f)).IsListIter I l (pre ++ [v]).length:=fun f =>
   ⟨fun b o e => (Heap.get?_update_other _ _ (nS e)).trans (kp' b o e),by rw [hlen]; exact it'.at fun o e => (Heap.get?_update_other _ _ (Ne.symm hIS)).trans e⟩
  cases old with
  | none =>
   refine (show wpAny _ A.in1 (updateSeq S _ >>= _) _ _ _ from wpAny_bind (wpAny_updateSeq hb' rfl ?_))
   rw [zdm]
   exact wpAny_pure ⟨plainId_quiet F.plain_min_loop _,ih (pre ++ [v]) (some v) _ hv' (fun u e => by cases e; exact mv) (wr _).2 (wr _).1 ⟨_,Heap.get?_update_self _ hb' rfl⟩ hkw r⟩
  | some b =>
   refine (show wpAny _ A.in1 (tryCatch (holding _ (richCompare .Lt v b >>= _)) _ >>= _) _ _ _ from wpAny_bind (wpAny_tryCatch (wpAny_holding (wpAny_bind (hc v mv b (ho b rfl) _ _ _ kp' ?_)))))
   refine wpAny_bind (wpAny_holding (wpAny_truthy_bool (wpAny_bind (wpAny_letGo (wpAny_pure ?_)))))
   have e : ∀ k,lt v b = k → zb8 lt (some b) (v :: rest) = zb8 lt (some (if k = true then v else b)) rest:=fun k hk => by rw [← hk]; rfl
   cases hk : lt v b with
   | true =>
    rw [e true hk,if_pos rfl] at r hkw
    rw [if_pos rfl]
    refine wpAny_bind (wpAny_updateSeq (hz:=zgR b) hb' rfl (wpAny_bind (wpAny_letGo ?_)))
    rw [zdm]
    exact wpAny_pure ⟨plainId_quiet F.plain_min_loop _,ih (pre ++ [v]) (some v) _ hv' (fun u e => by cases e; exact mv) (wr _).2 (wr _).1 ⟨_,Heap.get?_update_self _ hb' rfl⟩ hkw r⟩
   | false =>
    rw [e false hk,if_neg Bool.false_ne_true] at r hkw
    rw [if_neg Bool.false_ne_true]
    refine wpAny_bind (wpAny_letGo ?_)
    rw [zdm]
    exact wpAny_pure ⟨plainId_quiet F.plain_min_loop _,ih (pre ++ [v]) (some b) _ hv' ho (by rw [hlen]; exact it') kp' ⟨_,hb'⟩ hkw r⟩
theorem zka (a d : Value) : argsOk "min" ⟨[a],[(Str.ofString "default",d)]⟩:=by
 unfold argsOk
 kernel_rfl
theorem zj1 {s : Shared} {Q E : Value → Shared → Prop} (hh : A.handled = none) (hl : s.heap.IsList l vs.toArray)
  (hc : ∀ v ∈ vs,∀ u ∈ vs,∀ (s' : Shared) (Q E : Value → Shared → Prop),Kept s.heap s'.heap → Q (.bool (lt v u)) s' → wpAny (model prog w) A.in1 (richCompare .Lt v u) Q E s')
  (q : ∀ h' tk,Kept s.heap h' → Q ((zb8 lt none vs).getD d) { s with heap:=h',toks:=tk }) : wpAny (model prog w) A (call (.builtin "min") [.ref l] [(Str.ofString "default",d)]) Q E s:=by
 refine kmb_tree F.kind_min F.plain_min F.entry_min (zka _ _) ?_
 refine (show wpAny _ A.in1 (Builtin.Builtins.bindParams "min" ["key","default"] 0 ⟨[],[(Str.ofString "default",d)]⟩ >>= _) _ _ s from wpAny_bind (wpAny_of_eq (a:=[none,some d]) rfl (wpAny_bind (wpAny_pure (wpAny_bind (wpAny_pyIter_list hl (wpAny_bind (wpAny_newList ?_ (Nat.zero_le _)))))))))
 rw [zdm]
 refine wpAny_pure ⟨plainId_quiet F.plain_min_loop _,min_go hh hl (Nat.le_refl _) ?_ ?_ hc vs [] none _ rfl (fun _ e => by cases e) ⟨_,Heap.get?_push_of_some _ (Heap.get?_push_size _ rfl),rfl,rfl⟩ (fun b o e => Heap.get?_push_of_some _ (Heap.get?_push_of_some _ e)) ⟨_,Heap.get?_push_size _ rfl⟩ (fun _ => ⟨_,_,rfl⟩) fun h' tk k => q h' tk k⟩
 ·rw [Heap.size_push]
  exact Nat.le_succ _
 ·rw [Heap.size_push]
  exact Nat.ne_of_lt (Nat.lt_succ_self _)
end
end L2
namespace L2
open PySem PySem.Spec PyProof.Rows
theorem zjv : ∀ {its : List Value} {ns : List Int},Vals (ns.map V.int) its → its.length = ns.length ∧ ∀ (i : Nat) (v : Value),its[i]? = some v → ∃ t,v = .int (ns.getD i 0) t
 | [],[],_ => ⟨rfl,fun i v h => by simp at h⟩
 | _ :: _,[],r => by cases r
 | [],_ :: _,r => by cases r
 | u :: its,n :: ns,r => by
  cases r with
  | cons r1 r2 =>
   obtain ⟨l,g⟩:=zjv r2
   refine ⟨by simp [l],fun i v h => ?_⟩
   cases i with
   | zero =>
    have e : u = v:=by simpa using h
    subst e
    obtain ⟨t,ht⟩:=r1
    exact ⟨t,ht⟩
   | succ i => exact g i v (by simpa using h)
section
variable {X : Cx}
theorem zf8 : ∀ {its : List Value} {bs : List Bool},Vals (bs.map V.bl) its → its = bs.map Value.bool
 | [],[],_ => rfl
 | _ :: _,[],r => by cases r
 | [],_ :: _,r => by cases r
 | u :: its,b :: bs,r => by
  cases r with
  | cons r1 r2 =>
   have e1 : u = .bool b:=r1
   rw [e1,zf8 r2]
   rfl
theorem zj5 (hc : X.calm = true) : zce X (.builtin "all") (fun xs H Q => ∃ (l : Addr) (bs : List Bool),xs = [.ref l] ∧ SqL X.K H l (bs.map V.bl) ∧ Q (.bl (bs.all id)) H):=by
 intro pins s σ H xs us Q I r h
 obtain ⟨l,bs,rfl,hl,q⟩:=h
 obtain ⟨u,rfl,rx⟩:=zbZ r
 cases rx
 obtain ⟨its,rv,pl,_⟩:=I.list hl
 have ei:=zf8 rv
 have hls:=pl.isList
 obtain ⟨o,ho,_⟩:=id hls
 have hll : l < s.heap.objs.size:=Heap.lt_size ho
 refine call_all_walk (wpAny_pyIter_list hls ?_)
 refine ⟨s.heap.objs.size,_,_,_,_,_,(fun i => bs.getD i true),rfl,Walks.list (A:=X.A.in1) (I.ok.hd hc) s.heap.objs.size l (Nat.ne_of_lt hll) its.toArray,⟨⟨_,Heap.get?_push_size _ rfl,rfl,rfl⟩,hls.at fun o e => Heap.get?_push_of_some _ e⟩,fun i v s' Q' E' hv hq => ?_,fun h' tk k => ?_⟩
 ·have hv : its[i]? = some v:=by simpa using hv
  rw [ei,List.getElem?_map] at hv
  cases eb : bs[i]? with
  | none =>
   rw [eb] at hv
   cases hv
  | some b =>
   rw [eb] at hv
   obtain rfl : Value.bool b = v:=Option.some.inj hv
   have hq : Q' (bs.getD i true) s':=hq
   have : bs.getD i true = b:=by rw [List.getD_eq_getElem?_getD,eb]; rfl
   rw [this] at hq
   exact wpAny_truthy_bool hq
 ·have hz : its.toArray.size = bs.length:=by rw [List.size_toArray,ei,List.length_map]
  have ea : (List.range its.toArray.size).all (fun i => bs.getD i true) = bs.all id:=by
   rw [hz,Bool.eq_iff_iff,List.all_eq_true,List.all_eq_true]
   constructor
   ·intro h x hx
    obtain ⟨i,hi,rfl⟩:=List.mem_iff_getElem.mp hx
    have:=h i (List.mem_range.mpr hi)
    rw [List.getD_eq_getElem?_getD,List.getElem?_eq_getElem hi] at this
    exact this
   ·intro h i hi
    have hi:=List.mem_range.mp hi
    rw [List.getD_eq_getElem?_getD,List.getElem?_eq_getElem hi]
    exact h _ (List.getElem_mem hi)
  rw [ea]
  refine ⟨.bl _,H,I.kept fun b o e => k b o (fun hb => ?_) (Heap.get?_push_of_some _ e),rfl,q⟩
  rw [List.mem_singleton.mp hb] at e
  exact absurd (Heap.lt_size e) (Nat.lt_irrefl _)
noncomputable def zhQ : Value → Bool
 | .bool b => b
 | _ => false
theorem tru_at {A : Around} {s : Shared} {bs : List Bool} {y : Value} (h : y ∈ (bs.map Value.bool).toArray) : SeqAt.EqAt A s y (.bool true) (zhQ y):=by
 obtain ⟨b,_,rfl⟩ : ∃ b ∈ bs,Value.bool b = y:=by simpa using h
 have:=SeqAt.EqAt.bool_bool (A:=A) (s:=s) b true
 rw [show (b == true) = b by cases b <;> rfl] at this
 exact this
noncomputable def rCountB : V → List V → Hp → VK → Prop:=fun x vs H Q => ∃ (l : Addr) (bs : List Bool),x = .ref l ∧ vs = [.bl true] ∧ H l = some (.lst (bs.map V.bl)) ∧ Q (.int (bs.countP id : Nat)) H
theorem zjU (bs : List Bool) : (bs.map Value.bool).toArray.toList.countP zhQ = bs.countP id:=by
 show (bs.map Value.bool).countP zhQ = _
 rw [List.countP_map]
 rfl
theorem zi8 : MtM X "list.count" rCountB:=by
 intro pins s σ H x vs v us Q I rx rv h
 obtain ⟨l,bs,rfl,rfl,hH,q⟩:=h
 cases rx
 obtain ⟨u,rfl,ru⟩:=zbZ rv
 cases ru
 obtain ⟨z,its,n,r,hl,e⟩:=I.lstM hH
 obtain rfl:=zf8 r
 refine call_meets F.slot_list_count ⟨_,e,rfl⟩ F.entry_list_count (F.args_list_count_2 _ _) (SeqAt.list_countAt l _ n none #[] (.bool true) zhQ) ⟨e,fun y hy => tru_at hy,?_⟩
 rw [zjU]
 exact ⟨.int _,H,I.tok _,⟨_,rfl⟩,q⟩
noncomputable def rIndexB : V → List V → Hp → VK → Prop:=fun x vs H Q => ∃ (l : Addr) (bs : List Bool) (j : Nat),x = .ref l ∧ vs = [.bl true] ∧ H l = some (.lst (bs.map V.bl)) ∧ bs[j]? = some true ∧ (∀ i,i < j → bs[i]? = some false) ∧ Q (.int j) H
theorem zi7 : MtM X "list.index" rIndexB:=by
 intro pins s σ H x vs v us Q I rx rv h
 obtain ⟨l,bs,j,rfl,rfl,hH,hj,hno,q⟩:=h
 cases rx
 obtain ⟨u,rfl,ru⟩:=zbZ rv
 cases ru
 obtain ⟨z,its,n,r,hl,e⟩:=I.lstM hH
 obtain rfl:=zf8 r
 have hjl : j < bs.length:=by
  rcases Nat.lt_or_ge j bs.length with h | h
  ·exact h
  ·rw [List.getElem?_eq_none h] at hj
   cases hj
 have hz : (bs.map Value.bool).toArray.size = bs.length:=by simp
 have at_ : ∀ (i : Nat) (hi : i < (bs.map Value.bool).toArray.size) (b : Bool),bs[i]? = some b → zhQ (bs.map Value.bool).toArray[i] = b:=fun i hi b hb => by
  have hi' : i < bs.length:=by omega
  rw [List.getElem?_eq_getElem hi'] at hb
  have : (bs.map Value.bool).toArray[i] = Value.bool bs[i]:=by simp
  rw [this]
  exact Option.some.inj hb
 rw [List.length_map,sizeLine_eq] at z
 refine call_meets F.slot_list_index ⟨_,e,rfl⟩ F.entry_list_index (F.args_list_index_2 _ _) (SeqAt.list_indexAt l _ n none #[] (.bool true) zhQ j (by omega) (by omega) (at_ j (by omega) true hj) (fun i hi hij => at_ i hi false (hno i hij))) ⟨e,fun y hy => tru_at hy,?_⟩
 exact ⟨.int _,H,I.tok _,⟨_,rfl⟩,q⟩
end
end L2
namespace L2
open PySem PySem.Spec PyProof.Rows
section
variable {X : Cx}
theorem zjZ (hc : X.calm = true) : zce X (.builtin "sum") (fun xs H Q => ∃ (l : Addr) (ns : List Int),xs = [.ref l] ∧ SqL X.K H l (ns.map V.int) ∧ Q (.int (sumI ns)) H):=by
 intro pins s σ H xs us Q I r h
 obtain ⟨l,ns,rfl,hl,q⟩:=h
 obtain ⟨u,rfl,rx⟩:=zbZ r
 cases rx
 obtain ⟨its,rv,pl,_⟩:=I.list hl
 obtain ⟨hlen,hval⟩:=zjv rv
 have hls:=pl.isList
 obtain ⟨o,ho,_⟩:=id hls
 have hll : l < s.heap.objs.size:=Heap.lt_size ho
 refine call_sum_walkAnyS (wpAny_pyIter_list hls ?_)
 refine ⟨s.heap.objs.size,_,_,_,its.toArray.size,_,_,(fun i => ns.getD i 0),rfl,(Walks.list (A:=X.A.in1) (show X.A.in1.handled = none from I.ok.hd hc) s.heap.objs.size l (Nat.ne_of_lt hll) its.toArray).toS,⟨⟨_,Heap.get?_push_size _ rfl,rfl,rfl⟩,hls.at fun o e => Heap.get?_push_of_some _ e⟩,fun b hb => ?_,fun i x hx => ?_,fun s' t' hmv => ?_⟩
 ·rw [Heap.size_push]
  rcases List.mem_cons.mp hb with e | hb
  ·rw [e]
   exact Nat.lt_succ_self _
  ·rw [List.mem_singleton.mp hb]
   exact Nat.lt_succ_of_lt hll
 ·exact hval i x (by simpa using hx)
 ·rw [List.size_toArray,hlen,zcs]
  rw [Moved.eq_with hmv]
  exact ⟨.int (sumI ns),H,I.kept (t':=s'.toks) fun b u e => hmv.heap b u (fun hb => absurd (Heap.lt_size e) (by rw [List.mem_singleton.mp hb]; exact Nat.lt_irrefl _)) (Heap.get?_push_of_some _ e),⟨t',rfl⟩,q⟩
end
end L2
namespace Fb
open PySem L2
noncomputable def remE (e : Ent) : List Ent → List Ent
 | [] => []
 | x :: r => if x.lt e then x :: remE e r else r
theorem Ent.lt_irr (x : Ent) : ¬ x.lt x:=by
 unfold Ent.lt klt
 omega
theorem zeG (e : Ent) : ∀ xs : List Ent,remE e xs = xs.eraseIdx (zbp e xs)
 | [] => rfl
 | x :: r => by
  unfold remE zbp
  split
  ·rw [List.eraseIdx_cons_succ,zeG e r]
  ·rfl
theorem zfE {α β : Type} (f : α → β) : ∀ (xs : List α) (i : Nat),(xs.map f).eraseIdx i = (xs.eraseIdx i).map f
 | [],_ => rfl
 | x :: r,0 => rfl
 | x :: r,i + 1 => by
  show f x :: (r.map f).eraseIdx i = f x :: (r.eraseIdx i).map f
  rw [zfE f r i]
theorem zeE (e : Ent) (xs : List Ent) : (remE e xs).Sublist xs:=by
 rw [zeG]
 exact List.eraseIdx_sublist _ _
theorem zdC {e : Ent} : ∀ {xs : List Ent},zbA xs → e ∈ xs → xs[zbp e xs]? = some e
 | [],_,h => absurd h (by simp)
 | y :: r,hs,h => by
  obtain ⟨h1,h2⟩:=List.pairwise_cons.mp hs
  unfold zbp
  split
  ·rename_i hy
   rcases List.mem_cons.mp h with rfl | h
   ·exact absurd hy (Ent.lt_irr _)
   ·rw [List.getElem?_cons_succ]
    exact zdC h2 h
  ·rename_i hy
   rcases List.mem_cons.mp h with rfl | h
   ·rfl
   ·exact absurd (h1 e h) hy
theorem zeV {e x : Ent} : ∀ {xs : List Ent},zbA xs → e ∈ xs → (x ∈ remE e xs ↔ x ∈ xs ∧ x ≠ e)
 | [],_,h => absurd h (by simp)
 | y :: r,hs,h => by
  obtain ⟨h1,h2⟩:=List.pairwise_cons.mp hs
  unfold remE
  split
  ·rename_i hy
   have hye : y ≠ e:=fun z => by
    rw [z] at hy
    exact Ent.lt_irr _ hy
   have hr : e ∈ r:=by
    rcases List.mem_cons.mp h with z | z
    ·exact absurd z.symm hye
    ·exact z
   rw [List.mem_cons,zeV h2 hr,List.mem_cons]
   constructor
   ·rintro (z | ⟨z1,z2⟩)
    ·exact ⟨.inl z,by rw [z]; exact hye⟩
    ·exact ⟨.inr z1,z2⟩
   ·rintro ⟨z | z,z2⟩
    ·exact .inl z
    ·exact .inr ⟨z,z2⟩
  ·rename_i hy
   have hye : y = e:=by
    rcases List.mem_cons.mp h with z | z
    ·exact z.symm
    ·exact absurd (h1 e z) hy
   subst hye
   constructor
   ·intro z
    exact ⟨List.mem_cons_of_mem _ z,fun q => Ent.lt_irr y (h1 y (by rw [q] at z; exact z))⟩
   ·rintro ⟨z,z2⟩
    rcases List.mem_cons.mp z with q | q
    ·exact absurd q z2
    ·exact q
theorem zeF {e : Ent} {xs : List Ent} (hs : zbA xs) (h : e ∈ xs) : (remE e xs).length + 1 = xs.length:=by
 have hp:=zdC hs h
 have hl : zbp e xs < xs.length:=(List.getElem?_eq_some_iff.mp hp).1
 rw [zeG,List.length_eraseIdx,if_pos hl]
 omega
theorem zi3 : ∀ {xs : List Ent},(xs.map (·.num)).Nodup → ∀ {x y : Ent},x ∈ xs → y ∈ xs → x.num = y.num → x = y
 | [],_,_,_,h,_,_ => absurd h (by simp)
 | z :: r,hn,x,y,hx,hy,e => by
  have hn : (z.num :: r.map (·.num)).Nodup:=hn
  obtain ⟨h1,h2⟩:=List.nodup_cons.mp hn
  rcases List.mem_cons.mp hx with hx' | hx'
  ·rcases List.mem_cons.mp hy with hy' | hy'
   ·rw [hx',hy']
   ·exact absurd (List.mem_map.mpr ⟨y,hy',by rw [← e,hx']⟩) h1
  ·rcases List.mem_cons.mp hy with hy' | hy'
   ·exact absurd (List.mem_map.mpr ⟨x,hx',by rw [e,hy']⟩) h1
   ·exact zi3 h2 hx' hy' e
noncomputable def Bk.out (B : Bk) (e : Ent) : Bk:=B.set e.buy (remE e (B.at e.buy))
theorem zaH (B : Bk) (b : Bool) (xs : List Ent) : (B.set b xs).at b = xs:=by
 unfold Bk.set Bk.at
 cases b <;> rfl
theorem zaz (B : Bk) (b : Bool) (xs : List Ent) : (B.set b xs).at (!b) = B.at (!b):=by
 unfold Bk.set Bk.at
 cases b <;> rfl
theorem zaT (B : Bk) (b : Bool) (xs : List Ent) : (B.set b xs).came = B.came ∧ (B.set b xs).places = B.places ∧ (B.set b xs).calling = B.calling ∧ (B.set b xs).last = B.last ∧ (B.set b xs).vol = B.vol:=by
 unfold Bk.set
 cases b <;> exact ⟨rfl,rfl,rfl,rfl,rfl⟩
theorem zbN (B : Bk) (b : Bool) (xs : List Ent) : (B.set b xs).buys.length + (B.set b xs).sells.length = xs.length + (B.at (!b)).length:=by
 unfold Bk.set Bk.at
 cases b
 ·show B.buys.length + xs.length = xs.length + B.buys.length
  omega
 ·rfl
theorem zcb (B : Bk) (b : Bool) : (B.at b).length + (B.at (!b)).length = B.buys.length + B.sells.length:=by
 unfold Bk.at
 cases b
 ·show B.sells.length + B.buys.length = _
  omega
 ·rfl
theorem zeU {B : Bk} {b b' : Bool} {xs : List Ent} {x : Ent} (h : x ∈ (B.set b xs).at b') : (b' = b ∧ x ∈ xs) ∨ (b' = !b ∧ x ∈ B.at b'):=by
 by_cases hb : b' = b
 ·subst hb
  rw [zaH] at h
  exact .inl ⟨rfl,h⟩
 ·have e : b' = !b:=not_of hb
  subst e
  rw [zaz] at h
  exact .inr ⟨rfl,h⟩
theorem zcv {B : Bk} {e : Ent} (so : zbA (B.at e.buy)) (he : e ∈ B.at e.buy) {b : Bool} {x : Ent} (h : x ∈ (B.out e).at b) : x ∈ B.at b ∧ (b = e.buy → x ≠ e):=by
 rcases zeU h with ⟨hb,h'⟩ | ⟨hb,h'⟩
 ·subst hb
  obtain ⟨h1,h2⟩:=(zeV so he).mp h'
  exact ⟨h1,fun _ => h2⟩
 ·refine ⟨h',fun z => ?_⟩
  rw [z] at hb
  revert hb
  cases e.buy <;> simp
theorem zdE {B : Bk} (ok : B.Ok) {e : Ent} (he : e ∈ B.at e.buy) {b : Bool} {x : Ent} (h : x ∈ (B.out e).at b) : x.num ≠ e.num:=fun z => by
 obtain ⟨h1,h2⟩:=zcv (ok.so _) he h
 have hb:=zg9 (b:=b) ok b e.buy h1 he z
 subst hb
 exact h2 rfl (zi3 (ok.nd _) h1 he z)
theorem Bk.Ok.sub {B : Bk} (ok : B.Ok) {b : Bool} {xs : List Ent} (h : xs.Sublist (B.at b)) : (B.set b xs).Ok:=by
 obtain ⟨q1,q2,q3,q4,q5⟩:=zaT B b xs
 have key : ∀ b' x,x ∈ (B.set b xs).at b' → x ∈ B.at b':=fun b' x hx => by
  rcases zeU hx with ⟨hb,hx'⟩ | ⟨_,hx'⟩
  ·subst hb
   exact h.subset hx'
  ·exact hx'
 refine ⟨fun b' => ?_,fun b' x hx => ok.sd b' x (key b' x hx),fun b' => ?_,fun x hx y hy => ok.nx x (key true x hx) y (key false y hy),fun b' x hx => by rw [q1]; exact ok.lt b' x (key b' x hx),fun b' x hx => by rw [q2]; exact ok.pl b' x (key b' x hx),?_,by rw [q1]; exact ok.cm⟩
 ·by_cases hb : b' = b
  ·subst hb
   rw [zaH]
   exact (ok.so _).sublist h
  ·have e : b' = !b:=not_of hb
   subst e
   rw [zaz]
   exact ok.so _
 ·by_cases hb : b' = b
  ·subst hb
   rw [zaH]
   exact (ok.nd _).sublist (h.map _)
  ·have e : b' = !b:=not_of hb
   subst e
   rw [zaz]
   exact ok.nd _
 ·rw [zbN,q1]
  have h1:=h.length_le
  have h2:=zcb B b
  have h3:=ok.ct
  omega
theorem Bk.Ok.out {B : Bk} (ok : B.Ok) (e : Ent) : (B.out e).Ok:=ok.sub (zeE e _)
noncomputable def outH (g : Ga) (B : Bk) (e : Ent) (kvs : List (Key × V)) (H : Hp) : Hp:=upd (upd H (g.at e.buy) (.lst ((refs (B.at e.buy)).eraseIdx (zbp e (B.at e.buy))))) g.de (.dK (zbT kvs (Sum.inl e.num)))
theorem rep_out {c : Cs} {H : Hp} {g : Ga} {B : Bk} {e : Ent} {kvs : List (Key × V)} (R : Rep c H g B) (ok : B.Ok) (he : e ∈ B.at e.buy) (hkv : H g.de = some (.dK kvs)) (hnd : (kvs.map (·.1)).Nodup) (hlen : kvs.length = B.buys.length + B.sells.length)
  (hv1 : ∀ b,∀ e ∈ B.at b,valV kvs (Sum.inl e.num) = some (.ref e.ea)) (hv2 : ∀ n v,valV kvs (Sum.inl n) = some v → ∃ b,∃ e ∈ B.at b,e.num = n) : Rep c (outH g B e kvs H) g (B.out e):=by
 obtain ⟨⟨d1,h1⟩,⟨d2,h2⟩,h3,h4,h5,h6,_,h9⟩:=R
 obtain ⟨q1,q2,q3,q4,q5⟩:=zaT B e.buy (remE e (B.at e.buy))
 have un : ∀ x,x ≠ g.de → x ≠ g.at e.buy → outH g B e kvs H x = H x:=fun x n1 n2 => by
  unfold outH
  rw [zad n1,zad n2]
 have k : ∀ {x : Addr} {u : HO} (i : Nat),H x = some u → kd u = i → i ≠ 6 → i ≠ 5 → outH g B e kvs H x = some u:=fun {x u} i hx hk n6 n5 => by
  rw [un x (zan i 6 hx hkv hk rfl n6) (zan i 5 hx (h4 e.buy) hk rfl n5)]
  exact hx
 have hl:=zeF (ok.so _) he
 refine ⟨⟨d1,?_⟩,⟨d2,?_⟩,?_,fun b => ?_,h5,h6,⟨zbT kvs (Sum.inl e.num),?_,zeS hnd,?_,fun b x hx => ?_,fun n v hv => ?_⟩,fun b x hx => ?_⟩
 ·show _ = some (HO.ins c.B d1 (zd2 g.nb g.ds g.de (B.out e).places (B.out e).calling (B.out e).last (B.out e).vol))
  unfold Bk.out
  rw [q2,q3,q4,q5]
  exact k 3 h1 rfl (by decide) (by decide)
 ·unfold Bk.out
  rw [q1]
  exact k 4 h2 rfl (by decide) (by decide)
 ·rw [un _ h6.symm (zan 6 5 h3 (h4 e.buy))]
  exact h3
 ·unfold Bk.out
  by_cases hb : b = e.buy
  ·subst hb
   rw [zaH,zeG]
   unfold outH
   rw [zad (zan 5 6 (h4 e.buy) hkv),zab]
   unfold refs
   rw [zfE]
  ·have hb' : b = !e.buy:=not_of hb
   subst hb'
   rw [zaz,un _ (zan 5 6 (h4 _) hkv) (at_ne h5 e.buy).symm]
   exact h4 _
 ·unfold outH
  rw [zab]
 ·have z:=zfU hnd (valV_in (hv1 _ e he))
  unfold Bk.out
  rw [zbN]
  have:=zcb B e.buy
  omega
 ·obtain ⟨hx1,_⟩:=zcv (ok.so _) he hx
  rw [zcA,if_neg (fun z => zdE ok he hx (Sum.inl.inj z))]
  exact hv1 b x hx1
 ·rw [zcA] at hv
  by_cases hn : (Sum.inl n : Key) = Sum.inl e.num
  ·rw [if_pos hn] at hv
   cases hv
  ·rw [if_neg hn] at hv
   obtain ⟨b,x,hx,ex⟩:=hv2 n v hv
   refine ⟨b,x,?_,ex⟩
   unfold Bk.out
   by_cases hb : b = e.buy
   ·subst hb
    rw [zaH]
    exact (zeV (ok.so _) he).mpr ⟨hx,fun z => hn (by rw [← ex,z])⟩
   ·have hb' : b = !e.buy:=not_of hb
    subst hb'
    rw [zaz]
    exact hx
 ·obtain ⟨hx1,_⟩:=zcv (ok.so _) he hx
  obtain ⟨⟨dx,en⟩,⟨dy,od⟩,rk⟩:=h9 b x hx1
  exact ⟨⟨dx,k 1 en rfl (by decide) (by decide)⟩,⟨dy,k 2 od rfl (by decide) (by decide)⟩,k 7 rk rfl (by decide) (by decide)⟩
section
variable {P : Program} {w : World} {K : W.Frag} {mg : Str → Option Value} {base : Heap} {bo nt nn be sides ways : Addr} {c : Cs} {a : Ads} {d : Pds}
theorem scTk : FnScope ["self","entry","entries"] ["self","entry"] (zak zer):=fsc
noncomputable def zii (c : Cs) : Sp:=fun vs H Q _ => ∃ (g : Ga) (B : Bk) (e : Ent),vs = [.ref g.b,.ref e.ea] ∧ Rep c H g B ∧ B.Ok ∧ e ∈ B.at e.buy ∧ ∀ H',Rep c H' g (B.out e) → (∀ x,x ≠ g.at e.buy → x ≠ g.de → H' x = H x) → Q .non H'
theorem zcN (C : CTxt K mg c) (F : FTxt K mg a c) : Kp P w K mg base 2 a.takeOut ["self","entry"] (zii c):=F.takeOut.kp fun fd G => by
 obtain ⟨fd3,G3,b3,k3⟩ : Kp P w K mg base 1 a.find ["entries","rank"] (zio c):=F.find.kp fun fd G => zi0 G C
 refine G.okN scTk (fun vs H Q E h => ?_) (fun cdv A outer s H vs Q E hr h => ?_)
 ·obtain ⟨_,_,_,rfl,_⟩:=h
  rfl
 ·obtain ⟨g,B,e,rfl,R,ok,he,q⟩:=h
  have hu:=zdd hr
  obtain ⟨dxb,hb⟩:=id R.ob
  obtain ⟨kvs,hkv,hnd,hkl,hv1,hv2⟩:=id R.de
  have hl:=R.ls e.buy
  obtain ⟨⟨dx,hen⟩,⟨dy,hod⟩,hrk⟩:=R.en _ e he
  have hct:=ok.ct
  have hcm:=ok.cm
  have hla:=zda B e.buy
  refine ⟨_,zac (zap (i:=2) scTk.nd rfl (Or.inl rfl) (zbm hu (zal (pv 0) rfl) (zal (zal (pv 1) rfl) rfl) (fun _ _ => rfl)))
   (zac (zaG (zgx PySem.F.plainAttrs_list PySem.F.slot_list_pop PySem.F.type_list_pop mt_popAt (pv 2) (zaa (zas G3 hr rfl F.gFind k3 b3 .nil zaq (zaa (pv 2) (zaa (zal (pv 1) rfl) zag))) zag)))
   (zaf (zaG (pe_dpop1 (zal (pv 0) rfl) (zal (zal (pv 1) rfl) rfl) ⟨rfl,rfl,rfl,rfl⟩)))),?_⟩
  refine (rX rfl (rA g.b c.B dxb rfl hb C.clB C.b2 rfl (rX rfl (rA e.ea c.E dx rfl hen C.clE C.e1 rfl (rA e.oa c.O dy rfl hod C.clO C.o2 rfl ⟨g.ds,.ref (g.at e.buy),rfl,(by have:=DGet.k (H:=H) (k:=Sum.inr (zav e.buy)) R.ds; rw [Ga.side_val] at this; exact this),?_⟩)))))
  refine (rX rfl ⟨.inl ⟨rfl,_,SqL.of hl⟩,rX rfl (rX rfl (rA e.ea c.E dx rfl hen C.clE C.e4 rfl ?_))⟩)
  refine ⟨g.at e.buy,e.ra,B.at e.buy,e.k1,e.place,zbp e (B.at e.buy),rfl,hl,hrk,fun x hx => R.en _ x hx,by omega,zdi _ _,fun i x hx => zc0 e (ok.so e.buy) i x hx,?_⟩
  have hp:=zdC (ok.so _) he
  have hpl : zbp e (B.at e.buy) < (B.at e.buy).length:=(List.getElem?_eq_some_iff.mp hp).1
  have hpl2 : zbp e (B.at e.buy) < (refs (B.at e.buy)).length:=by rw [List.length_map]; exact hpl
  have hix : ixN (refs (B.at e.buy)).length ((zbp e (B.at e.buy) : Nat) : Int) = some (zbp e (B.at e.buy)):=by
   unfold ixN
   rw [if_pos (by omega),if_pos (by omega)]
   rfl
  refine ⟨g.at e.buy,refs (B.at e.buy),_,zbp e (B.at e.buy),.ref e.ea,rfl,rfl,hl,by omega,by omega,(zjr hix).1,by rw [List.getElem?_map,hp]; rfl,?_⟩
  have lb : g.at e.buy ≠ g.b:=zan 5 3 hl hb
  have lE : g.at e.buy ≠ e.ea:=zan 5 1 hl hen
  have lo : g.at e.buy ≠ e.oa:=zan 5 2 hl hod
  have dl : g.de ≠ g.at e.buy:=zan 6 5 hkv hl
  refine ⟨_,rfl,g.b,c.B,dxb,_,_,rfl,(by rw [zad lb.symm]; exact hb),C.clB,C.b3,rfl,g.de,rfl,.inl ⟨kvs,.inl (by rw [zad dl]; exact hkv)⟩,_,rfl,e.ea,c.E,dx,_,_,rfl,(by rw [zad lE.symm]; exact hen),C.clE,C.e1,rfl,e.oa,c.O,dy,_,_,rfl,(by rw [zad lo.symm]; exact hod),C.clO,C.o7,rfl,
   kvs,Sum.inl e.num,.ref e.ea,(by rw [zad dl]; exact hkv),rfl,hv1 _ e he,?_⟩
  exact q _ (rep_out R ok he hkv hnd hkl hv1 hv2) fun x n1 n2 => by
   rw [zad n2,zad n1]
theorem scPA : FnScope ["self","entry"] ["self","entry"] (zak zet):=fsc
noncomputable def zim (c : Cs) : Sp:=fun vs H Q _ => ∃ (g : Ga) (B : Bk) (e : Ent),vs = [.ref g.b,.ref e.ea] ∧ Rep c H g B ∧ B.Ok ∧ e ∈ B.at e.buy ∧ ∀ r H',Rep c H' g ((B.out e).put e r) → (∀ x o,H x = some o → ¬ Foot g B x → H' x = some o) → Q .non H'
theorem zbD {g : Ga} {B : Bk} {e : Ent} (so : zbA (B.at e.buy)) (he : e ∈ B.at e.buy) {x : Addr} (f : Foot g (B.out e) x) : Foot g B x:=by
 rcases f with h | h | h | h | h | ⟨b,y,hy,rfl⟩
 ·exact .inl h
 ·exact .inr (.inl h)
 ·exact .inr (.inr (.inl h))
 ·exact .inr (.inr (.inr (.inl h)))
 ·exact .inr (.inr (.inr (.inr (.inl h))))
 ·exact .inr (.inr (.inr (.inr (.inr ⟨b,y,(zcv so he hy).1,rfl⟩))))
theorem zb9 (g : Ga) (B : Bk) (b : Bool) : Foot g B (g.at b):=by
 unfold Foot Ga.at
 cases b <;> simp
theorem zhl (C : CTxt K mg c) (F : FTxt K mg a c) : Kp P w K mg base 3 a.putAnew ["self","entry"] (zim c):=F.putAnew.kp fun fd G => by
 obtain ⟨fd1,G1,b1,k1⟩:=zcN (P:=P) (w:=w) (base:=base) C F
 obtain ⟨fd2,G2,b2,k2⟩:=kPut (P:=P) (w:=w) (base:=base) C F
 refine G.okN scPA (fun vs H Q E h => ?_) (fun cdv A outer s H vs Q E hr h => ?_)
 ·obtain ⟨_,_,_,rfl,_⟩:=h
  rfl
 ·obtain ⟨g,B,e,rfl,R,ok,he,q⟩:=h
  obtain ⟨dxb,hb⟩:=id R.ob
  obtain ⟨⟨dx,hen⟩,⟨dy,hod⟩,hrk⟩:=R.en _ e he
  obtain ⟨kvs,hkv,_⟩:=id R.de
  refine ⟨_,zac (zaG (zaK (pv 0) C.clB F.mTakeOut G1 hr b1 .nil zaq (zaa (pv 1) zag))) (zaf (zaG (zaK (pv 0) C.clB F.mPut G2 hr b2 .nil zaq (zaa (pv 1) zag)))),?_⟩
  refine (rX rfl (rM g.b dxb rfl hb rfl (rX rfl ⟨g,B,e,rfl,R,ok,he,fun H1 R1 f1 => ?_⟩)))
  obtain ⟨dxb1,hb1⟩:=id R1.ob
  have ok1:=ok.out e
  have hct:=ok1.ct
  have hcm:=ok1.cm
  have e1 : H1 e.ea = _:=(f1 e.ea (zan 1 5 hen (R.ls _)) (zan 1 6 hen hkv)).trans hen
  have o1 : H1 e.oa = _:=(f1 e.oa (zan 2 5 hod (R.ls _)) (zan 2 6 hod hkv)).trans hod
  refine (rX rfl (rM g.b dxb1 rfl hb1 rfl (rX rfl ⟨g,B.out e,e,dx,dy,e.shown,.ref e.ra,rfl,R1,ok1.so,by omega,e1,o1,fun b x hx => zdE ok he hx,fun r H2 R2 f2 => ?_⟩)))
  refine q r H2 R2 fun x u hx nf => f2 x u ?_ (fun z => nf (zbD (ok.so _) he z)) fun z => nf (.inr (.inr (.inr (.inr (.inr ⟨_,e,he,z⟩)))))
  rw [f1 x (fun z => nf (by rw [z]; exact zb9 g B _)) (fun z => nf (.inr (.inr (.inr (.inr (.inl z))))))]
  exact hx
noncomputable def spRecord (c : Cs) : Sp:=fun vs H Q _ => ∃ (g : Ga) (B : Bk) (p m : Int),vs = [.ref g.b,.int p,.int m] ∧ Rep c H g B ∧ ∀ H',Rep c H' g { B with last:=some p,vol:=B.vol + m } → (∀ x,x ≠ g.b → H' x = H x) → Q .non H'
theorem zjo (C : CTxt K mg c) (F : FTxt K mg a c) : Kp P w K mg base 1 a.record ["self","price","many"] (spRecord c):=F.record.kp fun fd G => by
 refine G.okN scRc (fun vs H Q E h => ?_) (fun cdv A outer s H vs Q E hr h => ?_)
 ·obtain ⟨_,_,_,_,rfl,_⟩:=h
  rfl
 ·obtain ⟨g,B,p,m,rfl,R,q⟩:=h
  obtain ⟨dxb,hb⟩:=id R.ob
  refine ⟨_,zac (zaP (pv 0) (pv 1) rfl) (zaf (zbw (pv 0) (pv 2) zjx)),?_⟩
  refine (rX rfl (rX rfl ⟨g.b,c.B,dxb,rX rfl ⟨hb,C.clB,C.b6,(by show 7 < 1000; decide),?_⟩⟩))
  refine ⟨_,rfl,g.b,c.B,dxb,_,_,rfl,zab,C.clB,C.b7,rfl,_,rfl,_,_,rfl,rfl,dxb,_,zab,(by show 7 < 1000; decide),?_⟩
  rw [zaR]
  obtain ⟨_,⟨d2,h2⟩,h3,h4,h5,h6,⟨kvs,h7,h8⟩,h9⟩:=R
  have k : ∀ {x : Addr} {u v : HO} (i : Nat),H x = some u → kd u = i → i ≠ 3 → upd H g.b v x = some u:=fun {x u v} i hx hk n3 => by
   rw [zad (zan i 3 hx hb hk rfl n3)]
   exact hx
  refine q _ ⟨⟨dxb,zab⟩,⟨d2,k 4 h2 rfl (by decide)⟩,k 6 h3 rfl (by decide),fun b => k 5 (h4 b) rfl (by decide),h5,h6,⟨kvs,k 6 h7 rfl (by decide),h8⟩,fun b x hx => ?_⟩ fun x n => zad n
  obtain ⟨⟨dx,en⟩,⟨dy,od⟩,rk⟩:=h9 b x hx
  exact ⟨⟨dx,k 1 en rfl (by decide)⟩,⟨dy,k 2 od rfl (by decide)⟩,k 7 rk rfl (by decide)⟩
end
end Fb
namespace Fb
open PySem L2
noncomputable def Ent.as (e : Ent) (l s : Int) : Ent:={ e with left:=l,shown:=s }
noncomputable def modE (n l s : Int) (xs : List Ent) : List Ent:=xs.map fun x => if x.num = n then x.as l s else x
noncomputable def Bk.mod (B : Bk) (e : Ent) (l s : Int) : Bk:=B.set e.buy (modE e.num l s (B.at e.buy))
theorem zbR (n l s : Int) (x : Ent) : (if x.num = n then x.as l s else x).ea = x.ea ∧ (if x.num = n then x.as l s else x).num = x.num ∧ (if x.num = n then x.as l s else x).buy = x.buy ∧ (if x.num = n then x.as l s else x).place = x.place ∧ (if x.num = n then x.as l s else x).k1 = x.k1:=by
 split <;> exact ⟨rfl,rfl,rfl,rfl,rfl⟩
theorem mem_modE {n l s : Int} {xs : List Ent} {y : Ent} (h : y ∈ modE n l s xs) : ∃ x ∈ xs,y = if x.num = n then x.as l s else x:=by
 obtain ⟨x,hx,e⟩:=List.mem_map.mp h
 exact ⟨x,hx,e.symm⟩
theorem zfC {e : Ent} {r : List Ent} (l s : Int) (h : ((e :: r).map (·.num)).Nodup) : modE e.num l s (e :: r) = e.as l s :: r:=by
 have h : (e.num :: r.map (·.num)).Nodup:=h
 obtain ⟨h1,_⟩:=List.nodup_cons.mp h
 unfold modE
 rw [List.map_cons,if_pos rfl]
 congr 1
 have : ∀ xs : List Ent,(∀ x ∈ xs,x.num ≠ e.num) → xs.map (fun x => if x.num = e.num then x.as l s else x) = xs:=fun xs => by
  induction xs with
  | nil => intro _; rfl
  | cons y t ih =>
   intro hx
   rw [List.map_cons,if_neg (hx y List.mem_cons_self),ih fun x h => hx x (List.mem_cons_of_mem _ h)]
 exact this r fun x hx z => h1 (List.mem_map.mpr ⟨x,hx,z⟩)
theorem zja (n l s : Int) (xs : List Ent) : (modE n l s xs).map (·.num) = xs.map (·.num):=by
 unfold modE
 rw [List.map_map]
 refine List.map_congr_left fun x _ => ?_
 exact (zbR n l s x).2.1
theorem zi9 (n l s : Int) (xs : List Ent) : refs (modE n l s xs) = refs xs:=by
 unfold modE refs
 rw [List.map_map]
 refine List.map_congr_left fun x _ => ?_
 show V.ref _ = V.ref _
 rw [(zbR n l s x).1]
theorem zgz {n l s : Int} {xs : List Ent} (h : zbA xs) : zbA (modE n l s xs):=by
 unfold modE
 refine List.pairwise_map.mpr (h.imp fun {x y} hxy => ?_)
 unfold Ent.lt at hxy ⊢
 rw [(zbR n l s x).2.2.2.1,(zbR n l s y).2.2.2.1,(zbR n l s x).2.2.2.2,(zbR n l s y).2.2.2.2]
 exact hxy
theorem zdk (n l s : Int) (xs : List Ent) : (modE n l s xs).length = xs.length:=List.length_map _
theorem zb7 {B : Bk} {e : Ent} {l s : Int} {b : Bool} {y : Ent} (h : y ∈ (B.mod e l s).at b) : ∃ x ∈ B.at b,y = if b = e.buy ∧ x.num = e.num then x.as l s else x:=by
 rcases zeU h with ⟨hb,h'⟩ | ⟨hb,h'⟩
 ·subst hb
  obtain ⟨x,hx,q⟩:=mem_modE h'
  exact ⟨x,hx,by rw [q]; simp⟩
 ·refine ⟨y,h',?_⟩
  have : ¬ (b = e.buy ∧ y.num = e.num):=fun z => by
   rw [z.1] at hb
   revert hb
   cases e.buy <;> simp
  rw [if_neg this]
theorem zeT (b : Bool) (e x : Ent) (l s : Int) : (if b = e.buy ∧ x.num = e.num then x.as l s else x).ea = x.ea ∧ (if b = e.buy ∧ x.num = e.num then x.as l s else x).num = x.num ∧ (if b = e.buy ∧ x.num = e.num then x.as l s else x).buy = x.buy ∧ (if b = e.buy ∧ x.num = e.num then x.as l s else x).place = x.place:=by
 split <;> exact ⟨rfl,rfl,rfl,rfl⟩
theorem Bk.Ok.mod {B : Bk} (ok : B.Ok) (e : Ent) (l s : Int) : (B.mod e l s).Ok:=by
 obtain ⟨q1,q2,q3,q4,q5⟩:=zaT B e.buy (modE e.num l s (B.at e.buy))
 have key : ∀ b y,y ∈ (B.mod e l s).at b → ∃ x ∈ B.at b,y.num = x.num ∧ y.buy = x.buy ∧ y.place = x.place:=fun b y hy => by
  obtain ⟨x,hx,q⟩:=zb7 hy
  obtain ⟨_,f2,f3,f4⟩:=zeT b e x l s
  exact ⟨x,hx,by rw [q]; exact f2,by rw [q]; exact f3,by rw [q]; exact f4⟩
 refine ⟨fun b => ?_,fun b y hy => ?_,fun b => ?_,fun x hx y hy => ?_,fun b y hy => ?_,fun b y hy => ?_,?_,by unfold Bk.mod; rw [q1]; exact ok.cm⟩
 ·unfold Bk.mod
  by_cases hb : b = e.buy
  ·subst hb
   rw [zaH]
   exact zgz (ok.so _)
  ·have hb' : b = !e.buy:=not_of hb
   subst hb'
   rw [zaz]
   exact ok.so _
 ·obtain ⟨x,hx,_,f,_⟩:=key b y hy
  rw [f]
  exact ok.sd b x hx
 ·unfold Bk.mod
  by_cases hb : b = e.buy
  ·subst hb
   rw [zaH,zja]
   exact ok.nd _
  ·have hb' : b = !e.buy:=not_of hb
   subst hb'
   rw [zaz]
   exact ok.nd _
 ·obtain ⟨x',hx',f,_⟩:=key true x hx
  obtain ⟨y',hy',f',_⟩:=key false y hy
  rw [f,f']
  exact ok.nx x' hx' y' hy'
 ·obtain ⟨x,hx,f,_⟩:=key b y hy
  unfold Bk.mod
  rw [f,q1]
  exact ok.lt b x hx
 ·obtain ⟨x,hx,_,_,f⟩:=key b y hy
  unfold Bk.mod
  rw [f,q2]
  exact ok.pl b x hx
 ·unfold Bk.mod
  rw [zbN,q1,zdk]
  have h1:=zcb B e.buy
  have h2:=ok.ct
  omega
theorem zaQ {B : Bk} {e : Ent} (he : e ∈ B.at e.buy) (l s : Int) : e.as l s ∈ (B.mod e l s).at e.buy:=by
 unfold Bk.mod
 rw [zaH]
 exact List.mem_map.mpr ⟨e,he,by rw [if_pos rfl]⟩
theorem zdx {c : Cs} {H : Hp} {g : Ga} {B : Bk} {e : Ent} {dx : Addr} {l s : Int} (R : Rep c H g B) (ok : B.Ok) (he : e ∈ B.at e.buy) (hen : H e.ea = some (.ins c.E dx (entF e.oa e.left e.shown (.ref e.ra)))) :
  Rep c (upd H e.ea (.ins c.E dx (entF e.oa l s (.ref e.ra)))) g (B.mod e l s):=by
 have ke:=R.en _ e he
 obtain ⟨⟨d1,h1⟩,⟨d2,h2⟩,h3,h4,h5,h6,⟨kvs,h7,h8,hkl,hv1,hv2⟩,h9⟩:=R
 obtain ⟨q1,q2,q3,q4,q5⟩:=zaT B e.buy (modE e.num l s (B.at e.buy))
 have k : ∀ {x : Addr} {u v : HO} (i : Nat),H x = some u → kd u = i → i ≠ 1 → upd H e.ea v x = some u:=fun {x u v} i hx hk n => by
  rw [zad (zan i 1 hx hen hk rfl n)]
  exact hx
 refine ⟨⟨d1,?_⟩,⟨d2,?_⟩,k 6 h3 rfl (by decide),fun b => ?_,h5,h6,⟨kvs,k 6 h7 rfl (by decide),h8,?_,fun b y hy => ?_,fun n v hv => ?_⟩,fun b y hy => ?_⟩
 ·show _ = some (HO.ins c.B d1 (zd2 g.nb g.ds g.de (B.mod e l s).places (B.mod e l s).calling (B.mod e l s).last (B.mod e l s).vol))
  unfold Bk.mod
  rw [q2,q3,q4,q5]
  exact k 3 h1 rfl (by decide)
 ·unfold Bk.mod
  rw [q1]
  exact k 4 h2 rfl (by decide)
 ·unfold Bk.mod
  by_cases hb : b = e.buy
  ·subst hb
   rw [zaH,zi9]
   exact k 5 (h4 _) rfl (by decide)
  ·have hb' : b = !e.buy:=not_of hb
   subst hb'
   rw [zaz]
   exact k 5 (h4 _) rfl (by decide)
 ·unfold Bk.mod
  rw [zbN,zdk,zcb]
  exact hkl
 ·obtain ⟨x,hx,q⟩:=zb7 hy
  obtain ⟨f1,f2,_⟩:=zeT b e x l s
  rw [q,f1,f2]
  exact hv1 b x hx
 ·obtain ⟨b,x,hx,ex⟩:=hv2 n v hv
  unfold Bk.mod
  by_cases hb : b = e.buy
  ·subst hb
   refine ⟨e.buy,if x.num = e.num then x.as l s else x,?_,by rw [(zbR e.num l s x).2.1]; exact ex⟩
   rw [zaH]
   exact List.mem_map.mpr ⟨x,hx,rfl⟩
  ·have hb' : b = !e.buy:=not_of hb
   subst hb'
   refine ⟨!e.buy,x,?_,ex⟩
   rw [zaz]
   exact hx
 ·obtain ⟨x,hx,q⟩:=zb7 hy
  have kx:=h9 b x hx
  by_cases hq : b = e.buy ∧ x.num = e.num
  ·rw [if_pos hq] at q
   obtain ⟨hb,hn⟩:=hq
   subst hb
   have : x = e:=zi3 (ok.nd _) hx he hn
   subst this
   subst q
   obtain ⟨_,⟨dy,od⟩,rk⟩:=kx
   exact ⟨⟨dx,zab⟩,⟨dy,k 2 od rfl (by decide)⟩,k 7 rk rfl (by decide)⟩
  ·rw [if_neg hq] at q
   subst q
   have ne : y.ea ≠ e.ea:=fun z => by
    have hn:=EntOk.ea_num kx ke z
    have hb:=zg9 (b:=b) ok b e.buy hx he hn
    exact hq ⟨hb,hn⟩
   obtain ⟨⟨dz,en⟩,⟨dy,od⟩,rk⟩:=kx
   exact ⟨⟨dz,by rw [zad ne]; exact en⟩,⟨dy,k 2 od rfl (by decide)⟩,k 7 rk rfl (by decide)⟩
theorem zbq {g : Ga} {B : Bk} {e : Ent} {l s : Int} {x : Addr} (f : Foot g (B.mod e l s) x) : Foot g B x:=by
 rcases f with h | h | h | h | h | ⟨b,y,hy,rfl⟩
 ·exact .inl h
 ·exact .inr (.inl h)
 ·exact .inr (.inr (.inl h))
 ·exact .inr (.inr (.inr (.inl h)))
 ·exact .inr (.inr (.inr (.inr (.inl h))))
 ·obtain ⟨x,hx,q⟩:=zb7 hy
  exact .inr (.inr (.inr (.inr (.inr ⟨b,x,hx,by rw [q]; exact (zeT b e x l s).1⟩))))
noncomputable def Bk.less (B : Bk) (e : Ent) (m : Int) (r : Addr) : Bk :=
 if e.left - m = 0 then (B.mod e (e.left - m) (e.shown - m)).out (e.as (e.left - m) (e.shown - m))
 else if e.shown - m = 0 then ((B.mod e (e.left - m) (e.shown - m)).out (e.as (e.left - m) (e.shown - m))).put (e.as (e.left - m) (e.shown - m)) r
 else B.mod e (e.left - m) (e.shown - m)
theorem zjG {g : Ga} {B : Bk} (ok : B.Ok) {e : Ent} (he : e ∈ B.at e.buy) {m : Int} {r x : Addr} (f : Foot g (B.less e m r) x) : Foot g B x:=by
 have hm:=zaQ he (e.left - m) (e.shown - m)
 have so : zbA ((B.mod e (e.left - m) (e.shown - m)).at (e.as (e.left - m) (e.shown - m)).buy):=(ok.mod e _ _).so _
 unfold Bk.less at f
 split at f
 ·exact zbq (zbD so hm f)
 ·split at f
  ·rcases ze5 f with z | z
   ·exact zbq (zbD so hm z)
   ·exact .inr (.inr (.inr (.inr (.inr ⟨_,e,he,z⟩))))
  ·exact zbq f
end Fb
namespace Fb
open PySem L2
structure Mds where
 meet : Addr
 lessen : Addr
structure MTxt (K : W.Frag) (mg : Str → Option Value) (m : Mds) : Prop where
 meet : Dn K "meet" "meet" sMeet m.meet ["book","coming","other"]
 gMeet : mg "meet" = some (.ref m.meet)
 lessen : Dn K "lessen" "lessen" zgo m.lessen ["book","other","many"]
 gLessen : mg "lessen" = some (.ref m.lessen)
section
variable {P : Program} {w : World} {K : W.Frag} {mg : Str → Option Value} {base : Heap} {bo nt nn be sides ways : Addr} {c : Cs} {a : Ads} {d : Pds} {m : Mds}
theorem foot_kd {H : Hp} {g : Ga} {B : Bk} (R : Rep c H g B) {x : Addr} {u : HO} (h : H x = some u) (f : Foot g B x) : kd u = 1 ∨ kd u = 3 ∨ kd u = 4 ∨ kd u = 5 ∨ kd u = 6:=by
 have k : ∀ {v : HO} (i : Nat),H x = some v → kd v = i → kd u = i:=fun {v} i hv hi => by
  rw [h] at hv
  cases hv
  exact hi
 rcases f with rfl | rfl | rfl | rfl | rfl | ⟨b,e,he,rfl⟩
 ·obtain ⟨_,h1⟩:=R.ob
  exact .inr (.inl (k 3 h1 rfl))
 ·obtain ⟨_,h1⟩:=R.nb
  exact .inr (.inr (.inl (k 4 h1 rfl)))
 ·exact .inr (.inr (.inr (.inl (k 5 (R.ls true) rfl))))
 ·exact .inr (.inr (.inr (.inl (k 5 (R.ls false) rfl))))
 ·obtain ⟨kvs,h1,_⟩:=R.de
  exact .inr (.inr (.inr (.inr (k 6 h1 rfl))))
 ·obtain ⟨dx,h1⟩:=(R.en b e he).en
  exact .inl (k 1 h1 rfl)
theorem zdY {H : Hp} {g : Ga} {B : Bk} (R : Rep c H g B) {x : Addr} {u : HO} (i : Nat) (h : H x = some u) (hk : kd u = i:=by rfl) (hi : i = 2 ∨ i = 7:=by decide) : ¬ Foot g B x:=fun f => by
 have:=foot_kd R h f
 omega
theorem zhH {H : Hp} {g : Ga} {B : Bk} {ca : Addr} {u v : HO} (R : Rep c H g B) (h : H ca = some u) (hk : kd u = 1) (nf : ¬ Foot g B ca) : Rep c (upd H ca v) g B:=by
 obtain ⟨⟨d1,h1⟩,⟨d2,h2⟩,h3,h4,h5,h6,⟨kvs,h7,h8⟩,h9⟩:=R
 have k : ∀ {x : Addr} {u' : HO} (i : Nat),H x = some u' → kd u' = i → i ≠ 1 → upd H ca v x = some u':=fun {x u'} i hx hi n => by
  rw [zad (zan i 1 hx h hi hk n)]
  exact hx
 refine ⟨⟨d1,k 3 h1 rfl (by decide)⟩,⟨d2,k 4 h2 rfl (by decide)⟩,k 6 h3 rfl (by decide),fun b => k 5 (h4 b) rfl (by decide),h5,h6,⟨kvs,k 6 h7 rfl (by decide),h8⟩,fun b e he => ?_⟩
 obtain ⟨⟨dx,en⟩,⟨dy,od⟩,rk⟩:=h9 b e he
 refine ⟨⟨dx,?_⟩,⟨dy,k 2 od rfl (by decide)⟩,k 7 rk rfl (by decide)⟩
 rw [zad fun z => nf (.inr (.inr (.inr (.inr (.inr ⟨b,e,he,z.symm⟩)))))]
 exact en
theorem scLs : FnScope ["book","other","many"] ["book","other","many"] (zak zgo):=fsc
noncomputable def spLessen (c : Cs) : Sp:=fun vs H Q _ => ∃ (g : Ga) (B : Bk) (e : Ent) (k : Int),vs = [.ref g.b,.ref e.ea,.int k] ∧ Rep c H g B ∧ B.Ok ∧ e ∈ B.at e.buy ∧
 ∀ r H',Rep c H' g (B.less e k r) → (∃ dx l s rk,H' e.ea = some (.ins c.E dx (entF e.oa l s rk))) → (∀ x o,H x = some o → ¬ Foot g B x → H' x = some o) → Q .non H'
theorem kLessen (C : CTxt K mg c) (F : FTxt K mg a c) (M : MTxt K mg m) : Kp P w K mg base 4 m.lessen ["book","other","many"] (spLessen c):=M.lessen.kp fun fd G => by
 obtain ⟨fd1,G1,b1,k1⟩:=zcN (P:=P) (w:=w) (base:=base) C F
 obtain ⟨fd2,G2,b2,k2⟩:=zhl (P:=P) (w:=w) (base:=base) C F
 refine G.okN scLs (fun vs H Q E h => ?_) (fun cdv A outer s H vs Q E hr h => ?_)
 ·obtain ⟨_,_,_,_,rfl,_⟩:=h
  rfl
 ·obtain ⟨g,B,e,k,rfl,R,ok,he,q⟩:=h
  have hr2 : Room 2 _:=hr.mono (by decide)
  obtain ⟨⟨dx,hen⟩,⟨dy,hod⟩,hrk⟩:=R.en _ e he
  refine ⟨_,zac (zbw (pv 1) (pv 2) zho) (zac (zbw (pv 1) (pv 2) zho)
   (zaf (zaJ (zao za3 (zal (pv 1) rfl) zah (zat _)) (zaf (zaG (zaK (pv 0) C.clB F.mTakeOut G1 hr2 b1 .nil zaq (zaa (pv 1) zag))))
    (zaf (zaJ (zao za3 (zal (pv 1) rfl) zah (zat _)) (zaf (zaG (zaK (pv 0) C.clB F.mPutAnew G2 hr b2 .nil zaq (zaa (pv 1) zag)))) zau))))),?_⟩
  refine ⟨_,rfl,e.ea,c.E,dx,_,_,rfl,hen,C.clE,C.e2,rfl,_,rfl,_,_,rfl,rfl,dx,_,hen,(by show 4 < 1000; decide),?_⟩
  refine ⟨_,rfl,e.ea,c.E,dx,_,_,rfl,zab,C.clE,C.e3,rfl,_,rfl,_,_,rfl,rfl,dx,_,zab,(by show 4 < 1000; decide),?_⟩
  rw [zaR]
  have R1 : Rep c (upd H e.ea (.ins c.E dx (entF e.oa (e.left - k) (e.shown - k) (.ref e.ra)))) g (B.mod e (e.left - k) (e.shown - k)):=zdx R ok he hen
  have ok1:=ok.mod e (e.left - k) (e.shown - k)
  have he1:=zaQ he (e.left - k) (e.shown - k)
  obtain ⟨dxb,hb1⟩:=id R1.ob
  obtain ⟨kvs,hkv1,_⟩:=id R1.de
  have hl1:=R1.ls
  have hen1 : upd H e.ea (.ins c.E dx (entF e.oa (e.left - k) (e.shown - k) (.ref e.ra))) e.ea = some (.ins c.E dx (entF e.oa (e.left - k) (e.shown - k) (.ref e.ra))):=zab
  have old : ∀ x o,H x = some o → ¬ Foot g B x → upd H e.ea (.ins c.E dx (entF e.oa (e.left - k) (e.shown - k) (.ref e.ra))) x = some o:=fun x o hx nf => by
   rw [zad fun z => nf (.inr (.inr (.inr (.inr (.inr ⟨_,e,he,z⟩)))))]
   exact hx
  refine (rX rfl (rA e.ea c.E dx rfl zab C.clE C.e2 rfl ⟨rfl,rX rfl ?_⟩))
  by_cases h0 : e.left - k = 0
  ·have dd : decide (V.int (e.left - k) = V.int 0) = true:=by simp [h0]
   refine zaD dd (rX rfl (rM g.b dxb rfl hb1 rfl (rX rfl ⟨g,_,e.as (e.left - k) (e.shown - k),rfl,R1,ok1,he1,fun H2 R2 f2 => ?_⟩)))
   refine q 0 H2 (by unfold Bk.less; rw [if_pos h0]; exact R2) ⟨dx,_,_,_,(f2 e.ea (zan 1 5 hen1 (hl1 _)) (zan 1 6 hen1 hkv1)).trans hen1⟩ fun x o hx nf => ?_
   rw [f2 x (fun z => nf (by rw [z]; exact zb9 g B _)) (fun z => nf (.inr (.inr (.inr (.inr (.inl z))))))]
   exact old x o hx nf
  ·have dd : decide (V.int (e.left - k) = V.int 0) = false:=by simp [h0]
   refine zar dd (rX rfl (rA e.ea c.E dx rfl zab C.clE C.e3 rfl ⟨rfl,rX rfl ?_⟩))
   by_cases h1 : e.shown - k = 0
   ·have dd1 : decide (V.int (e.shown - k) = V.int 0) = true:=by simp [h1]
    refine zaD dd1 (rX rfl (rM g.b dxb rfl hb1 rfl (rX rfl ⟨g,_,e.as (e.left - k) (e.shown - k),rfl,R1,ok1,he1,fun r H2 R2 f2 => ?_⟩)))
    obtain ⟨dz,hz⟩:=(R2.en _ _ (zdI _ (e.as (e.left - k) (e.shown - k)) r)).en
    refine q r H2 (by unfold Bk.less; rw [if_neg h0,if_pos h1]; exact R2) ⟨dz,_,_,_,hz⟩ fun x o hx nf => ?_
    exact f2 x o (old x o hx nf) fun z => nf (zbq z)
   ·have dd1 : decide (V.int (e.shown - k) = V.int 0) = false:=by simp [h1]
    refine zar dd1 ?_
    exact q 0 _ (by unfold Bk.less; rw [if_neg h0,if_neg h1]; exact R1) ⟨dx,_,_,_,hen1⟩ old
noncomputable def mn (l s : Int) : Int:=if s < l then s else l
noncomputable def Bk.noted (B : Bk) (p k : Int) : Bk:={ B with last:=some p,vol:=B.vol + k }
theorem scMe : FnScope ["book","coming","other","many"] ["book","coming","other"] (zak sMeet):=fsc
noncomputable def spMeet (c : Cs) : Sp:=fun vs H Q _ => ∃ (g : Ga) (B : Bk) (ca dxc oc dyc : Addr) (left sh : Int) (rk : V) (ow : Int) (sd : Str) (pr : Option Int) (many : Int) (shows : Option Int) (way : Str) (num : V) (e : Ent),vs = [.ref g.b,.ref ca,.ref e.ea] ∧ Rep c H g B ∧ B.Ok ∧ e ∈ B.at e.buy ∧
 H ca = some (.ins c.E dxc (entF oc left sh rk)) ∧ H oc = some (.ins c.O dyc (ordF ow sd pr many shows way num)) ∧ ¬ Foot g B ca ∧
 (e.owner = ow → ∀ t H',Rep c H' g (B.out e) → H' t = some (.tup [.str "out",.int e.num]) → (∀ x o,H x = some o → ¬ Foot g B x → H' x = some o) → Q (.ref t) H') ∧
 (e.owner ≠ ow → ∀ t r H',Rep c H' g ((B.less e (mn left e.shown) r).noted e.price (mn left e.shown)) → H' ca = some (.ins c.E dxc (entF oc (left - mn left e.shown) sh rk)) →
  H' t = some (.tup [.str "trade",.int e.num,.int e.price,.int (mn left e.shown)]) → (∀ x o,H x = some o → ¬ Foot g B x → x ≠ ca → H' x = some o) → Q (.ref t) H')
theorem kMeet (C : CTxt K mg c) (F : FTxt K mg a c) (M : MTxt K mg m) : Kp P w K mg base 5 m.meet ["book","coming","other"] (spMeet c):=M.meet.kp fun fd G => by
 obtain ⟨fd1,G1,b1,k1⟩:=zcN (P:=P) (w:=w) (base:=base) C F
 obtain ⟨fd2,G2,b2,k2⟩:=kLessen (P:=P) (w:=w) (base:=base) C F M
 obtain ⟨fd3,G3,b3,k3⟩:=zjo (P:=P) (w:=w) (base:=base) C F
 refine G.okN scMe (fun vs H Q E h => ?_) (fun cdv A outer s H vs Q E hr h => ?_)
 ·obtain ⟨_,_,_,_,_,_,_,_,_,_,_,_,_,_,_,_,_,rfl,_⟩:=h
  rfl
 ·obtain ⟨g,B,ca,dxc,oc,dyc,left,sh,rk,ow,sd,pr,many,shows,way,num,e,rfl,R,ok,he,hca,hoc,nfc,q1,q2⟩:=h
  have hr1 : Room 1 _:=hr.mono (by decide)
  have hr2 : Room 2 _:=hr.mono (by decide)
  obtain ⟨dxb,hb⟩:=id R.ob
  obtain ⟨⟨dx,hen⟩,⟨dy,hod⟩,hrk⟩:=R.en _ e he
  obtain ⟨kvs,hkv,_⟩:=id R.de
  refine ⟨_,zac (zaJ (zao za3 (zal (zal (pv 2) rfl) rfl) (zal (zal (pv 1) rfl) rfl) (zat _))
    (zac (zaG (zaK (pv 0) C.clB F.mTakeOut G1 hr2 b1 .nil zaq (zaa (pv 2) zag))) (zaf (zaw (zby (zaa zam (zaa (zal (zal (pv 2) rfl) rfl) zag)))))) zau)
   (zac (zap (i:=3) scMe.nd rfl (Or.inl rfl) (zaE (zcU rfl) (by rfl) C.min (by decide +kernel) (zaa (zal (pv 1) rfl) (zaa (zal (pv 2) rfl) zag))))
   (zac (zbw (pv 1) (pv 3) zho)
   (zac (zaG (zas G2 hr rfl M.gLessen k2 b2 .nil zaq (zaa (pv 0) (zaa (pv 2) (zaa (pv 3) zag)))))
   (zac (zaG (zaK (pv 0) C.clB F.mRecord G3 hr1 b3 .nil zaq (zaa (zal (zal (pv 2) rfl) rfl) (zaa (pv 3) zag))))
   (zaf (zaw (zby (zaa zam (zaa (zal (zal (pv 2) rfl) rfl) (zaa (zal (zal (pv 2) rfl) rfl) (zaa (pv 3) zag))))))))))),?_⟩
  have two : ∀ x y : V,([x,y] : List V).length ≤ sizeLine:=fun x y => by rw [sizeLine_eq]; show 2 ≤ 16777216; decide
  have four : ∀ x y z u : V,([x,y,z,u] : List V).length ≤ sizeLine:=fun x y z u => by rw [sizeLine_eq]; show 4 ≤ 16777216; decide
  refine (rX rfl (rA e.ea c.E dx rfl hen C.clE C.e1 rfl (rA e.oa c.O dy rfl hod C.clO C.o1 rfl (rX rfl (rA ca c.E dxc rfl hca C.clE C.e1 rfl (rA oc c.O dyc rfl hoc C.clO C.o1 rfl ⟨rfl,rX rfl ?_⟩))))))
  by_cases how : e.owner = ow
  ·have dd : decide (V.int e.owner = V.int ow) = true:=by simp [how]
   refine zaD dd (rX rfl (rM g.b dxb rfl hb rfl (rX rfl ⟨g,B,e,rfl,R,ok,he,fun H1 R1 f1 => ?_⟩)))
   have e1 : H1 e.ea = _:=(f1 e.ea (zan 1 5 hen (R.ls _)) (zan 1 6 hen hkv)).trans hen
   have o1 : H1 e.oa = _:=(f1 e.oa (zan 2 5 hod (R.ls _)) (zan 2 6 hod hkv)).trans hod
   refine (rX rfl (rA e.ea c.E dx rfl e1 C.clE C.e1 rfl (rA e.oa c.O dy rfl o1 C.clO C.o7 rfl ⟨two _ _,fun t ht => ?_⟩)))
   refine q1 how t _ (Same.rep (zai ht) R1) zab fun x o hx nf => zai ht _ _ ?_
   rw [f1 x (fun z => nf (by rw [z]; exact zb9 g B _)) (fun z => nf (.inr (.inr (.inr (.inr (.inl z))))))]
   exact hx
  ·have dd : decide (V.int e.owner = V.int ow) = false:=by simp [how]
   refine zar dd (rX rfl (rA ca c.E dxc rfl hca C.clE C.e2 rfl (rX rfl (rA e.ea c.E dx rfl hen C.clE C.e3 rfl ⟨left,e.shown,rfl,?_⟩))))
   show tSeq _ _ _ (_ :: _ :: _ :: some (V.int (mn left e.shown)) :: _) _
   refine ⟨_,rfl,ca,c.E,dxc,_,_,rfl,hca,C.clE,C.e2,rfl,_,rfl,_,_,rfl,rfl,dxc,_,hca,(by show 4 < 1000; decide),?_⟩
   have nce : ca ≠ e.ea:=fun z => nfc (.inr (.inr (.inr (.inr (.inr ⟨_,e,he,z⟩)))))
   have R1 : Rep c (upd H ca (.ins c.E dxc (entF oc (left - mn left e.shown) sh rk))) g B:=zhH R hca rfl nfc
   have f1 : ∀ x o,H x = some o → x ≠ ca → upd H ca (.ins c.E dxc (entF oc (left - mn left e.shown) sh rk)) x = some o:=fun x o hx n => by
    rw [zad n]
    exact hx
   refine (rX rfl (rX rfl (rX rfl ⟨g,B,e,mn left e.shown,rfl,R1,ok,he,fun r H2 R2 ⟨dx2,l2,s2,rk2,e2⟩ f2 => ?_⟩)))
   have o2 : H2 e.oa = _:=f2 e.oa _ (f1 e.oa _ hod (zan 2 1 hod hca)) (zdY R 2 hod)
   have c2 : H2 ca = _:=f2 ca _ zab nfc
   obtain ⟨dxb2,hb2⟩:=id R2.ob
   refine (rX rfl (rM g.b dxb2 rfl hb2 rfl (rX rfl (rA e.ea c.E dx2 rfl e2 C.clE C.e1 rfl (rA e.oa c.O dy rfl o2 C.clO C.o3 rfl (rX rfl ⟨g,_,e.price,mn left e.shown,rfl,R2,fun H3 R3 f3 => ?_⟩))))))
   have e3 : H3 e.ea = _:=(f3 e.ea (zan 1 3 e2 hb2)).trans e2
   have o3 : H3 e.oa = _:=(f3 e.oa (zan 2 3 o2 hb2)).trans o2
   have c3 : H3 ca = _:=(f3 ca (zan 1 3 c2 hb2)).trans c2
   refine (rX rfl (rA e.ea c.E dx2 rfl e3 C.clE C.e1 rfl (rA e.oa c.O dy rfl o3 C.clO C.o7 rfl (rX rfl (rA e.ea c.E dx2 rfl e3 C.clE C.e1 rfl (rA e.oa c.O dy rfl o3 C.clO C.o3 rfl (rX rfl ⟨four _ _ _ _,fun t ht => ?_⟩)))))))
   refine q2 how t r _ (Same.rep (zai ht) R3) (zai ht _ _ c3) zab fun x o hx nf nc => zai ht _ _ ?_
   have h2:=f2 x o (f1 x o hx nc) nf
   rw [f3 x fun z => nf (.inl z)]
   exact h2
end
end Fb
namespace Fb
open PySem L2
structure Bk.Pos (B : Bk) : Prop where
 ps : ∀ b,∀ e ∈ B.at b,1 ≤ e.shown ∧ e.shown ≤ e.left ∧ e.left ≤ 10000 ∧ 1 ≤ e.price ∧ e.price ≤ 1000000000 ∧ ∀ k,e.shows = some k → 1 ≤ k
theorem zd7 {shows : Option Int} {left : Int} (h : 1 ≤ left) (hs : ∀ k,shows = some k → 1 ≤ k) : 1 ≤ zaS shows left ∧ zaS shows left ≤ left:=by
 unfold zaS
 cases shows with
 | none => exact ⟨h,Int.le_refl _⟩
 | some k =>
  have:=hs k rfl
  show 1 ≤ (if left < k then left else k) ∧ (if left < k then left else k) ≤ left
  split <;> omega
theorem Bk.Pos.sub {B : Bk} (p : B.Pos) {b : Bool} {xs : List Ent} (h : xs.Sublist (B.at b)) : (B.set b xs).Pos:=⟨fun b' x hx => by
 rcases zeU hx with ⟨hb,hx'⟩ | ⟨_,hx'⟩
 ·subst hb
  exact p.ps _ x (h.subset hx')
 ·exact p.ps _ x hx'⟩
theorem Bk.Pos.out {B : Bk} (p : B.Pos) (e : Ent) : (B.out e).Pos:=p.sub (zeE e _)
theorem Bk.Pos.put {B : Bk} (p : B.Pos) {e : Ent} (r : Addr) (h1 : 1 ≤ e.left) (h2 : e.left ≤ 10000) (h3 : 1 ≤ e.price) (h4 : e.price ≤ 1000000000) (h5 : ∀ k,e.shows = some k → 1 ≤ k) : (B.put e r).Pos:=⟨fun b x hx => by
 rcases zbd hx with ⟨_,q⟩ | hx
 ·subst q
  obtain ⟨z1,z2⟩:=zd7 h1 h5
  exact ⟨z1,z2,h2,h3,h4,h5⟩
 ·exact p.ps b x hx⟩
theorem Bk.Pos.mod {B : Bk} (p : B.Pos) (e : Ent) {l s : Int} (h1 : 1 ≤ s) (h2 : s ≤ l) (h3 : l ≤ 10000) : (B.mod e l s).Pos:=⟨fun b y hy => by
 obtain ⟨x,hx,q⟩:=zb7 hy
 have:=p.ps b x hx
 rw [q]
 split
 ·exact ⟨h1,h2,h3,this.2.2.2⟩
 ·exact this⟩
theorem zbj {B : Bk} (ok : B.Ok) {e : Ent} (he : e ∈ B.at e.buy) (l s : Int) {b : Bool} {x : Ent} (h : x ∈ ((B.mod e l s).out (e.as l s)).at b) : x ∈ B.at b ∧ x.num ≠ e.num:=by
 have hm:=zaQ he l s
 have hn : x.num ≠ e.num:=zdE (ok.mod e l s) hm h
 obtain ⟨h1,_⟩:=zcv ((ok.mod e l s).so _) hm h
 obtain ⟨y,hy,q⟩:=zb7 h1
 have f:=(zeT b e y l s).2.1
 rw [if_neg fun z => hn (by rw [q,f]; exact z.2)] at q
 rw [q]
 rw [q] at hn
 exact ⟨hy,hn⟩
theorem Bk.Pos.less {B : Bk} (p : B.Pos) (ok : B.Ok) {e : Ent} (he : e ∈ B.at e.buy) {k : Int} (h1 : 1 ≤ k) (h2 : k ≤ e.shown) (r : Addr) : (B.less e k r).Pos:=by
 have pe:=p.ps _ e he
 unfold Bk.less
 split
 ·exact ⟨fun b x hx => p.ps b x (zbj ok he _ _ hx).1⟩
 ·split
  ·refine Bk.Pos.put ⟨fun b x hx => p.ps b x (zbj ok he _ _ hx).1⟩ r ?_ ?_ pe.2.2.2.1 pe.2.2.2.2.1 pe.2.2.2.2.2
   ·show 1 ≤ e.left - k
    omega
   ·show e.left - k ≤ 10000
    omega
  ·exact p.mod e (by omega) (by omega) (by omega)
theorem Bk.Ok.less {B : Bk} (ok : B.Ok) {e : Ent} (he : e ∈ B.at e.buy) (k : Int) (r : Addr) : (B.less e k r).Ok:=by
 have hm:=zaQ he (e.left - k) (e.shown - k)
 have ok1:=ok.mod e (e.left - k) (e.shown - k)
 unfold Bk.less
 split
 ·exact ok1.out _
 ·split
  ·obtain ⟨q1,_⟩:=zaT (B.mod e (e.left - k) (e.shown - k)) e.buy (remE (e.as (e.left - k) (e.shown - k)) ((B.mod e (e.left - k) (e.shown - k)).at e.buy))
   obtain ⟨q2,_⟩:=zaT B e.buy (modE e.num (e.left - k) (e.shown - k) (B.at e.buy))
   have hc : ((B.mod e (e.left - k) (e.shown - k)).out (e.as (e.left - k) (e.shown - k))).came = B.came:=q1.trans q2
   have hlt:=ok.lt _ e he
   refine (ok1.out _).put r hlt.1 ?_ (fun b x hx => zdE ok1 hm hx) ?_
   ·rw [hc]
    exact hlt.2
   ·rw [hc]
    have h1 : ((B.mod e (e.left - k) (e.shown - k)).out (e.as (e.left - k) (e.shown - k))).buys.length + ((B.mod e (e.left - k) (e.shown - k)).out (e.as (e.left - k) (e.shown - k))).sells.length + 1 = B.buys.length + B.sells.length:=by
     have z1:=zbN (B.mod e (e.left - k) (e.shown - k)) e.buy (remE (e.as (e.left - k) (e.shown - k)) ((B.mod e (e.left - k) (e.shown - k)).at e.buy))
     have z2 : (remE (e.as (e.left - k) (e.shown - k)) ((B.mod e (e.left - k) (e.shown - k)).at e.buy)).length + 1 = ((B.mod e (e.left - k) (e.shown - k)).at e.buy).length:=zeF (ok1.so _) hm
     have z3:=zcb (B.mod e (e.left - k) (e.shown - k)) e.buy
     have z4:=zbN B e.buy (modE e.num (e.left - k) (e.shown - k) (B.at e.buy))
     have z5:=zcb B e.buy
     rw [zdk] at z4
     have z6 : (B.mod e (e.left - k) (e.shown - k)).buys.length + (B.mod e (e.left - k) (e.shown - k)).sells.length = (B.at e.buy).length + (B.at (!e.buy)).length:=z4
     have z7 : ((B.mod e (e.left - k) (e.shown - k)).out (e.as (e.left - k) (e.shown - k))).buys.length + ((B.mod e (e.left - k) (e.shown - k)).out (e.as (e.left - k) (e.shown - k))).sells.length = (remE (e.as (e.left - k) (e.shown - k)) ((B.mod e (e.left - k) (e.shown - k)).at e.buy)).length + ((B.mod e (e.left - k) (e.shown - k)).at (!e.buy)).length:=z1
     omega
    have h2:=ok.ct
    omega
  ·exact ok1
theorem zjj {B : Bk} (ok : B.Ok) {e : Ent} {r : List Ent} {b : Bool} (h : B.at b = e :: r) (hb : e.buy = b) (k : Int) (x : Addr) : (B.less e k x).at b = if e.left - k = 0 then r else if e.shown - k = 0 then insE { e.as (e.left - k) (zaS e.shows (e.left - k)) with ra:=x,place:=B.places } r else e.as (e.left - k) (e.shown - k) :: r:=by
 subst hb
 have hn:=ok.nd e.buy
 rw [h] at hn
 have hm : (B.mod e (e.left - k) (e.shown - k)).at e.buy = e.as (e.left - k) (e.shown - k) :: r:=by
  unfold Bk.mod
  rw [zaH,h,zfC _ _ hn]
 have ho : ((B.mod e (e.left - k) (e.shown - k)).out (e.as (e.left - k) (e.shown - k))).at e.buy = r:=by
  show (Bk.set _ e.buy (remE (e.as (e.left - k) (e.shown - k)) ((B.mod e (e.left - k) (e.shown - k)).at e.buy))).at e.buy = r
  rw [zaH,hm]
  unfold remE
  rw [if_neg (Ent.lt_irr _)]
 unfold Bk.less
 split
 ·exact ho
 ·split
  ·have hp:=za6 ((B.mod e (e.left - k) (e.shown - k)).out (e.as (e.left - k) (e.shown - k))) (e.as (e.left - k) (e.shown - k)) x
   have hpl : ((B.mod e (e.left - k) (e.shown - k)).out (e.as (e.left - k) (e.shown - k))).places = B.places:=by
    obtain ⟨_,q1,_⟩:=zaT (B.mod e (e.left - k) (e.shown - k)) e.buy (remE (e.as (e.left - k) (e.shown - k)) ((B.mod e (e.left - k) (e.shown - k)).at e.buy))
    obtain ⟨_,q2,_⟩:=zaT B e.buy (modE e.num (e.left - k) (e.shown - k) (B.at e.buy))
    exact q1.trans q2
   have hp' : (((B.mod e (e.left - k) (e.shown - k)).out (e.as (e.left - k) (e.shown - k))).put (e.as (e.left - k) (e.shown - k)) x).at e.buy = insE { e.as (e.left - k) (e.shown - k) with ra:=x,place:=((B.mod e (e.left - k) (e.shown - k)).out (e.as (e.left - k) (e.shown - k))).places,shown:=zaS e.shows (e.left - k) } (((B.mod e (e.left - k) (e.shown - k)).out (e.as (e.left - k) (e.shown - k))).at e.buy):=hp
   rw [hp',ho,hpl]
   rfl
  ·exact hm
theorem zhN {B : Bk} {e : Ent} (k : Int) (x : Addr) : (B.less e k x).at (!e.buy) = B.at (!e.buy):=by
 have hm : (B.mod e (e.left - k) (e.shown - k)).at (!e.buy) = B.at (!e.buy):=zaz _ _ _
 have ho : ((B.mod e (e.left - k) (e.shown - k)).out (e.as (e.left - k) (e.shown - k))).at (!e.buy) = B.at (!e.buy):=(zaz _ _ _).trans hm
 unfold Bk.less
 split
 ·exact ho
 ·split
  ·exact (za9 ((B.mod e (e.left - k) (e.shown - k)).out (e.as (e.left - k) (e.shown - k))) (e.as (e.left - k) (e.shown - k)) x).trans ho
  ·exact hm
theorem ziV {B : Bk} {e : Ent} {r : List Ent} {b : Bool} (h : B.at b = e :: r) (hb : e.buy = b) : (B.out e).at b = r:=by
 subst hb
 unfold Bk.out
 rw [zaH,h]
 unfold remE
 rw [if_neg (Ent.lt_irr _)]
theorem zhh {B : Bk} (ok : B.Ok) {e : Ent} {r : List Ent} {b : Bool} (h : B.at b = e :: r) (hb : e.buy = b) (k : Int) (x : Addr) : ((B.less e k x).at b).length ≤ (B.at b).length:=by
 rw [zjj ok h hb,h]
 split
 ·exact Nat.le_succ _
 ·split
  ·rw [zeX]
   exact Nat.le_refl _
  ·exact Nat.le_refl _
inductive Ev where
 | out (n : Int)
 | trade (n p k : Int)
noncomputable def Ev.vals : Ev → List V
 | .out n => [.str "out",.int n]
 | .trade n p k => [.str "trade",.int n,.int p,.int k]
noncomputable def zgf (H : Hp) : List V → List Ev → Prop:=Paired fun v ev => ∃ t,v = .ref t ∧ H t = some (.tup ev.vals)
theorem Paired.snoc {α β : Type} {F : α → β → Prop} {x : α} {y : β} (h : F x y) : ∀ {xs : List α} {ys : List β},Paired F xs ys → Paired F (xs ++ [x]) (ys ++ [y])
 | _,_,.nil => .cons h .nil
 | _,_,.cons a r => .cons a (Paired.snoc h r)
theorem Paired.len {α β : Type} {F : α → β → Prop} : ∀ {xs : List α} {ys : List β},Paired F xs ys → xs.length = ys.length
 | _,_,.nil => rfl
 | _,_,.cons _ r => by rw [List.length_cons,List.length_cons,Paired.len r]
inductive MetP (ow : Int) (b : Bool) (pr : Option Int) : Bk → Int → List Ev → Bk → Int → Prop
 | nil (B : Bk) (l : Int) : MetP ow b pr B l [] B l
 | out {B : Bk} {l : Int} {evs : List Ev} {B1 : Bk} {l1 : Int} {e : Ent} {r : List Ent} : MetP ow b pr B l evs B1 l1 → B1.at (!b) = e :: r → l1 ≠ 0 → za0 e.price (zav b) pr = true → e.owner = ow → MetP ow b pr B l (evs ++ [.out e.num]) (B1.out e) l1
 | trade {B : Bk} {l : Int} {evs : List Ev} {B1 : Bk} {l1 : Int} {e : Ent} {r : List Ent} (k : Addr) : MetP ow b pr B l evs B1 l1 → B1.at (!b) = e :: r → l1 ≠ 0 → za0 e.price (zav b) pr = true → e.owner ≠ ow →
   MetP ow b pr B l (evs ++ [.trade e.num e.price (mn l1 e.shown)]) ((B1.less e (mn l1 e.shown) k).noted e.price (mn l1 e.shown)) (l1 - mn l1 e.shown)
section
variable {P : Program} {w : World} {K : W.Frag} {mg : Str → Option Value} {base : Heap} {bo nt nn be sides ways : Addr} {c : Cs} {a : Ads} {d : Pds} {m : Mds}
theorem zeC {H : Hp} {g : Ga} {B : Bk} {l : Addr} {xs : List V} {v : HO} (R : Rep c H g B) (h : H l = some (.lst xs)) (nf : ¬ Foot g B l) : Rep c (upd H l v) g B:=by
 obtain ⟨⟨d1,h1⟩,⟨d2,h2⟩,h3,h4,h5,h6,⟨kvs,h7,h8⟩,h9⟩:=R
 have k : ∀ {x : Addr} {u' : HO} (i : Nat),H x = some u' → kd u' = i → i ≠ 5 → upd H l v x = some u':=fun {x u'} i hx hi n => by
  rw [zad (zan i 5 hx h hi rfl n)]
  exact hx
 refine ⟨⟨d1,k 3 h1 rfl (by decide)⟩,⟨d2,k 4 h2 rfl (by decide)⟩,k 6 h3 rfl (by decide),fun b => ?_,h5,h6,⟨kvs,k 6 h7 rfl (by decide),h8⟩,fun b e he => ?_⟩
 ·rw [zad fun z => nf (by rw [← z]; exact zb9 g B b)]
  exact h4 b
 ·obtain ⟨⟨dx,en⟩,⟨dy,od⟩,rk⟩:=h9 b e he
  exact ⟨⟨dx,k 1 en rfl (by decide)⟩,⟨dy,k 2 od rfl (by decide)⟩,k 7 rk rfl (by decide)⟩
theorem ziI {B : Bk} (ok : B.Ok) (p k : Int) : (B.noted p k).Ok:=⟨ok.so,ok.sd,ok.nd,ok.nx,ok.lt,ok.pl,ok.ct,ok.cm⟩
theorem zgu {B : Bk} (ok : B.Pos) (p k : Int) : (B.noted p k).Pos:=⟨ok.ps⟩
theorem scMB : FnScope ["book","coming","happened","other"] ["book","coming"] (zak zeu):=fsc
noncomputable def zin (c : Cs) : Sp:=fun vs H Q _ => ∃ (g : Ga) (B : Bk) (ca dxc oc dyc : Addr) (left sh : Int) (rk : V) (ow : Int) (b : Bool) (pr : Option Int) (many : Int) (shows : Option Int) (way : Str) (num : V),vs = [.ref g.b,.ref ca] ∧ Rep c H g B ∧ B.Ok ∧ B.Pos ∧ 0 ≤ left ∧ left ≤ 10000 ∧
 H ca = some (.ins c.E dxc (entF oc left sh rk)) ∧ H oc = some (.ins c.O dyc (ordF ow (zav b) pr many shows way num)) ∧ ¬ Foot g B ca ∧
 ∀ (evs : List Ev) (B' : Bk) (l' : Int) (lst : Addr) (ts : List V) (H' : Hp),MetP ow b pr B left evs B' l' → zbJ (B'.at (!b)) l' b pr = .non → Rep c H' g B' → B'.Ok → B'.Pos → 0 ≤ l' → l' ≤ left → H' ca = some (.ins c.E dxc (entF oc l' sh rk)) → H' lst = some (.lst ts) → zgf H' ts evs → evs.length ≤ 11000 →
  (∀ x o,H x = some o → ¬ Foot g B x → x ≠ ca → H' x = some o) → (∀ x,Foot g B' x → Foot g B x) → H lst = none → Q (.ref lst) H'
theorem kMeetAll (C : CTxt K mg c) (F : FTxt K mg a c) (D : PTxt K mg d) (M : MTxt K mg m) : Kp P w K mg base 6 d.meetAll ["book","coming"] (zin c):=D.meetAll.kp fun fd G => by
 obtain ⟨fd1,G1,b1,k1⟩:=kNext (P:=P) (w:=w) (base:=base) C F D
 obtain ⟨fd2,G2,b2,k2⟩:=kMeet (P:=P) (w:=w) (base:=base) C F M
 refine G.okN scMB (fun vs H Q E h => ?_) (fun cdv A outer s H vs Q E hr h => ?_)
 ·obtain ⟨_,_,_,_,_,_,_,_,_,_,_,_,_,_,_,_,rfl,_⟩:=h
  rfl
 ·obtain ⟨g,B,ca,dxc,oc,dyc,left,sh,rk,ow,b,pr,many,shows,way,num,rfl,R,ok,ps,hl0,hl1,hca,hoc,nfc,q⟩:=h
  have hr2 : Room 2 _:=hr.mono (by decide)
  refine ⟨_,zac (zap (i:=2) scMB.nd rfl (Or.inl rfl) (zbg zag))
   (zac (zap (i:=3) scMB.nd rfl (Or.inl rfl) (zas G1 hr2 rfl D.gNext k1 b1 .nil zaq (zaa (pv 0) (zaa (pv 1) zag))))
   (zac (zeJ PassesOwn.never (zbB (zdD (pv 3)))
    (zac (zaG (zgx PySem.F.plainAttrs_list PySem.F.slot_list_append PySem.F.type_list_append zdG (pv 2) (zaa (zas G2 hr rfl M.gMeet k2 b2 .nil zaq (zaa (pv 0) (zaa (pv 1) (zaa (pv 3) zag)))) zag)))
     (zaf (zap (i:=3) scMB.nd rfl (Or.inl rfl) (zas G1 hr2 rfl D.gNext k1 b1 .nil zaq (zaa (pv 0) (zaa (pv 1) zag)))))))
   (zaf (zaw (pv 2))))),?_⟩
  refine ⟨(by rw [sizeLine_eq]; show 0 ≤ 16777216; decide),fun l hl => ?_⟩
  have s1 : Same H (upd H l (.lst [])):=zai hl
  refine (rX rfl (rX rfl ⟨g,B,ca,dxc,oc,dyc,left,sh,rk,ow,b,pr,many,shows,way,num,rfl,Same.rep s1 R,s1 _ _ hca,s1 _ _ hoc,?_⟩))
  have nfl : ¬ Foot g B l:=fun f => by
   obtain ⟨u,hu⟩:=zbl R f
   rw [hl] at hu
   cases hu
  have nlc : l ≠ ca:=(zae hca hl).symm
  have lenB : (B.at (!b)).length ≤ 500:=by
   have z1:=zda B (!b)
   have z2:=ok.ct
   have z3:=ok.cm
   omega
  refine ⟨fun μ σ H' => ∃ (evs : List Ev) (B1 : Bk) (l1 : Int) (ts : List V),σ = [some (.ref g.b),some (.ref ca),some (.ref l),some (zbJ (B1.at (!b)) l1 b pr)] ∧ MetP ow b pr B left evs B1 l1 ∧ Rep c H' g B1 ∧ B1.Ok ∧ B1.Pos ∧ 0 ≤ l1 ∧ l1 ≤ left ∧
    H' ca = some (.ins c.E dxc (entF oc l1 sh rk)) ∧ H' l = some (.lst ts) ∧ zgf H' ts evs ∧ (∀ x o,H x = some o → ¬ Foot g B x → x ≠ ca → H' x = some o) ∧ (∀ x,Foot g B1 x → Foot g B x) ∧ μ = l1.toNat + (B1.at (!b)).length ∧ evs.length + μ ≤ left.toNat + (B.at (!b)).length,
   ⟨_,[],B,left,[],rfl,.nil _ _,Same.rep s1 R,ok,ps,hl0,Int.le_refl _,s1 _ _ hca,zab,.nil,fun x o hx _ _ => s1 x o hx,fun _ f => f,rfl,by simp⟩,?_⟩
  rintro μ σ H' ⟨evs,B1,l1,ts,rfl,met,R1,ok1,ps1,hz0,hz1,c1,ll1,ev1,f1,ft1,rfl,hμ⟩
  refine (rX rfl (rX rfl ?_))
  cases hx : B1.at (!b) with
  | nil =>
   have hnx : zbJ (B1.at (!b)) l1 b pr = .non:=by rw [hx]; rfl
   refine zar (by show (!decide (zbJ [] l1 b pr = V.non)) = false; rfl) (rX rfl ?_)
   exact q evs B1 l1 l ts H' met hnx R1 ok1 ps1 hz0 hz1 c1 ll1 ev1 (by omega) f1 ft1 hl
  | cons e r =>
   by_cases hgo : l1 ≠ 0 ∧ za0 e.price (zav b) pr = true
   ·obtain ⟨hl1',hsu⟩:=hgo
    have hnx : zbJ (e :: r) l1 b pr = .ref e.ea:=by simp [zbJ,hl1',hsu]
    refine zaD (by rw [hnx]; rfl) ?_
    refine ⟨fun σ2 H2 => ∃ μ',μ' < l1.toNat + (B1.at (!b)).length ∧ ∃ (evs : List Ev) (B1 : Bk) (l1 : Int) (ts : List V),σ2 = [some (.ref g.b),some (.ref ca),some (.ref l),some (zbJ (B1.at (!b)) l1 b pr)] ∧ MetP ow b pr B left evs B1 l1 ∧ Rep c H2 g B1 ∧ B1.Ok ∧ B1.Pos ∧ 0 ≤ l1 ∧ l1 ≤ left ∧
     H2 ca = some (.ins c.E dxc (entF oc l1 sh rk)) ∧ H2 l = some (.lst ts) ∧ zgf H2 ts evs ∧ (∀ x o,H x = some o → ¬ Foot g B x → x ≠ ca → H2 x = some o) ∧ (∀ x,Foot g B1 x → Foot g B x) ∧ μ' = l1.toNat + (B1.at (!b)).length ∧ evs.length + μ' ≤ left.toNat + (B.at (!b)).length,fun σ2 H2 h => by rw [← hx]; exact h,?_⟩
    have hbb : e.buy = !b:=ok1.sd (!b) e (by rw [hx]; exact List.mem_cons_self)
    have hme : e ∈ B1.at e.buy:=by rw [hbb,hx]; exact List.mem_cons_self
    have pe:=ps1.ps _ e hme
    have nfc1 : ¬ Foot g B1 ca:=fun f => nfc (ft1 _ f)
    have nfl1 : ¬ Foot g B1 l:=fun f => nfl (ft1 _ f)
    have oc1 : H' oc = _:=f1 oc _ hoc (zdY R 2 hoc) (zan 2 1 hoc hca)
    have hlts : ts.length < sizeLine:=by
     have:=Paired.len ev1
     rw [sizeLine_eq]
     omega
    refine (rX rfl ⟨.inl ⟨rfl,_,SqL.of ll1⟩,rX rfl (rX rfl (rX rfl ?_))⟩)
    rw [hnx]
    refine ⟨g,B1,ca,dxc,oc,dyc,l1,sh,rk,ow,zav b,pr,many,shows,way,num,e,rfl,R1,ok1,hme,c1,oc1,nfc1,fun how t H2 R2 t2 f2 => ?_,fun how t kk H2 R2 c2 t2 f2 => ?_⟩
    ·have l2:=f2 l _ ll1 nfl1
     have c2:=f2 ca _ c1 nfc1
     have o2:=f2 oc _ oc1 (zdY R1 2 oc1)
     refine ⟨l,ts,.ref t,rfl,rfl,l2,hlts,?_⟩
     have ch : ∀ {x : Addr} {u : HO} (i : Nat),H2 x = some u → kd u = i → i ≠ 5 → upd H2 l (.lst (ts ++ [.ref t])) x = some u:=fun {x u} i hx' hk n => by
      rw [zad (zan i 5 hx' l2 hk rfl n)]
      exact hx'
     have R3 : Rep c (upd H2 l (.lst (ts ++ [.ref t]))) g (B1.out e):=zeC R2 l2 fun f => nfl1 (zbD (ok1.so _) hme f)
     refine (rX rfl (rX rfl ⟨g,B1.out e,ca,dxc,oc,dyc,l1,sh,rk,ow,b,pr,many,shows,way,num,rfl,R3,ch 1 c2 rfl (by decide),ch 2 o2 rfl (by decide),?_⟩))
     have ha:=ziV hx hbb
     refine ⟨l1.toNat + ((B1.out e).at (!b)).length,by rw [ha,hx,List.length_cons]; omega,evs ++ [.out e.num],B1.out e,l1,ts ++ [.ref t],rfl,.out met hx hl1' hsu how,R3,ok1.out e,ps1.out e,hz0,hz1,ch 1 c2 rfl (by decide),zab,?_,fun x o hx' nf nc => ?_,fun x f => ft1 x (zbD (ok1.so _) hme f),rfl,?_⟩
     ·refine Paired.snoc ⟨t,rfl,ch 7 t2 rfl (by decide)⟩ (Paired.mapP ev1 fun v ev ⟨t',h1,h2⟩ => ⟨t',h1,ch 7 (f2 t' _ h2 (zdY R1 7 h2)) rfl (by decide)⟩)
     ·rw [zad (zae hx' hl)]
      exact f2 x o (f1 x o hx' nf nc) fun f => nf (ft1 x f)
     ·rw [ha,List.length_append]
      rw [hx,List.length_cons] at hμ
      show evs.length + 1 + _ ≤ _
      omega
    ·have nlc1 : l ≠ ca:=nlc
     have l2:=f2 l _ ll1 nfl1 nlc1
     have o2:=f2 oc _ oc1 (zdY R1 2 oc1) (zan 2 1 oc1 c1)
     have hmn : 1 ≤ mn l1 e.shown ∧ mn l1 e.shown ≤ e.shown ∧ mn l1 e.shown ≤ l1:=by
      unfold mn
      split <;> omega
     refine ⟨l,ts,.ref t,rfl,rfl,l2,hlts,?_⟩
     have ch : ∀ {x : Addr} {u : HO} (i : Nat),H2 x = some u → kd u = i → i ≠ 5 → upd H2 l (.lst (ts ++ [.ref t])) x = some u:=fun {x u} i hx' hk n => by
      rw [zad (zan i 5 hx' l2 hk rfl n)]
      exact hx'
     have ftl : ∀ x,Foot g ((B1.less e (mn l1 e.shown) kk).noted e.price (mn l1 e.shown)) x → Foot g B1 x:=fun x f => zjG (r:=kk) ok1 hme f
     have R3 : Rep c (upd H2 l (.lst (ts ++ [.ref t]))) g ((B1.less e (mn l1 e.shown) kk).noted e.price (mn l1 e.shown)):=zeC R2 l2 fun f => nfl1 (ftl _ f)
     refine (rX rfl (rX rfl ⟨g,_,ca,dxc,oc,dyc,l1 - mn l1 e.shown,sh,rk,ow,b,pr,many,shows,way,num,rfl,R3,ch 1 c2 rfl (by decide),ch 2 o2 rfl (by decide),?_⟩))
     have ha : (((B1.less e (mn l1 e.shown) kk).noted e.price (mn l1 e.shown)).at (!b)).length ≤ (B1.at (!b)).length:=zhh ok1 hx hbb _ _
     refine ⟨(l1 - mn l1 e.shown).toNat + (((B1.less e (mn l1 e.shown) kk).noted e.price (mn l1 e.shown)).at (!b)).length,by omega,evs ++ [.trade e.num e.price (mn l1 e.shown)],_,l1 - mn l1 e.shown,ts ++ [.ref t],rfl,.trade kk met hx hl1' hsu how,R3,ziI (ok1.less hme _ _) _ _,zgu (ps1.less ok1 hme hmn.1 hmn.2.1 _) _ _,by omega,by omega,ch 1 c2 rfl (by decide),zab,?_,fun x o hx' nf nc => ?_,fun x f => ft1 x (ftl x f),rfl,?_⟩
     ·refine Paired.snoc ⟨t,rfl,ch 7 t2 rfl (by decide)⟩ (Paired.mapP ev1 fun v ev ⟨t',h1,h2⟩ => ⟨t',h1,ch 7 (f2 t' _ h2 (zdY R1 7 h2) (zan 7 1 h2 c1)) rfl (by decide)⟩)
     ·rw [zad (zae hx' hl)]
      exact f2 x o (f1 x o hx' nf nc) (fun f => nf (ft1 x f)) nc
     ·rw [List.length_append]
      show evs.length + 1 + _ ≤ _
      omega
   ·have hnx : zbJ (e :: r) l1 b pr = .non:=by
     by_cases h0 : l1 = 0
     ·simp [zbJ,h0]
     ·have : ¬ za0 e.price (zav b) pr = true:=fun z => hgo ⟨h0,z⟩
      simp [zbJ,h0,this]
    refine zar (by rw [hnx]; rfl) (rX rfl ?_)
    exact q evs B1 l1 l ts H' met (by rw [hx]; exact hnx) R1 ok1 ps1 hz0 hz1 c1 ll1 ev1 (by omega) f1 ft1 hl
end
end Fb
namespace Fb
open PySem L2
theorem zjy {c : Bool} {U X : Prop} (x : X) (h : c = true → X → U) : if c = true then U else X:=by
 cases c with
 | true => exact iteT (h rfl x)
 | false => exact iteF x
theorem zgy {A B : Prop} (h : if false = true then A else B) : B:=by
 rw [if_neg Bool.false_ne_true] at h
 exact h
theorem zhg {B : Bk} (ok : B.Ok) {e : Ent} (he : e ∈ B.at e.buy) {k : Int} {r : Addr} {b : Bool} {x : Ent} (h : x ∈ (B.less e k r).at b) : ∃ y ∈ B.at b,y.num = x.num ∧ y.price = x.price ∧ y.owner = x.owner:=by
 unfold Bk.less at h
 split at h
 ·exact ⟨x,(zbj ok he _ _ h).1,rfl,rfl,rfl⟩
 ·split at h
  ·rcases zbd h with ⟨hb,q⟩ | h
   ·subst q
    rw [hb]
    exact ⟨e,he,rfl,rfl,rfl⟩
   ·exact ⟨x,(zbj ok he _ _ h).1,rfl,rfl,rfl⟩
  ·obtain ⟨y,hy,q⟩:=zb7 h
   refine ⟨y,hy,?_⟩
   rw [q]
   split <;> exact ⟨rfl,rfl,rfl⟩
theorem less_eqs (B : Bk) (e : Ent) (k : Int) (r : Addr) : (B.less e k r).came = B.came ∧ (B.less e k r).calling = B.calling ∧ (B.less e k r).last = B.last ∧ (B.less e k r).vol = B.vol:=by
 obtain ⟨m1,m2,m3,m4,m5⟩:=zaT B e.buy (modE e.num (e.left - k) (e.shown - k) (B.at e.buy))
 obtain ⟨o1,o2,o3,o4,o5⟩:=zaT (B.mod e (e.left - k) (e.shown - k)) e.buy (remE (e.as (e.left - k) (e.shown - k)) ((B.mod e (e.left - k) (e.shown - k)).at e.buy))
 obtain ⟨p1,p2,p3,p4,p5⟩:=zdz ((B.mod e (e.left - k) (e.shown - k)).out (e.as (e.left - k) (e.shown - k))) (e.as (e.left - k) (e.shown - k)) r
 unfold Bk.less
 split
 ·exact ⟨o1.trans m1,o3.trans m3,o4.trans m4,o5.trans m5⟩
 ·split
  ·exact ⟨p1.trans (o1.trans m1),p3.trans (o3.trans m3),p4.trans (o4.trans m4),p5.trans (o5.trans m5)⟩
  ·exact ⟨m1,m3,m4,m5⟩
theorem less_tot {B : Bk} (ok : B.Ok) {e : Ent} {r : List Ent} {b : Bool} (h : B.at b = e :: r) (hb : e.buy = b) (k : Int) (x : Addr) : (B.less e k x).buys.length + (B.less e k x).sells.length ≤ B.buys.length + B.sells.length:=by
 have h1:=zhh ok h hb k x
 subst hb
 have h2:=zhN (B:=B) (e:=e) k x
 have h3:=zcb (B.less e k x) e.buy
 have h4:=zcb B e.buy
 rw [h2] at h3
 omega
theorem out_tot {B : Bk} (e : Ent) : (B.out e).buys.length + (B.out e).sells.length ≤ B.buys.length + B.sells.length:=by
 have h1:=zbN B e.buy (remE e (B.at e.buy))
 have h2:=(zeE e (B.at e.buy)).length_le
 have h3:=zcb B e.buy
 show (B.set e.buy (remE e (B.at e.buy))).buys.length + (B.set e.buy (remE e (B.at e.buy))).sells.length ≤ _
 omega
structure Leaves (B B' : Bk) : Prop where
 ca : B'.came = B.came
 cl : B'.calling = B.calling
 ln : B'.buys.length + B'.sells.length ≤ B.buys.length + B.sells.length
 nm : ∀ b,∀ x ∈ B'.at b,∃ y ∈ B.at b,y.num = x.num ∧ y.price = x.price ∧ y.owner = x.owner
theorem MetP.leaves {ow : Int} {b : Bool} {pr : Option Int} {B : Bk} {l : Int} {evs : List Ev} {B' : Bk} {l' : Int} (h : MetP ow b pr B l evs B' l') (ok : B.Ok) : Leaves B B' ∧ B'.Ok:=by
 induction h with
 | nil => exact ⟨⟨rfl,rfl,Nat.le_refl _,fun b x hx => ⟨x,hx,rfl,rfl,rfl⟩⟩,ok⟩
 | @out evs B1 l1 e r m h hl hs ho ih =>
  obtain ⟨⟨a1,a2,a3,a4⟩,ok1⟩:=ih
  have hbb : e.buy = !b:=ok1.sd (!b) e (by rw [h]; exact List.mem_cons_self)
  have hme : e ∈ B1.at e.buy:=by rw [hbb,h]; exact List.mem_cons_self
  obtain ⟨q1,_,q3,_⟩:=zaT B1 e.buy (remE e (B1.at e.buy))
  refine ⟨⟨q1.trans a1,q3.trans a2,Nat.le_trans (out_tot e) a3,fun b' x hx => a4 b' x (zcv (ok1.so _) hme hx).1⟩,ok1.out e⟩
 | @trade evs B1 l1 e r k m h hl hs ho ih =>
  obtain ⟨⟨a1,a2,a3,a4⟩,ok1⟩:=ih
  have hbb : e.buy = !b:=ok1.sd (!b) e (by rw [h]; exact List.mem_cons_self)
  have hme : e ∈ B1.at e.buy:=by rw [hbb,h]; exact List.mem_cons_self
  obtain ⟨q1,q2,_⟩:=less_eqs B1 e (mn l1 e.shown) k
  refine ⟨⟨q1.trans a1,q2.trans a2,Nat.le_trans (less_tot ok1 h hbb _ _) a3,fun b' x hx => ?_⟩,ziI (ok1.less hme _ _) _ _⟩
  obtain ⟨y,hy,z1,z2,z3⟩:=zhg (r:=k) ok1 hme hx
  obtain ⟨y',hy',w1,w2,w3⟩:=a4 b' y hy
  exact ⟨y',hy',w1.trans z1,w2.trans z2,w3.trans z3⟩
noncomputable def Bk.adm (B : Bk) : Bk:={ B with came:=B.came + 1 }
noncomputable def Came (B : Bk) (ow : Int) (b : Bool) (pr : Option Int) (many : Int) (way : Str) (evs : List Ev) (B2 : Bk) (l : Int) : Prop :=
 ((B.calling = true ∨ mayB B ow b pr many way = false) ∧ evs = [] ∧ B2 = B.adm ∧ l = many) ∨ (B.calling = false ∧ mayB B ow b pr many way = true ∧ MetP ow b pr B.adm many evs B2 l ∧ zbJ (B2.at (!b)) l b pr = .non)
noncomputable def zei (B : Bk) (ow : Int) (b : Bool) (pr : Option Int) (many : Int) (shows : Option Int) (way : Str) (evs : List Ev) (B' : Bk) : Prop :=
 ∃ B2 l,Came B ow b pr many way evs B2 l ∧ 0 ≤ l ∧ l ≤ many ∧ ((way = "rest" ∧ 0 < l ∧ ∃ ce o p r,pr = some p ∧ B' = B2.put ⟨ce,o,0,B.came,ow,b,p,many,shows,l,0,0⟩ r) ∨ (¬ (way = "rest" ∧ 0 < l) ∧ B' = B2))
theorem zhT {side : Str} {price : Option Int} {many : Int} {shows : Option Int} {way : Str} (h : zbk side price many shows way = true) : ∀ k,shows = some k → 1 ≤ k:=fun k hk => by
 subst hk
 unfold zbk zbM at h
 simp at h
 omega
theorem zjC {side : Str} {price : Option Int} {many : Int} {shows : Option Int} (h : zbk side price many shows "rest" = true) : ∃ p,price = some p ∧ 1 ≤ p ∧ p ≤ 1000000000:=by
 cases price with
 | some p =>
  refine ⟨p,rfl,?_⟩
  unfold zbk za4 at h
  simp at h
  omega
 | none =>
  unfold zbk za4 at h
  simp at h
theorem zfP {side : Str} {price : Option Int} {many : Int} {shows : Option Int} {way : Str} (h : zbk side price many shows way = true) : 1 ≤ many ∧ many ≤ 10000:=by
 unfold zbk zbo at h
 simp at h
 omega
theorem zhS {side : Str} {price : Option Int} {many : Int} {shows : Option Int} {way : Str} (h : zbk side price many shows way = true) : ∃ b,side = zav b:=by
 unfold zbk at h
 have h1 : zc6 side = true:=by
  cases e : zc6 side with
  | true => rfl
  | false =>
   rw [e] at h
   exact absurd h (by simp)
 unfold zc6 inV at h1
 simp [eqV] at h1
 rcases h1 with h1 | h1
 ·exact ⟨true,by first | exact h1 | exact h1.symm⟩
 ·exact ⟨false,by first | exact h1 | exact h1.symm⟩
section
variable {P : Program} {w : World} {K : W.Frag} {mg : Str → Option Value} {base : Heap} {bo nt nn be sides ways : Addr} {c : Cs} {a : Ads} {d : Pds} {m : Mds}
theorem scPg : FnScope ["book","owner","side","price","many","shows","way","order","number","coming","happened"] ["book","owner","side","price","many","shows","way"] (zak ziB):=fsc
noncomputable def spPlace (bo nn : Addr) (c : Cs) : Sp:=fun vs H Q E => ∃ (g : Ga) (B : Bk) (owner : Int) (side : Str) (price : Option Int) (many : Int) (shows : Option Int) (way : Str),
 vs = [.ref g.b,.int owner,.str side,oV price,.int many,oV shows,.str way] ∧ Rep c H g B ∧ B.Ok ∧ B.Pos ∧ B.came < 400 ∧ Small side price many shows way ∧
 (zbk side price many shows way = false → ∀ e H',Same H H' → E (.ref bo) e H') ∧
 (zbk side price many shows way = true → B.calling = true → way ≠ "rest" → ∀ e H',Same H H' → E (.ref nn) e H') ∧
 (zbk side price many shows way = true → (B.calling = true → way = "rest") → ∀ (b : Bool) (t l : Addr) (ts : List V) (evs : List Ev) (H' : Hp) (B' : Bk),side = zav b → H' t = some (.tup [.int B.came,.ref l]) → H' l = some (.lst ts) → zgf H' ts evs → evs.length ≤ 11000 →
  zei B owner b price many shows way evs B' → Rep c H' g B' → B'.Ok → B'.Pos → B'.came = B.came + 1 → B'.calling = B.calling → Fr H g B H' B' → Q (.ref t) H')
theorem kPlace (T : XTxt K mg bo nt nn be) (O : OTxt K mg sides ways) (C : CTxt K mg c) (F : FTxt K mg a c) (D : PTxt K mg d) (M : MTxt K mg m) : Kp P w K mg base 7 d.place ["book","owner","side","price","many","shows","way"] (spPlace bo nn c):=D.place.kp fun fd G => by
 obtain ⟨fd1,G1,b1,k1⟩:=kOrderA (P:=P) (w:=w) (base:=base) T O C F
 obtain ⟨fd2,G2,b2,k2⟩:=zcl (P:=P) (w:=w) (base:=base) C F
 obtain ⟨fd3,G3,b3,k3⟩:=kAdmitA (P:=P) (w:=w) (base:=base) C F
 obtain ⟨fd4,G4,b4,k4⟩:=kEntA (P:=P) (w:=w) (base:=base) C F
 obtain ⟨fd5,G5,b5,k5⟩:=kMay (P:=P) (w:=w) (base:=base) C F D
 obtain ⟨fd6,G6,b6,k6⟩:=kMeetAll (P:=P) (w:=w) (base:=base) C F D M
 obtain ⟨fd7,G7,b7,k7⟩:=kPut (P:=P) (w:=w) (base:=base) C F
 refine G.okX scPg (fun vs H Q E h => ?_) (fun cdv A outer s H vs Q E hr h => ?_)
 ·obtain ⟨_,_,_,_,_,_,_,_,rfl,_⟩:=h
  rfl
 ·obtain ⟨g,B,owner,side,price,many,shows,way,rfl,R,ok,ps,hcm,sm,hbad,hnow,hgood⟩:=h
  have hr1 : Room 1 _:=hr.mono (by decide)
  have hr2 : Room 2 _:=hr.mono (by decide)
  have hr3 : Room 3 _:=hr.mono (by decide)
  refine ⟨_,zac (zap (i:=7) scPg.nd rfl (Or.inl rfl) (ziP F.mkOrder G1 hr3 rfl C.mgO b1 .nil (zeN fun _ _ _ h => h) (zaa (pv 1) (zaa (pv 2) (zaa (pv 3) (zaa (pv 4) (zaa (pv 5) (zaa (pv 6) zag))))))))
   (zac (zaJ (PW.pt (zbf (zbv (zbC (pv 0) C.clB F.mIsCalling G2 hr1 b2 .nil zaq)) (za2 (zao zfw (pv 6) zam (zat _)))))
    (zaf (zbb rfl rfl T.mgNN T.xNN (zb0 fun _ _ _ h => h) (zaa (zb4 (.cons zam (.cons (ziR (pv 6)) (.cons zam .nil))) (by decide)) zag))) zau)
   (zac (zap (i:=8) scPg.nd rfl (Or.inl rfl) (zaK (zal (pv 0) rfl) C.clN F.mAdmit G3 hr1 b3 .nil zaq (zaa (pv 7) zag)))
   (zac (zap (i:=9) scPg.nd rfl (Or.inl rfl) (ziP F.mkEnt G4 hr2 rfl C.mgE b4 .nil zaq (zaa (pv 7) zag)))
   (zac (zap (i:=10) scPg.nd rfl (Or.inl rfl) (zbg zag))
   (zac (zaJ (PW.pt (zbf (zcD (zbv (zbC (pv 0) C.clB F.mIsCalling G2 hr1 b2 .nil zaq))) (za2 (zbv (zas G5 hr3 rfl D.gMay k5 b5 .nil zaq (zaa (pv 0) (zaa (pv 7) zag)))))))
    (zaf (zap (i:=10) scPg.nd rfl (Or.inl rfl) (zas G6 hr rfl D.gMeetAll k6 b6 .nil zaq (zaa (pv 0) (zaa (pv 9) zag))))) zau)
   (zac (zaJ (PW.pt (zbf (zao za3 (pv 6) zam (zat _)) (za2 (zao ziX (zal (pv 9) rfl) zah (zat _)))))
    (zaf (zaG (zaK (pv 0) C.clB F.mPut G7 hr2 b7 .nil zaq (zaa (pv 9) zag)))) zau)
   (zaf (zaw (zby (zaa (pv 8) (zaa (pv 10) zag))))))))))),?_⟩
  refine (rX rfl (rX rfl (rX rfl (rX rfl (rX rfl (rX rfl (fun o dy hno hnd hne => ⟨o,dy,owner,side,price,many,shows,way,rfl,zab,sm,fun hg H2 o2 f2 => ⟨rfl,?_⟩,fun hb e => hbad hb e _ ?_⟩)))))))
  rotate_left
  ·exact fun x u hx => by rw [zad (zae hx hno),zad (zae hx hnd)]; exact hx
  obtain ⟨b,rfl⟩:=zhS hg
  obtain ⟨hm1,hm2⟩:=zfP hg
  have s2 : Same H H2:=fun x u hx => by
   rw [f2 x (zae hx hno),zad (zae hx hno),zad (zae hx hnd)]
   exact hx
  have R2:=Same.rep s2 R
  obtain ⟨dxb,hb2⟩:=id R2.ob
  obtain ⟨dn,hn2⟩:=id R2.nb
  refine (rX rfl (rM g.b dxb rfl hb2 rfl ⟨g,B,rfl,R2,rX rfl ?_⟩))
  by_cases hnn : B.calling = true ∧ way ≠ "rest"
  ·refine zaD hnn.1 (rX rfl ⟨rfl,rX rfl (zaD (by simp [hnn.2]) ?_)⟩)
   exact (rX rfl ⟨by decide +kernel,rX rfl (rX rfl ⟨sm.w2,rX rfl ⟨sm.w2,rX rfl ⟨by decide +kernel,fun y hy => ⟨zaL,fun e => hnow hg hnn.1 hnn.2 e _ s2⟩⟩⟩⟩)⟩)
  have hcr : B.calling = true → way = "rest":=fun z => Classical.byContradiction fun y => hnn ⟨z,y⟩
  refine zjy (iteF ?_) fun hc x => (rX rfl ⟨rfl,rX rfl (zar (by rw [hcr hc]; rfl) (zgy x))⟩)
  have k:=fun t l ts evs H' B' => hgood hg hcr b t l ts evs H' B' rfl
  refine (rX rfl (rA g.b c.B dxb rfl hb2 C.clB C.b1 rfl (rM g.nb dn rfl hn2 rfl (rX rfl ⟨g.nb,dn,o,dy,B.came,owner,zav b,price,many,shows,way,.non,rfl,hn2,o2,fun H3 n3 o3 f3 => ?_⟩))))
  have R3 : Rep c H3 g B.adm:=ziH R2 o2 n3 f3
  refine (rX rfl (fun ce dce hce hdce hne2 => ⟨ce,dce,o,dy,owner,zav b,price,many,shows,way,.int B.came,rfl,zab,?_,fun H4 c4 f4 => ⟨rfl,?_⟩⟩))
  ·rw [zad (zae o3 hce),zad (zae o3 hdce)]
   exact o3
  have s4 : Same H3 H4:=fun x u hx => by
   rw [f4 x (zae hx hce),zad (zae hx hce),zad (zae hx hdce)]
   exact hx
  refine ⟨(by rw [sizeLine_eq]; show 0 ≤ 16777216; decide),fun l hl => ?_⟩
  have s5 : Same H4 (upd H4 l (.lst [])):=zai hl
  have l5 : upd H4 l (.lst []) l = some (.lst []):=zab
  generalize hH5 : upd H4 l (.lst []) = H5 at *
  have R4 : Rep c H4 g B.adm:=Same.rep s4 R3
  have R5 : Rep c H5 g B.adm:=Same.rep s5 R4
  obtain ⟨dxb5,hb5⟩:=id R5.ob
  have o5:=s5 _ _ (s4 _ _ o3)
  have c5:=s5 _ _ c4
  have ok2 : B.adm.Ok:=ok.admit (by omega)
  have ps2 : B.adm.Pos:=⟨ps.ps⟩
  have old3 : ∀ x u,H x = some u → x ≠ g.nb → H3 x = some u:=fun x u hx hn => by
   rw [f3 x hn (zae hx hno)]
   exact s2 x u hx
  have Hce : H ce = none:=by
   cases q : H ce with
   | none => rfl
   | some u =>
    have:=old3 ce u q (zae n3 hce).symm
    rw [hce] at this
    cases this
  have nfce : ¬ Foot g B.adm ce:=fun f => by
   obtain ⟨u,hu⟩:=zbl R3 f
   rw [hce] at hu
   cases hu
  have nfl : ¬ Foot g B.adm l:=fun f => by
   obtain ⟨u,hu⟩:=zbl R4 f
   rw [hl] at hu
   cases hu
  have old5 : ∀ x u,H x = some u → ¬ Foot g B x → H5 x = some u:=fun x u hx nf => s5 _ _ (s4 _ _ (old3 x u hx fun z => nf (.inr (.inl z))))
  have len0 : ∀ x y : V,([x,y] : List V).length ≤ sizeLine:=fun x y => by rw [sizeLine_eq]; show 2 ≤ 16777216; decide
  have fin : ∀ (lz : Addr) (ts : List V) (evs : List Ev) (B2 : Bk) (lf : Int) (Hx : Hp),Came B owner b price many way evs B2 lf → 0 ≤ lf → lf ≤ many → Rep c Hx g B2 → B2.Ok → B2.Pos → Leaves B.adm B2 → Hx ce = some (.ins c.E dce (entF o lf 0 .non)) → Hx o = some (.ins c.O dy (ordF owner (zav b) price many shows way (.int B.came))) →
    Hx lz = some (.lst ts) → ¬ Foot g B2 lz → zgf Hx ts evs → evs.length ≤ 11000 → (∀ x u,H x = some u → ¬ Foot g B x → Hx x = some u) → (∀ x,Foot g B2 x → Foot g B x) →
    tSeq (tIfS (tAnd (zib (tOp rEq (tVar 6) (tC (.str "rest")))) (zib (tOp (rI0 fun i j => .bl (decide (j < i))) (tFld K (tVar 9) "remaining") (tC (.int 0))))) (tDrop (zid c.B "put" (spPut c) [] E0 (tVar 0) (zba (tVar 9) tNil))) tNext) (tRet (tTup (zba (tVar 8) (zba (tVar 10) tNil)))) { nx:=fun _ H' => Q .non H',rt:=Q } [some (.ref g.b),some (.int owner),some (.str (zav b)),some (oV price),some (.int many),some (oV shows),some (.str way),some (.ref o),some (.int B.came),some (.ref ce),some (.ref lz)] Hx:=?fn
  ·-- if not book.is_calling() and may_meet(book,order)
   refine (rX rfl (rM g.b dxb5 rfl hb5 rfl ⟨g,rX rfl ⟨R5,rX rfl ?_⟩⟩))
   have lv0 : Leaves B.adm B.adm:=⟨rfl,rfl,Nat.le_refl _,fun b x hx => ⟨x,hx,rfl,rfl,rfl⟩⟩
   show if (!B.calling) = true then _ else _
   cases hcal : B.calling with
   | true => exact iteF (iteF (fin l [] [] B.adm many H5 (.inl ⟨.inl hcal,rfl,rfl,rfl⟩) (by omega) (Int.le_refl _) R5 ok2 ps2 lv0 c5 o5 l5 nfl .nil (by decide) old5 fun _ f => f))
   | false =>
    refine iteT (rX rfl (rX rfl ⟨g,_,o,dy,owner,b,price,many,shows,way,.int B.came,rfl,R5,o5,fun H6 s6 => (rX rfl ?_)⟩))
    have R6:=Same.rep s6 R5
    cases hmay : mayB B owner b price many way with
    | false => exact zar hmay (fin l [] [] B.adm many H6 (.inl ⟨.inr hmay,rfl,rfl,rfl⟩) (by omega) (Int.le_refl _) R6 ok2 ps2 lv0 (s6 _ _ c5) (s6 _ _ o5) (s6 _ _ l5) nfl .nil (by decide) (fun x u hx nf => s6 _ _ (old5 x u hx nf)) fun _ f => f)
    | true =>
     refine zaD hmay (rX rfl (rX rfl ⟨g,B.adm,ce,dce,o,dy,many,0,.non,owner,b,price,many,shows,way,.int B.came,rfl,R6,ok2,ps2,by omega,hm2,s6 _ _ c5,s6 _ _ o5,nfce,fun evs B2 lf lz ts H7 met hnx R7 ok7 ps7 hl0 hl1 c7 l7 ev7 hev f7 ft7 hlz => ?_⟩))
     refine fin lz ts evs B2 lf H7 (.inr ⟨hcal,hmay,met,hnx⟩) hl0 hl1 R7 ok7 ps7 (met.leaves ok2).1 c7 ?_ l7 ?_ ev7 hev ?_ ft7
     ·exact f7 o _ (s6 _ _ o5) (zdY R6 2 (s6 _ _ o5)) (zan 2 1 (s6 _ _ o5) (s6 _ _ c5))
     ·intro f
      obtain ⟨u,hu⟩:=zbl R6 (ft7 _ f)
      rw [hlz] at hu
      cases hu
     ·exact fun x u hx nf => f7 x u (s6 _ _ (old5 x u hx nf)) nf (zae hx Hce)
  intro lz ts evs B2 lf Hx hcame hlf0 hlf1 Rx okx psx lvx cx ox lx nfx evx hev oldx ftx
  obtain ⟨dxx,hbx⟩:=id Rx.ob
  have hct : ((B.buys.length + B.sells.length : Nat) : Int) ≤ B.came:=ok.ct
  have hln : B2.buys.length + B2.sells.length ≤ B.buys.length + B.sells.length:=lvx.ln
  have hca : B2.came = B.came + 1:=lvx.ca
  have hcl : B2.calling = B.calling:=lvx.cl
  have hnum : ∀ b',∀ x ∈ B2.at b',x.num ≠ B.came:=fun b' x hx => by
   obtain ⟨y,hy,hyn,_⟩:=lvx.nm b' x hx
   have : y.num < B.came:=(ok.lt b' y hy).2
   omega
  refine (rX rfl ⟨rfl,rX rfl ?_⟩)
  by_cases hw : way = "rest"
  ·subst hw
   obtain ⟨p,rfl,hp1,hp2⟩:=zjC hg
   refine iteT (rX rfl (rA ce c.E dce rfl cx C.clE C.e2 rfl (r2 rfl rfl (rX rfl ?_))))
   by_cases hlp : 0 < lf
   ·refine zaD (decide_eq_true hlp) ?_
    refine (rX rfl (rM g.b dxx rfl hbx rfl (rX rfl ⟨g,_,⟨ce,o,0,B.came,owner,b,p,many,shows,lf,0,0⟩,dce,dy,0,.non,rfl,Rx,okx.so,(by omega),cx,ox,hnum,fun r H8 R8 f8 => ?_⟩)))
    refine (rX rfl (rX rfl ⟨len0 _ _,fun t ht => ?_⟩))
    obtain ⟨q1,q2,q3,q4,q5⟩:=zdz B2 ⟨ce,o,0,B.came,owner,b,p,many,shows,lf,0,0⟩ r
    refine k t lz ts evs _ _ zab (zai ht _ _ (f8 _ _ lx nfx (zan 5 1 lx cx))) (Paired.mapP evx fun v ev ⟨t',h1,h2⟩ => ⟨t',h1,zai ht _ _ (f8 t' _ h2 (zdY Rx 7 h2) (zan 7 1 h2 cx))⟩) hev
     ⟨B2,lf,hcame,hlf0,hlf1,.inl ⟨rfl,hlp,ce,o,p,r,rfl,rfl⟩⟩ (Same.rep (zai ht) R8) (okx.put r (by show (0 : Int) ≤ B.came; omega) (by show B.came < B2.came; omega) hnum (by omega)) (psx.put r (by show 1 ≤ lf; omega) (by show lf ≤ 10000; omega) hp1 hp2 (zhT hg)) (q1.trans hca) (q3.trans hcl) ⟨fun x u hx nfx' => ?_,fun x fx => ?_⟩
    ·exact zai ht _ _ (f8 x u (oldx x u hx nfx') (fun f => nfx' (ftx x f)) (zae hx Hce))
    ·rcases ze5 fx with z | z
     ·exact .inl (ftx x z)
     ·exact .inr (by rw [z]; exact Hce)
   ·refine zar (decide_eq_false hlp) (rX rfl (rX rfl ⟨len0 _ _,fun t ht => ?_⟩))
    exact k t lz ts evs _ _ zab (zai ht _ _ lx) (Paired.mapP evx fun v ev ⟨t',h1,h2⟩ => ⟨t',h1,zai ht _ _ h2⟩) hev ⟨B2,lf,hcame,hlf0,hlf1,.inr ⟨fun z => hlp z.2,rfl⟩⟩ (Same.rep (zai ht) Rx) okx psx hca hcl ⟨fun x u hx nfx' => zai ht _ _ (oldx x u hx nfx'),fun x fx => .inl (ftx x fx)⟩
  ·have dd : decide (V.str way = V.str ("rest" : Str)) = false:=by simp [hw]
   refine zar dd (iteF (rX rfl (rX rfl ⟨len0 _ _,fun t ht => ?_⟩)))
   exact k t lz ts evs _ _ zab (zai ht _ _ lx) (Paired.mapP evx fun v ev ⟨t',h1,h2⟩ => ⟨t',h1,zai ht _ _ h2⟩) hev ⟨B2,lf,hcame,hlf0,hlf1,.inr ⟨fun z => hw z.1,rfl⟩⟩ (Same.rep (zai ht) Rx) okx psx hca hcl ⟨fun x u hx nfx' => zai ht _ _ (oldx x u hx nfx'),fun x fx => .inl (ftx x fx)⟩
end
end Fb
namespace Fb
open PySem L2
structure Nds where
 entryOf : Addr
 isCrossed : Addr
 last : Addr
 cancel : Addr
 change : Addr
 call : Addr
structure NTxt (K : W.Frag) (mg : Str → Option Value) (c : Cs) (n : Nds) : Prop where
 entryOf : Dn K "entry_of" "Book.entry_of" zez n.entryOf ["self","number"]
 mEntryOf : Meth K c.B "entry_of" n.entryOf
 isCrossed : Dn K "is_crossed" "Book.is_crossed" zd9 n.isCrossed ["self"]
 mIsCrossed : Meth K c.B "is_crossed" n.isCrossed
 last : Dn K "last" "Book.last" sLast n.last ["self"]
 mLast : Meth K c.B "last" n.last
 cancel : Dn K "cancel" "cancel" zgt n.cancel ["book","number"]
 gCancel : mg "cancel" = some (.ref n.cancel)
 change : Dn K "change" "change" zgs n.change ["book","number","many"]
 gChange : mg "change" = some (.ref n.change)
 call : Dn K "call" "call" sCall n.call ["book"]
 gCall : mg "call" = some (.ref n.call)
section
variable {P : Program} {w : World} {K : W.Frag} {mg : Str → Option Value} {base : Heap} {bo nt nn be sides ways : Addr} {c : Cs} {a : Ads} {d : Pds} {m : Mds} {n : Nds}
theorem scEn : FnScope ["self","number"] ["self","number"] (zak zez):=fsc
noncomputable def ziq (nt : Addr) (c : Cs) : Sp:=fun vs H Q E => ∃ (g : Ga) (B : Bk) (k : Int),vs = [.ref g.b,.int k] ∧ Rep c H g B ∧ k.natAbs < 10 ^ 30 ∧ (∀ b,∀ e ∈ B.at b,e.num = k → Q (.ref e.ea) H) ∧ ((∀ b,∀ e ∈ B.at b,e.num ≠ k) → ∀ x,E (.ref nt) x H)
theorem zhm (T : XTxt K mg bo nt nn be) (C : CTxt K mg c) (N : NTxt K mg c n) : Kp P w K mg base 1 n.entryOf ["self","number"] (ziq nt c):=N.entryOf.kp fun fd G => by
 refine G.okX scEn (fun vs H Q E h => ?_) (fun cdv A outer s H vs Q E hr h => ?_)
 ·obtain ⟨_,_,_,rfl,_⟩:=h
  rfl
 ·obtain ⟨g,B,k,rfl,R,hk,q1,q2⟩:=h
  have hu:=zdd hr
  obtain ⟨dxb,hb⟩:=R.ob
  obtain ⟨kvs,hkv,_,_,hv1,hv2⟩:=R.de
  refine ⟨_,zac (zaJ (zbB (ziU hu (pv 1) (zal (pv 0) rfl)) (by with_unfolding_all rfl))
   (zaf (zbb rfl rfl T.mgNT T.xNT (zb0 fun _ _ _ h => h) (zaa (zb4 (.cons zam (.cons (zbQ (pv 1)) (.cons zam .nil))) (by decide)) zag))) zau)
   (zaf (zaw (zbm hu (zal (pv 0) rfl) (pv 1) (fun _ _ => rfl)))),?_⟩
  refine (rX rfl (rX rfl (rA g.b c.B dxb rfl hb C.clB C.b3 rfl ⟨g.de,rX rfl ⟨DGet.k (k:=Sum.inl k) hkv,rX rfl ?_⟩⟩)))
  cases e : valV kvs (Sum.inl k) with
  | none =>
   have no : ∀ b,∀ e ∈ B.at b,e.num ≠ k:=fun b x hx z => by
    have:=hv1 b x hx
    rw [z,e] at this
    cases this
   exact iteT (rX rfl ⟨by decide +kernel,rX rfl ⟨k,rfl,hk,fun y hy => (rX rfl ⟨hy,rX rfl ⟨by decide +kernel,fun y2 hy2 => ⟨zaL,q2 no⟩⟩⟩)⟩⟩)
  | some v =>
   obtain ⟨b,x,hx,ex⟩:=hv2 k v e
   have ev:=hv1 b x hx
   rw [ex,e] at ev
   cases ev
   exact iteF (rX rfl (rA g.b c.B dxb rfl hb C.clB C.b3 rfl (rX rfl ⟨g.de,.ref x.ea,rfl,(by have:=DGet.k (k:=Sum.inl k) hkv; rw [e] at this; exact this),q1 b x hx ex⟩)))
theorem scLa : FnScope ["self"] ["self"] (zak sLast):=fsc
noncomputable def spLast (c : Cs) : Sp:=fun vs H Q _ => ∃ (g : Ga) (B : Bk),vs = [.ref g.b] ∧ Rep c H g B ∧ Q (oV B.last) H
theorem kLast (C : CTxt K mg c) (N : NTxt K mg c n) : Kp P w K mg base 1 n.last ["self"] (spLast c):=N.last.kp fun fd G => by
 refine G.okN scLa (fun vs H Q E h => ?_) (fun cdv A outer s H vs Q E hr h => ?_)
 ·obtain ⟨_,_,rfl,_⟩:=h
  rfl
 ·obtain ⟨g,B,rfl,R,q⟩:=h
  obtain ⟨dx,hb⟩:=R.ob
  exact ⟨_,zaf (zaw (zal (pv 0) rfl)),_,rfl,g.b,c.B,dx,_,_,rfl,hb,C.clB,C.b6,rfl,q⟩
noncomputable def zcS (B : Bk) : Bool:=match B.buys,B.sells with
 | x :: _,y :: _ => decide (y.price ≤ x.price)
 | _,_ => false
end
end Fb
namespace Fb
open PySem L2
section
variable {P : Program} {w : World} {K : W.Frag} {mg : Str → Option Value} {base : Heap} {bo nt nn be sides ways : Addr} {c : Cs} {a : Ads} {d : Pds} {m : Mds} {n : Nds}
theorem scCa : FnScope ["book","number","entry"] ["book","number"] (zak zgt):=fsc
noncomputable def spCancel (nt : Addr) (c : Cs) : Sp:=fun vs H Q E => ∃ (g : Ga) (B : Bk) (k : Int),vs = [.ref g.b,.int k] ∧ Rep c H g B ∧ B.Ok ∧ k.natAbs < 10 ^ 30 ∧
 (∀ e ∈ B.at e.buy,e.num = k → ∀ H',Rep c H' g (B.out e) → (∀ x o,H x = some o → ¬ Foot g B x → H' x = some o) → Q (.int e.left) H') ∧ ((∀ b,∀ e ∈ B.at b,e.num ≠ k) → ∀ x,E (.ref nt) x H)
theorem kCancel (T : XTxt K mg bo nt nn be) (C : CTxt K mg c) (F : FTxt K mg a c) (N : NTxt K mg c n) : Kp P w K mg base 3 n.cancel ["book","number"] (spCancel nt c):=N.cancel.kp fun fd G => by
 obtain ⟨fd1,G1,b1,k1⟩:=zhm (P:=P) (w:=w) (base:=base) T C N
 obtain ⟨fd2,G2,b2,k2⟩:=zcN (P:=P) (w:=w) (base:=base) C F
 refine G.okX scCa (fun vs H Q E h => ?_) (fun cdv A outer s H vs Q E hr h => ?_)
 ·obtain ⟨_,_,_,rfl,_⟩:=h
  rfl
 ·obtain ⟨g,B,k,rfl,R,ok,hk,q1,q2⟩:=h
  have hr1 : Room 1 _:=hr.mono (by decide)
  have hr2 : Room 2 _:=hr.mono (by decide)
  obtain ⟨dxb,hb⟩:=id R.ob
  obtain ⟨kvs,hkv,_⟩:=id R.de
  refine ⟨_,zac (zap (i:=2) scCa.nd rfl (Or.inl rfl) (zaK (pv 0) C.clB N.mEntryOf G1 hr1 b1 .nil (zeN fun _ _ _ h => h) (zaa (pv 1) zag)))
   (zac (zaG (zaK (pv 0) C.clB F.mTakeOut G2 hr2 b2 .nil zaq (zaa (pv 2) zag)))
   (zaf (zaw (zal (pv 2) rfl)))),?_⟩
  refine (rX rfl (rM g.b dxb rfl hb rfl (rX rfl ⟨g,B,k,rfl,R,hk,fun b e he hek => ?_,q2⟩)))
  have hs:=ok.sd b e he
  subst hs
  obtain ⟨⟨dx,hen⟩,_,_⟩:=R.en _ e he
  refine (rX rfl (rM g.b dxb rfl hb rfl (rX rfl ⟨g,B,e,rfl,R,ok,he,fun H1 R1 f1 => ?_⟩)))
  have e1 : H1 e.ea = _:=(f1 e.ea (zan 1 5 hen (R.ls _)) (zan 1 6 hen hkv)).trans hen
  refine (rX rfl (rA e.ea c.E dx rfl e1 C.clE C.e2 rfl (q1 e he hek H1 R1 fun x o hx nf => ?_)))
  rw [f1 x (fun z => nf (by rw [z]; exact zb9 g B _)) (fun z => nf (.inr (.inr (.inr (.inr (.inl z))))))]
  exact hx
noncomputable def Bk.chg (B : Bk) (e : Ent) (k : Int) (r : Addr) : Bk:=if e.left < k then ((B.mod e k e.shown).out (e.as k e.shown)).put (e.as k e.shown) r else B.mod e k (mn e.shown k)
theorem zhO (T : XTxt K mg bo nt nn be) (O : OTxt K mg sides ways) (F : FTxt K mg a c) : Kp P w K mg base 1 a.checkMany ["many"] (zdq bo):=F.checkMany.kp fun fd G => zcG G T O
theorem scCg : FnScope ["book","number","many","entry","more"] ["book","number","many"] (zak zgs):=fsc
noncomputable def spChange (bo nt : Addr) (c : Cs) : Sp:=fun vs H Q E => ∃ (g : Ga) (B : Bk) (k many : Int),vs = [.ref g.b,.int k,.int many] ∧ Rep c H g B ∧ B.Ok ∧ k.natAbs < 10 ^ 30 ∧ many.natAbs < 10 ^ 30 ∧
 (∀ e ∈ B.at e.buy,e.num = k → zbo many = true → ∀ r H',Rep c H' g (B.chg e many r) → (∀ x o,H x = some o → ¬ Foot g B x → H' x = some o) → Q .non H') ∧
 (∀ e ∈ B.at e.buy,e.num = k → zbo many = false → ∀ x,E (.ref bo) x H) ∧ ((∀ b,∀ e ∈ B.at b,e.num ≠ k) → ∀ x,E (.ref nt) x H)
theorem kChange (T : XTxt K mg bo nt nn be) (O : OTxt K mg sides ways) (C : CTxt K mg c) (F : FTxt K mg a c) (N : NTxt K mg c n) : Kp P w K mg base 4 n.change ["book","number","many"] (spChange bo nt c):=N.change.kp fun fd G => by
 obtain ⟨fd1,G1,b1,k1⟩:=zhm (P:=P) (w:=w) (base:=base) T C N
 obtain ⟨fd2,G2,b2,k2⟩:=zhO (P:=P) (w:=w) (base:=base) T O F
 obtain ⟨fd3,G3,b3,k3⟩:=zhl (P:=P) (w:=w) (base:=base) C F
 refine G.okX scCg (fun vs H Q E h => ?_) (fun cdv A outer s H vs Q E hr h => ?_)
 ·obtain ⟨_,_,_,_,rfl,_⟩:=h
  rfl
 ·obtain ⟨g,B,k,many,rfl,R,ok,hk,hm,q1,q2,q3⟩:=h
  have hr1 : Room 1 _:=hr.mono (by decide)
  obtain ⟨dxb,hb⟩:=id R.ob
  refine ⟨_,zac (zap (i:=3) scCg.nd rfl (Or.inl rfl) (zaK (pv 0) C.clB N.mEntryOf G1 hr1 b1 .nil (zeN fun _ _ _ h => h) (zaa (pv 1) zag)))
   (zac (zaG (zas G2 hr1 rfl F.gCheckMany k2 b2 .nil (zeN fun _ _ _ h => h) (zaa (pv 2) zag)))
   (zac (zap (i:=4) scCg.nd rfl (Or.inl rfl) (pe_cmp (pc_gt (pv 2) (zal (pv 3) rfl))))
   (zac (zaP (pv 3) (pv 2) rfl)
   (zaf (zaJ (zbv (pv 4)) (zaf (zaG (zaK (pv 0) C.clB F.mPutAnew G3 hr b3 .nil zaq (zaa (pv 3) zag))))
    (zaf (zaP (pv 3) (zaE (zcU rfl) (by rfl) C.min (by decide +kernel) (zaa (zal (pv 3) rfl) (zaa (pv 2) zag))) rfl))))))),?_⟩
  refine (rX rfl (rM g.b dxb rfl hb rfl (rX rfl ⟨g,B,k,rfl,R,hk,fun b e he hek => ?_,q3⟩)))
  have hs:=ok.sd b e he
  subst hs
  obtain ⟨⟨dx,hen⟩,_,_⟩:=R.en _ e he
  refine (rX rfl ⟨many,rfl,hm,fun hmk => ?_,fun hmk => q2 e he hek hmk⟩)
  refine (rX rfl (rX rfl (rA e.ea c.E dx rfl hen C.clE C.e2 rfl (r2 rfl rfl ?_))))
  refine (rX rfl (rX rfl ⟨e.ea,c.E,dx,rX rfl ⟨hen,C.clE,C.e2,(by show 4 < 1000; decide),?_⟩⟩))
  refine (rX rfl (rX rfl ?_))
  have R1 : Rep c (upd H e.ea (.ins c.E dx (entF e.oa many e.shown (.ref e.ra)))) g (B.mod e many e.shown):=zdx R ok he hen
  have ok1:=ok.mod e many e.shown
  have he1:=zaQ he many e.shown
  obtain ⟨dxb1,hb1⟩:=id R1.ob
  have old : ∀ x o u,H x = some o → ¬ Foot g B x → upd H e.ea u x = some o:=fun x o u hx nf => by
   rw [zad fun z => nf (.inr (.inr (.inr (.inr (.inr ⟨_,e,he,z⟩)))))]
   exact hx
  by_cases hlt : e.left < many
  ·refine zaD (decide_eq_true hlt) (rX rfl (rM g.b dxb1 rfl hb1 rfl (rX rfl ⟨g,_,e.as many e.shown,rfl,R1,ok1,he1,fun r H2 R2 f2 => ?_⟩)))
   refine q1 e he hek hmk r H2 (by unfold Bk.chg; rw [if_pos hlt]; exact R2) fun x o hx nf => ?_
   exact f2 x o (old x o _ hx nf) fun z => nf (zbq z)
  ·refine zar (decide_eq_false hlt) (rX rfl (rA e.ea c.E dx rfl zab C.clE C.e3 rfl (rX rfl ⟨e.shown,many,rfl,rX rfl ⟨e.ea,c.E,dx,rX rfl ⟨zab,C.clE,C.e3,(by show 4 < 1000; decide),?_⟩⟩⟩)))
   show Q .non (upd (upd H e.ea _) e.ea (.ins c.E dx (entF e.oa many (mn e.shown many) (.ref e.ra))))
   rw [zaR]
   exact q1 e he hek hmk 0 _ (by unfold Bk.chg; rw [if_neg hlt]; exact zdx R ok he hen) fun x o hx nf => old x o _ hx nf
theorem zeD {H : Hp} {g : Ga} {B B' : Bk} {dxb : Addr} {u : HO} (R : Rep c H g B) (hb : H g.b = some u) (hk : kd u = 3) (h1 : B'.buys = B.buys) (h2 : B'.sells = B.sells) (h3 : B'.came = B.came) :
  Rep c (upd H g.b (.ins c.B dxb (zd2 g.nb g.ds g.de B'.places B'.calling B'.last B'.vol))) g B':=by
 obtain ⟨_,⟨d2,r2⟩,r3,r4,r5,r6,⟨kvs,r7,r8,r9,ra,rb⟩,rc⟩:=R
 have hat : ∀ b,B'.at b = B.at b:=fun b => by unfold Bk.at; rw [h1,h2]
 have k : ∀ {x : Addr} {u' v : HO} (i : Nat),H x = some u' → kd u' = i → i ≠ 3 → upd H g.b v x = some u':=fun {x u' v} i hx hi n3 => by
  rw [zad (zan i 3 hx hb hi hk n3)]
  exact hx
 refine ⟨⟨dxb,zab⟩,⟨d2,by rw [h3]; exact k 4 r2 rfl (by decide)⟩,k 6 r3 rfl (by decide),fun b => by rw [hat]; exact k 5 (r4 b) rfl (by decide),r5,r6,⟨kvs,k 6 r7 rfl (by decide),r8,by rw [h1,h2]; exact r9,fun b x hx => ra b x (by rw [← hat]; exact hx),fun n v hv => ?_⟩,fun b x hx => ?_⟩
 ·obtain ⟨b,x,hx,e⟩:=rb n v hv
  exact ⟨b,x,by rw [hat]; exact hx,e⟩
 ·rw [hat] at hx
  obtain ⟨⟨dx,en⟩,⟨dy,od⟩,rk⟩:=rc b x hx
  exact ⟨⟨dx,k 1 en rfl (by decide)⟩,⟨dy,k 2 od rfl (by decide)⟩,k 7 rk rfl (by decide)⟩
theorem scCl : FnScope ["book"] ["book"] (zak sCall):=fsc
noncomputable def spCallF (nn : Addr) (c : Cs) : Sp:=fun vs H Q E => ∃ (g : Ga) (B : Bk),vs = [.ref g.b] ∧ Rep c H g B ∧ (B.calling = true → ∀ x,E (.ref nn) x H) ∧
 (B.calling = false → ∀ H',Rep c H' g { B with calling:=true } → (∀ x,x ≠ g.b → H' x = H x) → Q .non H')
theorem kCallF (T : XTxt K mg bo nt nn be) (C : CTxt K mg c) (F : FTxt K mg a c) (N : NTxt K mg c n) : Kp P w K mg base 2 n.call ["book"] (spCallF nn c):=N.call.kp fun fd G => by
 obtain ⟨fd1,G1,b1,k1⟩:=zcl (P:=P) (w:=w) (base:=base) C F
 refine G.okX scCl (fun vs H Q E h => ?_) (fun cdv A outer s H vs Q E hr h => ?_)
 ·obtain ⟨_,_,rfl,_⟩:=h
  rfl
 ·obtain ⟨g,B,rfl,R,q1,q2⟩:=h
  have hr1 : Room 1 _:=hr.mono (by decide)
  obtain ⟨dxb,hb⟩:=id R.ob
  refine ⟨_,zac (zaJ (zbv (zbC (pv 0) C.clB F.mIsCalling G1 hr1 b1 .nil zaq)) (zaf (zbb rfl rfl T.mgNN T.xNN (zb0 fun _ _ _ h => h) (zaa zam zag))) zau)
   (zaf (zaP (pv 0) zcu rfl)),?_⟩
  refine (rX rfl (rM g.b dxb rfl hb rfl ⟨g,B,rfl,R,rX rfl ?_⟩))
  cases hc : B.calling with
  | true => exact iteT ⟨zaL,q1 hc⟩
  | false =>
   refine iteF (rX rfl ⟨g.b,c.B,dxb,rX rfl ⟨hb,C.clB,C.b5,(by show 7 < 1000; decide),?_⟩⟩)
   exact q2 hc _ (zeD (B':={ B with calling:=true }) R hb rfl rfl rfl rfl) fun x nx => zad nx
end
end Fb
namespace L2
open PySem PySem.Spec PyProof.Rows
section
variable {X : Cx}
noncomputable def mn3 (a b c : Int) : Int:=if b < a then (if c < b then c else b) else (if c < a then c else a)
theorem zj2 (hc : X.calm = true) : zce X (.builtin "min") (fun xs H Q => ∃ i j k,xs = [.int i,.int j,.int k] ∧ Q (.int (mn3 i j k)) H):=by
 intro pins s σ H xs us Q I r h
 obtain ⟨i,j,k,rfl,q⟩:=h
 cases r with
 | cons r1 r2 =>
  obtain ⟨u,w',rfl,⟨t,rfl⟩,⟨t',rfl⟩⟩:=vals2 r2
  obtain ⟨t0,rfl⟩:=r1
  refine min_three_ints (I.ok.hd hc) fun h' tk kk => ⟨_,H,I.kept kk,?_,q⟩
  unfold mn3
  by_cases h1 : j < i
  ·rw [if_pos h1,if_pos h1]
   by_cases h2 : k < j
   ·rw [if_pos h2,if_pos h2]; exact ⟨_,rfl⟩
   ·rw [if_neg h2,if_neg h2]; exact ⟨_,rfl⟩
  ·rw [if_neg h1,if_neg h1]
   by_cases h2 : k < i
   ·rw [if_pos h2,if_pos h2]; exact ⟨_,rfl⟩
   ·rw [if_neg h2,if_neg h2]; exact ⟨_,rfl⟩
end
end L2
namespace Fb
open PySem L2
theorem mn3_le (a b c : Int) : mn3 a b c ≤ a ∧ mn3 a b c ≤ b ∧ mn3 a b c ≤ c:=by
 unfold mn3
 split <;> split <;> omega
theorem zjc {a b c : Int} (h1 : 1 ≤ a) (h2 : 1 ≤ b) (h3 : 1 ≤ c) : 1 ≤ mn3 a b c:=by
 unfold mn3
 split <;> split <;> omega
noncomputable def Bk.lip (B : Bk) (e : Ent) (k : Int) : Bk :=
 if e.left - k = 0 then (B.mod e (e.left - k) e.shown).out (e.as (e.left - k) e.shown) else B.mod e (e.left - k) (zaS e.shows (e.left - k))
theorem zji (B : Bk) (e : Ent) (k : Int) : (B.lip e k).came = B.came ∧ (B.lip e k).places = B.places ∧ (B.lip e k).calling = B.calling ∧ (B.lip e k).last = B.last ∧ (B.lip e k).vol = B.vol:=by
 unfold Bk.lip
 split
 ·obtain ⟨a1,a2,a3,a4,a5⟩:=zaT (B.mod e (e.left - k) e.shown) e.buy (remE (e.as (e.left - k) e.shown) ((B.mod e (e.left - k) e.shown).at e.buy))
  obtain ⟨b1,b2,b3,b4,b5⟩:=zaT B e.buy (modE e.num (e.left - k) e.shown (B.at e.buy))
  exact ⟨a1.trans b1,a2.trans b2,a3.trans b3,a4.trans b4,a5.trans b5⟩
 ·exact zaT B e.buy _
theorem Bk.Ok.lip {B : Bk} (ok : B.Ok) (e : Ent) (k : Int) : (B.lip e k).Ok:=by
 unfold Bk.lip
 split
 ·exact (ok.mod e _ _).out _
 ·exact ok.mod e _ _
theorem Bk.Pos.lip {B : Bk} (p : B.Pos) (ok : B.Ok) {e : Ent} (he : e ∈ B.at e.buy) {k : Int} (h1 : 1 ≤ k) (h2 : k ≤ e.left) : (B.lip e k).Pos:=by
 have pe:=p.ps _ e he
 unfold Bk.lip
 split
 ·exact ⟨fun b x hx => p.ps b x (zbj ok he _ _ hx).1⟩
 ·obtain ⟨z1,z2⟩:=zd7 (shows:=e.shows) (left:=e.left - k) (by omega) pe.2.2.2.2.2
  exact p.mod e z1 z2 (by omega)
theorem zcK {B : Bk} {e : Ent} (k : Int) : (B.lip e k).at (!e.buy) = B.at (!e.buy):=by
 unfold Bk.lip
 split
 ·exact (zaz _ _ _).trans (zaz _ _ _)
 ·exact zaz _ _ _
theorem lip_at {B : Bk} (ok : B.Ok) {e : Ent} {r : List Ent} {b : Bool} (h : B.at b = e :: r) (hb : e.buy = b) (k : Int) : (B.lip e k).at b = if e.left - k = 0 then r else e.as (e.left - k) (zaS e.shows (e.left - k)) :: r:=by
 subst hb
 have hn:=ok.nd e.buy
 rw [h] at hn
 have hm : ∀ s,(B.mod e (e.left - k) s).at e.buy = e.as (e.left - k) s :: r:=fun s => by
  unfold Bk.mod
  rw [zaH,h,zfC _ _ hn]
 unfold Bk.lip
 split
 ·exact ziV (hm e.shown) rfl
 ·exact hm _
theorem zhq {g : Ga} {B : Bk} (ok : B.Ok) {e : Ent} (he : e ∈ B.at e.buy) {k : Int} {x : Addr} (f : Foot g (B.lip e k) x) : Foot g B x:=by
 unfold Bk.lip at f
 split at f
 ·exact zbq (zbD (e:=e.as (e.left - k) e.shown) ((ok.mod e (e.left - k) e.shown).so _) (zaQ he (e.left - k) e.shown) f)
 ·exact zbq f
section
variable {P : Program} {w : World} {K : W.Frag} {mg : Str → Option Value} {base : Heap} {bo nt nn be sides ways : Addr} {c : Cs} {a : Ads} {d : Pds} {m : Mds} {n : Nds}
structure Uds where
 lessIn : Addr
 tradeAt : Addr
 uncross : Addr
 callPrice : Addr
 weighPrices : Addr
 leftBy : Addr
 weigh : Addr
 sumBy : Addr
structure UTxt (K : W.Frag) (mg : Str → Option Value) (u : Uds) : Prop where
 lessIn : Dn K "lessen_in_place" "lessen_in_place" zgp u.lessIn ["book","entry","many"]
 gLessIn : mg "lessen_in_place" = some (.ref u.lessIn)
 tradeAt : Dn K "trade_at" "trade_at" zeq u.tradeAt ["book","price","many"]
 gTradeAt : mg "trade_at" = some (.ref u.tradeAt)
 uncross : Dn K "uncross" "uncross" zep u.uncross ["book"]
 gUncross : mg "uncross" = some (.ref u.uncross)
 callPrice : Dn K "call_price" "call_price" zcY u.callPrice ["book"]
 gCallPrice : mg "call_price" = some (.ref u.callPrice)
 weighPrices : Dn K "weigh_prices" "weigh_prices" zb2 u.weighPrices ["book"]
 gWeighPrices : mg "weigh_prices" = some (.ref u.weighPrices)
 leftBy : Dn K "left_by_price" "left_by_price" zgq u.leftBy ["book","side"]
 gLeftBy : mg "left_by_price" = some (.ref u.leftBy)
 weigh : Dn K "weigh" "weigh" ziA u.weigh ["price","demand","supply","last_price"]
 gWeigh : mg "weigh" = some (.ref u.weigh)
 sumBy : Dn K "sum_by_price" "sum_by_price" sSum u.sumBy ["pairs"]
 gSumBy : mg "sum_by_price" = some (.ref u.sumBy)
variable {u : Uds}
theorem kShowA (C : CTxt K mg c) (F : FTxt K mg a c) : Kp P w K mg base 1 a.showA ["self"] (zil c):=F.showA.kp fun fd G => ziZ G C
theorem scLI : FnScope ["book","entry","many"] ["book","entry","many"] (zak zgp):=fsc
noncomputable def spLessIn (c : Cs) : Sp:=fun vs H Q _ => ∃ (g : Ga) (B : Bk) (e : Ent) (k : Int),vs = [.ref g.b,.ref e.ea,.int k] ∧ Rep c H g B ∧ B.Ok ∧ e ∈ B.at e.buy ∧
 ∀ H',Rep c H' g (B.lip e k) → (∃ dx l s rk,H' e.ea = some (.ins c.E dx (entF e.oa l s rk))) → (∀ x,x ≠ e.ea → x ≠ g.at e.buy → x ≠ g.de → H' x = H x) → Q .non H'
theorem kLessIn (C : CTxt K mg c) (F : FTxt K mg a c) (U : UTxt K mg u) : Kp P w K mg base 3 u.lessIn ["book","entry","many"] (spLessIn c):=U.lessIn.kp fun fd G => by
 obtain ⟨fd1,G1,b1,k1⟩:=zcN (P:=P) (w:=w) (base:=base) C F
 obtain ⟨fd2,G2,b2,k2⟩:=kShowA (P:=P) (w:=w) (base:=base) C F
 refine G.okN scLI (fun vs H Q E h => ?_) (fun cdv A outer s H vs Q E hr h => ?_)
 ·obtain ⟨_,_,_,_,rfl,_⟩:=h
  rfl
 ·obtain ⟨g,B,e,k,rfl,R,ok,he,q⟩:=h
  have hr1 : Room 1 _:=hr.mono (by decide)
  have hr2 : Room 2 _:=hr.mono (by decide)
  obtain ⟨⟨dx,hen⟩,⟨dy,hod⟩,hrk⟩:=R.en _ e he
  refine ⟨_,zac (zbw (pv 1) (pv 2) zho)
   (zaf (zaJ (zao za3 (zal (pv 1) rfl) zah (zat _)) (zaf (zaG (zaK (pv 0) C.clB F.mTakeOut G1 hr2 b1 .nil zaq (zaa (pv 1) zag))))
    (zaf (zaG (zbC (pv 1) C.clE F.mShow G2 hr1 b2 .nil zaq))))),?_⟩
  refine ⟨_,rfl,e.ea,c.E,dx,_,_,rfl,hen,C.clE,C.e2,rfl,_,rfl,_,_,rfl,rfl,dx,_,hen,(by show 4 < 1000; decide),?_⟩
  have R1 : Rep c (upd H e.ea (.ins c.E dx (entF e.oa (e.left - k) e.shown (.ref e.ra)))) g (B.mod e (e.left - k) e.shown):=zdx R ok he hen
  have ok1:=ok.mod e (e.left - k) e.shown
  have he1:=zaQ he (e.left - k) e.shown
  obtain ⟨dxb,hb1⟩:=id R1.ob
  obtain ⟨kvs,hkv1,_⟩:=id R1.de
  have hl1:=R1.ls
  have hen1 : upd H e.ea (.ins c.E dx (entF e.oa (e.left - k) e.shown (.ref e.ra))) e.ea = some (.ins c.E dx (entF e.oa (e.left - k) e.shown (.ref e.ra))):=zab
  refine (rX rfl (rA e.ea c.E dx rfl zab C.clE C.e2 rfl ⟨rfl,rX rfl ?_⟩))
  by_cases h0 : e.left - k = 0
  ·have dd : decide (V.int (e.left - k) = V.int 0) = true:=by simp [h0]
   refine zaD dd (rX rfl (rM g.b dxb rfl hb1 rfl (rX rfl ⟨g,_,e.as (e.left - k) e.shown,rfl,R1,ok1,he1,fun H2 R2 f2 => ?_⟩)))
   refine q H2 (by unfold Bk.lip; rw [if_pos h0]; exact R2) ⟨dx,_,_,_,(f2 e.ea (zan 1 5 hen1 (hl1 _)) (zan 1 6 hen1 hkv1)).trans hen1⟩ fun x n1 n2 n3 => ?_
   rw [f2 x n2 n3,zad n1]
  ·have dd : decide (V.int (e.left - k) = V.int 0) = false:=by simp [h0]
   refine zar dd (rX rfl ⟨e.ea,dx,rX rfl ⟨zab,rfl,e.ea,dx,e.oa,dy,e.left - k,e.shown,.ref e.ra,e.owner,zav e.buy,some e.price,e.many,e.shows,"rest",.int e.num,rfl,zab,?_,?_⟩⟩)
   ·rw [zad (zan 2 1 hod hen)]
    exact hod
   ·rw [zaR]
    exact q _ (by unfold Bk.lip; rw [if_neg h0]; exact zdx R ok he hen) ⟨dx,_,_,_,zab⟩ fun x n1 _ _ => zad n1
end
end Fb
namespace Fb
open PySem L2
noncomputable def za8 (b : Bool) (p : Int) (e : Ent) : Prop:=if b = true then p ≤ e.price else e.price ≤ p
noncomputable instance (b : Bool) (p : Int) (e : Ent) : Decidable (za8 b p e):=by unfold za8; exact inferInstance
noncomputable def cum (b : Bool) (p : Int) : List Ent → Int
 | [] => 0
 | e :: r => (if za8 b p e then e.left else 0) + cum b p r
noncomputable def tot : List Ent → Int
 | [] => 0
 | e :: r => e.left + tot r
theorem zbh {b : Bool} {p : Int} : ∀ {xs : List Ent},(∀ e ∈ xs,0 ≤ e.left) → 0 ≤ cum b p xs
 | [],_ => Int.le_refl _
 | e :: r,h => by
  have h1:=zbh (b:=b) (p:=p) (xs:=r) fun x hx => h x (List.mem_cons_of_mem _ hx)
  have h2:=h e List.mem_cons_self
  unfold cum
  split <;> omega
theorem zc4 {b : Bool} {p : Int} : ∀ {xs : List Ent},(∀ e ∈ xs,0 ≤ e.left) → cum b p xs ≤ tot xs
 | [],_ => Int.le_refl _
 | e :: r,h => by
  have h1:=zc4 (b:=b) (p:=p) (xs:=r) fun x hx => h x (List.mem_cons_of_mem _ hx)
  have h2:=h e List.mem_cons_self
  unfold cum tot
  split <;> omega
theorem zia : ∀ {xs : List Ent},(∀ e ∈ xs,e.left ≤ 10000) → tot xs ≤ 10000 * (xs.length : Int)
 | [],_ => by show (0 : Int) ≤ 10000 * (0 : Nat); omega
 | e :: r,h => by
  have h1:=zia (xs:=r) fun x hx => h x (List.mem_cons_of_mem _ hx)
  have h2:=h e List.mem_cons_self
  unfold tot
  rw [List.length_cons]
  omega
theorem zbU {b : Bool} {p : Int} {e : Ent} {r : List Ent} (g : za8 b p e) : cum b p (e :: r) = e.left + cum b p r:=by
 show (if za8 b p e then e.left else 0) + cum b p r = _
 rw [if_pos g]
theorem good_lt {b : Bool} {p : Int} {x y : Ent} (h : x.lt y) (hx : x.buy = b) (hy : y.buy = b) (g : za8 b p y) : za8 b p x:=by
 unfold za8 at g ⊢
 unfold Ent.lt klt Ent.k1 at h
 rw [hx,hy] at h
 cases b with
 | true =>
  have g : p ≤ y.price:=g
  show p ≤ x.price
  have h : -x.price < -y.price ∨ -x.price = -y.price ∧ x.place < y.place:=h
  omega
 | false =>
  have g : y.price ≤ p:=g
  show x.price ≤ p
  have h : x.price < y.price ∨ x.price = y.price ∧ x.place < y.place:=h
  omega
inductive Trs (p : Int) (B0 : Bk) (m0 : Int) : List (Int × Int × Int) → Bk → Int → Prop
 | nil : Trs p B0 m0 [] B0 m0
 | snoc {ts : List (Int × Int × Int)} {B : Bk} {st : Int} {x y : Ent} {r t : List Ent} : Trs p B0 m0 ts B st → 0 < st → B.buys = x :: r → B.sells = y :: t →
   Trs p B0 m0 (ts ++ [(x.num,y.num,mn3 x.left y.left st)]) (((B.lip x (mn3 x.left y.left st)).lip y (mn3 x.left y.left st)).noted p (mn3 x.left y.left st)) (st - mn3 x.left y.left st)
noncomputable def zcV (xs : List Ent) (k : Int) : List Ent:=match xs with
 | [] => []
 | e :: r => if e.left - k = 0 then r else e.as (e.left - k) (zaS e.shows (e.left - k)) :: r
theorem tot_step {e : Ent} {r : List Ent} (k : Int) : tot (zcV (e :: r) k) = tot (e :: r) - k:=by
 show tot (if e.left - k = 0 then r else e.as (e.left - k) (zaS e.shows (e.left - k)) :: r) = e.left + tot r - k
 split
 ·omega
 ·show e.left - k + tot r = _
  omega
theorem lip2_at {B : Bk} (ok : B.Ok) {x y : Ent} {r t : List Ent} (hx : B.buys = x :: r) (hy : B.sells = y :: t) (k : Int) (p : Int) (b : Bool) : (((B.lip x k).lip y k).noted p k).at b = zcV (B.at b) k:=by
 have bx : x.buy = true:=ok.sd true x (by show x ∈ B.buys; rw [hx]; exact List.mem_cons_self)
 have by' : y.buy = false:=ok.sd false y (by show y ∈ B.sells; rw [hy]; exact List.mem_cons_self)
 have h1 : (B.lip x k).at true = zcV B.buys k:=by rw [lip_at (b:=true) ok hx bx,hx]; rfl
 have h2 : (B.lip x k).at false = B.sells:=by
  have:=zcK (B:=B) (e:=x) k
  rw [bx] at this
  exact this
 show ((B.lip x k).lip y k).at b = _
 cases b with
 | true =>
  have:=zcK (B:=B.lip x k) (e:=y) k
  rw [by'] at this
  exact this.trans h1
 | false =>
  have:=lip_at (b:=false) (ok.lip x k) (h2.trans hy) by' k
  rw [this]
  show _ = zcV B.sells k
  rw [hy]
  rfl
theorem step_mem {xs : List Ent} {k : Int} {z : Ent} (h : z ∈ zcV xs k) : ∃ y ∈ xs,y.num = z.num ∧ y.price = z.price ∧ y.owner = z.owner ∧ y.buy = z.buy:=by
 cases xs with
 | nil => exact absurd h (by simp [zcV])
 | cons e r =>
  have h : z ∈ (if e.left - k = 0 then r else e.as (e.left - k) (zaS e.shows (e.left - k)) :: r):=h
  split at h
  ·exact ⟨z,List.mem_cons_of_mem _ h,rfl,rfl,rfl,rfl⟩
  ·rcases List.mem_cons.mp h with rfl | h
   ·exact ⟨e,List.mem_cons_self,rfl,rfl,rfl,rfl⟩
   ·exact ⟨z,List.mem_cons_of_mem _ h,rfl,rfl,rfl,rfl⟩
theorem zgU (xs : List Ent) (k : Int) : (zcV xs k).length ≤ xs.length:=by
 cases xs with
 | nil => exact Nat.le_refl _
 | cons e r =>
  show (if e.left - k = 0 then r else e.as (e.left - k) (zaS e.shows (e.left - k)) :: r).length ≤ _
  split
  ·exact Nat.le_succ _
  ·exact Nat.le_refl _
noncomputable def Eats (b : Bool) (xs0 xs : List Ent) (k : Int) : Prop:=∀ p e r,xs = e :: r → za8 b p e → cum b p xs0 = k + cum b p xs
theorem Eats.step {b : Bool} {xs0 : List Ent} {e : Ent} {r : List Ent} {k j : Int} (so : zbA (e :: r)) (sd : ∀ z ∈ e :: r,z.buy = b) (h : Eats b xs0 (e :: r) k) : Eats b xs0 (zcV (e :: r) j) (k + j):=by
 intro p z t hz g
 have hz' : (if e.left - j = 0 then r else e.as (e.left - j) (zaS e.shows (e.left - j)) :: r) = z :: t:=hz
 by_cases h0 : e.left - j = 0
 ·rw [if_pos h0] at hz'
  have hez : e.lt z:=(List.pairwise_cons.mp so).1 z (by rw [hz']; exact List.mem_cons_self)
  have ge : za8 b p e:=good_lt hez (sd e List.mem_cons_self) (sd z (List.mem_cons_of_mem _ (by rw [hz']; exact List.mem_cons_self))) g
  have h1:=h p e r rfl ge
  rw [zbU ge] at h1
  have : zcV (e :: r) j = r:=if_pos h0
  rw [this]
  omega
 ·rw [if_neg h0] at hz'
  injection hz' with q1 q2
  have ge : za8 b p e:=by rw [← q1] at g; exact g
  have h1:=h p e r rfl ge
  rw [zbU ge] at h1
  have : zcV (e :: r) j = e.as (e.left - j) (zaS e.shows (e.left - j)) :: r:=if_neg h0
  rw [this]
  have g' : za8 b p (e.as (e.left - j) (zaS e.shows (e.left - j))):=ge
  rw [zbU g']
  show cum b p xs0 = k + j + (e.left - j + cum b p r)
  omega
structure TrsOk (B0 : Bk) (m0 : Int) (ts : List (Int × Int × Int)) (B : Bk) (st : Int) : Prop where
 ok : B.Ok
 ps : B.Pos
 s0 : 0 ≤ st
 s1 : st ≤ m0
 tt : ∀ b,tot (B.at b) = tot (B0.at b) - (m0 - st)
 ea : ∀ b,Eats b (B0.at b) (B.at b) (m0 - st)
 ln : (ts.length : Int) ≤ m0 - st
 ca : B.came = B0.came
 cl : B.calling = B0.calling
 tl : B.buys.length + B.sells.length ≤ B0.buys.length + B0.sells.length
 nm : ∀ b,∀ x ∈ B.at b,∃ y ∈ B0.at b,y.num = x.num ∧ y.price = x.price ∧ y.owner = x.owner
theorem Trs.good {p : Int} {B0 : Bk} {m0 : Int} (ok0 : B0.Ok) (ps0 : B0.Pos) (h0 : 0 ≤ m0) {ts : List (Int × Int × Int)} {B : Bk} {st : Int} (h : Trs p B0 m0 ts B st) : TrsOk B0 m0 ts B st:=by
 induction h with
 | nil => exact ⟨ok0,ps0,h0,Int.le_refl _,fun b => by omega,fun b p e r _ _ => by omega,by show (0 : Int) ≤ _; omega,rfl,rfl,Nat.le_refl _,fun b x hx => ⟨x,hx,rfl,rfl,rfl⟩⟩
 | @snoc ts B st x y r t _ hs hx hy ih =>
  obtain ⟨ok,ps,s0,s1,tt,ea,ln,ca,cl,tl,nm⟩:=ih
  have mx : x ∈ B.at true:=by show x ∈ B.buys; rw [hx]; exact List.mem_cons_self
  have my : y ∈ B.at false:=by show y ∈ B.sells; rw [hy]; exact List.mem_cons_self
  have bx:=ok.sd true x mx
  have by':=ok.sd false y my
  have px:=ps.ps _ x mx
  have py:=ps.ps _ y my
  obtain ⟨k1,k2,k3⟩:=mn3_le x.left y.left st
  have k0 : 1 ≤ mn3 x.left y.left st:=zjc (by omega) (by omega) (by omega)
  have hat:=lip2_at ok hx hy (mn3 x.left y.left st) p
  generalize mn3 x.left y.left st = k at *
  have my2 : y ∈ (B.lip x k).at y.buy:=by
   rw [by']
   have:=zcK (B:=B) (e:=x) k
   rw [bx] at this
   rw [show (B.lip x k).at false = B.at false from this]
   exact my
  have he : ∀ b,∃ e l,B.at b = e :: l:=fun b => by
   cases b with
   | true => exact ⟨x,r,hx⟩
   | false => exact ⟨y,t,hy⟩
  obtain ⟨a1,_,a3,_⟩:=zji B x k
  obtain ⟨b1,_,b3,_⟩:=zji (B.lip x k) y k
  refine ⟨ziI ((ok.lip x k).lip y k) _ _,zgu ((ps.lip ok (by rw [bx]; exact mx) k0 k1).lip (ok.lip x k) my2 k0 k2) _ _,by omega,by omega,fun b => ?_,fun b => ?_,?_,(b1.trans a1).trans ca,(b3.trans a3).trans cl,?_,fun b z hz => ?_⟩
  ·obtain ⟨e,l,q⟩:=he b
   rw [hat,q,tot_step,← q,tt]
   omega
  ·obtain ⟨e,l,q⟩:=he b
   have h1:=ea b
   rw [q] at h1
   have h2 : Eats b (B0.at b) (zcV (e :: l) k) (m0 - st + k):=h1.step (by rw [← q]; exact ok.so b) (by rw [← q]; exact ok.sd b)
   rw [hat,q]
   rw [show m0 - (st - k) = m0 - st + k by omega]
   exact h2
  ·rw [List.length_append]
   show ((ts.length + 1 : Nat) : Int) ≤ _
   omega
  ·have h1 : (((B.lip x k).lip y k).noted p k).buys.length ≤ B.buys.length:=by
    have:=zgU B.buys k
    rw [show (((B.lip x k).lip y k).noted p k).buys = zcV B.buys k from hat true]
    exact this
   have h2 : (((B.lip x k).lip y k).noted p k).sells.length ≤ B.sells.length:=by
    have:=zgU B.sells k
    rw [show (((B.lip x k).lip y k).noted p k).sells = zcV B.sells k from hat false]
    exact this
   omega
  ·rw [hat] at hz
   obtain ⟨z1,hz1,q1,q2,q3,_⟩:=step_mem hz
   obtain ⟨z2,hz2,w1,w2,w3⟩:=nm b z1 hz1
   exact ⟨z2,hz2,w1.trans q1,w2.trans q2,w3.trans q3⟩
end Fb
namespace Fb
open PySem L2
noncomputable def TvOk (p : Int) (H : Hp) : List V → List (Int × Int × Int) → Prop:=Paired fun v t => ∃ a,v = .ref a ∧ H a = some (.tup [.str "trade",.int t.1,.int t.2.1,.int p,.int t.2.2])
theorem zh9 {xs : List Ent} {k : Int} (h : k ≤ tot xs) (hk : 0 < k) : ∃ e r,xs = e :: r:=by
 cases xs with
 | nil =>
  have h : k ≤ 0:=h
  omega
 | cons e r => exact ⟨e,r,rfl⟩
section
variable {P : Program} {w : World} {K : W.Frag} {mg : Str → Option Value} {base : Heap} {bo nt nn be sides ways : Addr} {c : Cs} {a : Ads} {d : Pds} {m : Mds} {n : Nds} {u : Uds}
theorem scTA : FnScope ["book","price","many","trades","still","buyer","seller","traded"] ["book","price","many"] (zak zeq):=fsc
noncomputable def zih (c : Cs) : Sp:=fun vs H Q _ => ∃ (g : Ga) (B : Bk) (p many : Int),vs = [.ref g.b,.int p,.int many] ∧ Rep c H g B ∧ B.Ok ∧ B.Pos ∧ 0 ≤ many ∧ (∀ b,many ≤ tot (B.at b)) ∧ many ≤ 5000000 ∧
 ∀ (ts : List (Int × Int × Int)) (B' : Bk) (l : Addr) (tv : List V) (H' : Hp),Trs p B many ts B' 0 → Rep c H' g B' → H' l = some (.lst tv) → TvOk p H' tv ts → (∀ x o,H x = some o → ¬ Foot g B x → H' x = some o) → (∀ x,Foot g B' x → Foot g B x) → H l = none → Q (.ref l) H'
theorem kTradeAt (C : CTxt K mg c) (F : FTxt K mg a c) (U : UTxt K mg u) : Kp P w K mg base 4 u.tradeAt ["book","price","many"] (zih c):=U.tradeAt.kp fun fd G => by
 obtain ⟨fd1,G1,b1,k1⟩:=kFirst (P:=P) (w:=w) (base:=base) C F
 obtain ⟨fd2,G2,b2,k2⟩:=kLessIn (P:=P) (w:=w) (base:=base) C F U
 obtain ⟨fd3,G3,b3,k3⟩:=zjo (P:=P) (w:=w) (base:=base) C F
 refine G.okN scTA (fun vs H Q E h => ?_) (fun cdv A outer s H vs Q E hr h => ?_)
 ·obtain ⟨_,_,_,_,rfl,_⟩:=h
  rfl
 ·obtain ⟨g,B,p,many,rfl,R,ok,ps,hm0,hmt,hmx,q⟩:=h
  have hr1 : Room 1 _:=hr.mono (by decide)
  refine ⟨_,zac (zap (i:=3) scTA.nd rfl (Or.inl rfl) (zbg zag))
   (zac (zap (i:=4) scTA.nd rfl (Or.inl rfl) (pv 2))
   (zac (zeJ PassesOwn.never (zao ziX (pv 4) zah (zat _))
    (zac (zap (i:=5) scTA.nd rfl (Or.inl rfl) (zaK (pv 0) C.clB F.mFirst G1 hr1 b1 .nil zaq (zaa zam zag)))
    (zac (zap (i:=6) scTA.nd rfl (Or.inl rfl) (zaK (pv 0) C.clB F.mFirst G1 hr1 b1 .nil zaq (zaa zam zag)))
    (zac (zap (i:=7) scTA.nd rfl (Or.inl rfl) (zaE (zj2 rfl) (by rfl) C.min (by decide +kernel) (zaa (zal (pv 5) rfl) (zaa (zal (pv 6) rfl) (zaa (pv 4) zag)))))
    (zac (zaG (zas G2 hr rfl U.gLessIn k2 b2 .nil zaq (zaa (pv 0) (zaa (pv 5) (zaa (pv 7) zag)))))
    (zac (zaG (zas G2 hr rfl U.gLessIn k2 b2 .nil zaq (zaa (pv 0) (zaa (pv 6) (zaa (pv 7) zag)))))
    (zac (zaG (zaK (pv 0) C.clB F.mRecord G3 hr1 b3 .nil zaq (zaa (pv 1) (zaa (pv 7) zag))))
    (zac (zg5 (i:=4) scTA.nd rfl (Or.inl rfl) (pv 7) ip_sub)
    (zaf (zaG (zgx PySem.F.plainAttrs_list PySem.F.slot_list_append PySem.F.type_list_append zdG (pv 3) (zaa (zby (zaa zam (zaa (zal (zal (pv 5) rfl) rfl) (zaa (zal (zal (pv 6) rfl) rfl) (zaa (pv 1) (zaa (pv 7) zag)))))) zag)))))))))))
   )
   (zaf (zaw (pv 3))))),?_⟩
  refine ⟨(by rw [sizeLine_eq]; show 0 ≤ 16777216; decide),fun l hl => ?_⟩
  have s1 : Same H (upd H l (.lst [])):=zai hl
  have nfl : ¬ Foot g B l:=fun f => by
   obtain ⟨v,hv⟩:=zbl R f
   rw [hl] at hv
   cases hv
  refine (rX rfl ?_)
  refine ⟨fun μ σ H' => ∃ (ts : List (Int × Int × Int)) (B1 : Bk) (st : Int) (tv : List V) (z1 z2 z3 : Option V),σ = [some (.ref g.b),some (.int p),some (.int many),some (.ref l),some (.int st),z1,z2,z3] ∧ Trs p B many ts B1 st ∧ Rep c H' g B1 ∧ H' l = some (.lst tv) ∧ TvOk p H' tv ts ∧
    (∀ x o,H x = some o → ¬ Foot g B x → H' x = some o) ∧ (∀ x,Foot g B1 x → Foot g B x) ∧ μ = st.toNat,
   ⟨_,[],B,many,[],none,none,none,rfl,.nil,Same.rep s1 R,zab,.nil,fun x o hx _ => s1 x o hx,fun _ f => f,rfl⟩,?_⟩
  rintro μ σ H' ⟨ts,B1,st,tv,z1,z2,z3,rfl,met,R1,l1,tv1,f1,ft1,rfl⟩
  obtain ⟨ok1,ps1,t0,t1,ht,_,hln,_⟩:=met.good ok ps hm0
  refine (rX rfl (r2 rfl rfl (rX rfl ?_)))
  by_cases hst : 0 < st
  rotate_left
  ·refine zar (decide_eq_false hst) (rX rfl ?_)
   have e0 : st = 0:=by omega
   subst e0
   exact q ts B1 l tv H' met R1 l1 tv1 f1 ft1 hl
  refine zaD (decide_eq_true hst) ⟨_,fun _ _ h => h,?_⟩
  obtain ⟨x,r,hx⟩:=zh9 (xs:=B1.buys) (k:=st) (by have:=ht true; have:=hmt true; show st ≤ tot (B1.at true); omega) hst
  obtain ⟨y,t,hy⟩:=zh9 (xs:=B1.sells) (k:=st) (by have:=ht false; have:=hmt false; show st ≤ tot (B1.at false); omega) hst
  have mx : x ∈ B1.at true:=by show x ∈ B1.buys; rw [hx]; exact List.mem_cons_self
  have my : y ∈ B1.at false:=by show y ∈ B1.sells; rw [hy]; exact List.mem_cons_self
  have bx:=ok1.sd true x mx
  have by':=ok1.sd false y my
  have ex:=R1.en true x mx
  have ey:=R1.en false y my
  have nxy : x.ea ≠ y.ea:=fun z => ok1.nx x mx y my (EntOk.ea_num ex ey z)
  obtain ⟨⟨dx,hxe⟩,⟨dx2,hxo⟩,_⟩:=ex
  obtain ⟨⟨dy,hye⟩,⟨dy2,hyo⟩,_⟩:=ey
  obtain ⟨dxb,hb⟩:=id R1.ob
  obtain ⟨kvs,hkv,_⟩:=id R1.de
  have px:=ps1.ps _ x mx
  have py:=ps1.ps _ y my
  refine (rX rfl (rM g.b dxb rfl hb rfl ⟨g,B1,true,rfl,R1,?_⟩))
  rw [show zfS (B1.at true) = .ref x.ea by show zfS B1.buys = _; rw [hx]; rfl]
  refine (rX rfl (rM g.b dxb rfl hb rfl ⟨g,B1,false,rfl,R1,?_⟩))
  rw [show zfS (B1.at false) = .ref y.ea by show zfS B1.sells = _; rw [hy]; rfl]
  refine (rX rfl (rA x.ea c.E dx rfl hxe C.clE C.e2 rfl (rX rfl (rA y.ea c.E dy rfl hye C.clE C.e2 rfl (rX rfl ⟨x.left,y.left,st,rfl,?_⟩)))))
  have met2:=Trs.snoc met hst hx hy
  obtain ⟨k1',k2',k3'⟩:=mn3_le x.left y.left st
  have k0 : 1 ≤ mn3 x.left y.left st:=zjc (by omega) (by omega) (by omega)
  generalize mn3 x.left y.left st = k at *
  refine (rX rfl (rX rfl (rX rfl ⟨g,B1,x,k,rfl,R1,ok1,by rw [bx]; exact mx,fun H2 R2 ⟨dx',lx',sx',rx',hx2⟩ f2 => ?_⟩)))
  rw [bx] at f2
  have my2 : y ∈ (B1.lip x k).at y.buy:=by
   rw [by']
   have:=zcK (B:=B1) (e:=x) k
   rw [bx] at this
   rw [show (B1.lip x k).at false = B1.at false from this]
   exact my
  have c2 : ∀ {z : Addr} {v : HO} (i : Nat),H' z = some v → kd v = i → i ≠ 1 → i ≠ 5 → i ≠ 6 → H2 z = some v:=fun {z v} i hz hi n1 n5 n6 => by
   rw [f2 z (zan i 1 hz hxe hi rfl n1) (zan i 5 hz (R1.ls true) hi rfl n5) (zan i 6 hz hkv hi rfl n6)]
   exact hz
  have hl2 : H2 l = some (.lst tv):=by
   rw [f2 l (zan 5 1 l1 hxe) (fun z => nfl (ft1 _ (by rw [z]; exact zb9 g B1 true))) (zan 5 6 l1 hkv)]
   exact l1
  have hye2 : H2 y.ea = some (.ins c.E dy (entF y.oa y.left y.shown (.ref y.ra))):=by
   rw [f2 y.ea nxy.symm (zan 1 5 hye (R1.ls true)) (zan 1 6 hye hkv)]
   exact hye
  refine (rX rfl (rX rfl (rX rfl ⟨g,B1.lip x k,y,k,rfl,R2,ok1.lip x k,my2,fun H3 R3 ⟨dy',ly',sy',ry',hy3⟩ f3 => ?_⟩)))
  rw [by'] at f3
  obtain ⟨kvs2,hkv2,_⟩:=id R2.de
  have c3 : ∀ {z : Addr} {v : HO} (i : Nat),H2 z = some v → kd v = i → i ≠ 1 → i ≠ 5 → i ≠ 6 → H3 z = some v:=fun {z v} i hz hi n1 n5 n6 => by
   rw [f3 z (zan i 1 hz hye2 hi rfl n1) (zan i 5 hz (R2.ls false) hi rfl n5) (zan i 6 hz hkv2 hi rfl n6)]
   exact hz
  have hl3 : H3 l = some (.lst tv):=by
   rw [f3 l (zan 5 1 hl2 hye2) (fun z => nfl (ft1 _ (by rw [z]; exact zb9 g B1 false))) (zan 5 6 hl2 hkv2)]
   exact hl2
  have hx3 : H3 x.ea = some (.ins c.E dx' (entF x.oa lx' sx' rx')):=by
   rw [f3 x.ea nxy (zan 1 5 hx2 (R2.ls false)) (zan 1 6 hx2 hkv2)]
   exact hx2
  obtain ⟨dxb3,hb3⟩:=id R3.ob
  refine (rX rfl (rM g.b dxb3 rfl hb3 rfl (rX rfl (rX rfl ⟨g,_,p,k,rfl,R3,fun H4 R4 f4 => ?_⟩))))
  have c4 : ∀ {z : Addr} {v : HO} (i : Nat),H3 z = some v → kd v = i → i ≠ 3 → H4 z = some v:=fun {z v} i hz hi n3 => by
   rw [f4 z (zan i 3 hz hb3 hi rfl n3)]
   exact hz
  have hl4:=c4 5 hl3 rfl (by decide)
  have hx4:=c4 1 hx3 rfl (by decide)
  have hy4:=c4 1 hy3 rfl (by decide)
  have hxo4:=c4 2 (c3 2 (c2 2 hxo rfl (by decide) (by decide) (by decide)) rfl (by decide) (by decide) (by decide)) rfl (by decide)
  have hyo4:=c4 2 (c3 2 (c2 2 hyo rfl (by decide) (by decide) (by decide)) rfl (by decide) (by decide) (by decide)) rfl (by decide)
  refine (rX rfl (rX rfl (r2 rfl rfl ?_)))
  refine (rX rfl ⟨.inl ⟨rfl,_,SqL.of hl4⟩,rX rfl (rA x.ea c.E dx' rfl hx4 C.clE C.e1 rfl (rA x.oa c.O dx2 rfl hxo4 C.clO C.o7 rfl (rX rfl (rA y.ea c.E dy' rfl hy4 C.clE C.e1 rfl (rA y.oa c.O dy2 rfl hyo4 C.clO C.o7 rfl (rX rfl (rX rfl ⟨(by rw [sizeLine_eq]; show 5 ≤ 16777216; decide),fun tp htp => ?_⟩)))))))⟩)
  have s5 : Same H4 (upd H4 tp (.tup [.str "trade",.int x.num,.int y.num,.int p,.int k])):=zai htp
  have hlen : tv.length < sizeLine:=by
   have:=Paired.len tv1
   rw [sizeLine_eq]
   omega
  refine ⟨l,tv,.ref tp,rfl,rfl,s5 _ _ hl4,hlen,?_⟩
  have ftl : ∀ z,Foot g (((B1.lip x k).lip y k).noted p k) z → Foot g B1 z:=fun z f => zhq ok1 (by rw [bx]; exact mx) (zhq (ok1.lip x k) my2 f)
  have R5 : Rep c (upd H4 tp (.tup [.str "trade",.int x.num,.int y.num,.int p,.int k])) g (((B1.lip x k).lip y k).noted p k):=Same.rep s5 R4
  have R6 : Rep c (upd (upd H4 tp (.tup [.str "trade",.int x.num,.int y.num,.int p,.int k])) l (.lst (tv ++ [.ref tp]))) g (((B1.lip x k).lip y k).noted p k):=zeC R5 (s5 _ _ hl4) fun f => nfl (ft1 _ (ftl _ f))
  have c6 : ∀ {z : Addr} {v : HO},H4 z = some v → kd v = 7 → upd (upd H4 tp (.tup [.str "trade",.int x.num,.int y.num,.int p,.int k])) l (.lst (tv ++ [.ref tp])) z = some v:=fun {z v} hz hi => by
   rw [zad (zan 7 5 hz hl4 hi rfl (by decide))]
   exact s5 _ _ hz
  refine ⟨(st - k).toNat,by omega,ts ++ [(x.num,y.num,k)],_,st - k,tv ++ [.ref tp],_,_,_,rfl,met2,R6,zab,Paired.snoc ⟨tp,rfl,?_⟩ (Paired.mapP tv1 fun v e ⟨z,h1,h2⟩ => ⟨z,h1,c6 (c4 7 (c3 7 (c2 7 h2 rfl (by decide) (by decide) (by decide)) rfl (by decide) (by decide) (by decide)) rfl (by decide)) rfl⟩),fun z o hz nf => ?_,fun z f => ft1 z (ftl z f),rfl⟩
  ·rw [zad (zae hl4 htp).symm]
   exact zab
  ·have h1:=f1 z o hz nf
   have n1 : ¬ Foot g B1 z:=fun f => nf (ft1 z f)
   have zx : z ≠ x.ea:=fun e => n1 (.inr (.inr (.inr (.inr (.inr ⟨true,x,mx,e⟩)))))
   have zy : z ≠ y.ea:=fun e => n1 (.inr (.inr (.inr (.inr (.inr ⟨false,y,my,e⟩)))))
   have zd : z ≠ g.de:=fun e => n1 (.inr (.inr (.inr (.inr (.inl e)))))
   have za : ∀ b,z ≠ g.at b:=fun b e => n1 (by rw [e]; exact zb9 g B1 b)
   have zb : z ≠ g.b:=fun e => n1 (.inl e)
   have h4 : H4 z = some o:=by rw [f4 z zb,f3 z zy (za false) zd,f2 z zx (za true) zd]; exact h1
   rw [zad (zae hz hl)]
   exact s5 _ _ h4
end
end Fb
namespace Fb
open PySem L2
noncomputable def addT : List (Int × Int) → Int → Int → List (Int × Int)
 | [],p,k => [(p,k)]
 | t :: r,p,k => if t.1 = p then (t.1,t.2 + k) :: r else t :: addT r p k
noncomputable def sumT (ps : List (Int × Int)) : List (Int × Int):=ps.foldl (fun T t => addT T t.1 t.2) []
noncomputable def zaF (pr : Int → Bool) : List (Int × Int) → Int
 | [] => 0
 | t :: r => (if pr t.1 = true then t.2 else 0) + zaF pr r
noncomputable def getT : List (Int × Int) → Int → Option Int
 | [],_ => none
 | t :: r,p => if t.1 = p then some t.2 else getT r p
noncomputable def fT (t : Int × Int) : Key × V:=(Sum.inl t.1,.int t.2)
theorem zfi (pr : Int → Bool) (p k : Int) : ∀ T : List (Int × Int),zaF pr (addT T p k) = zaF pr T + (if pr p = true then k else 0)
 | [] => by
  show (if pr p = true then k else 0) + 0 = 0 + _
  omega
 | t :: r => by
  unfold addT
  by_cases h : t.1 = p
  ·rw [if_pos h]
   show (if pr t.1 = true then t.2 + k else 0) + zaF pr r = (if pr t.1 = true then t.2 else 0) + zaF pr r + _
   rw [h]
   split <;> omega
  ·rw [if_neg h]
   show (if pr t.1 = true then t.2 else 0) + zaF pr (addT r p k) = (if pr t.1 = true then t.2 else 0) + zaF pr r + _
   rw [zfi pr p k r]
   omega
theorem zd6 (pr : Int → Bool) : ∀ (ps T : List (Int × Int)),zaF pr (ps.foldl (fun T t => addT T t.1 t.2) T) = zaF pr T + zaF pr ps
 | [],T => by
  show zaF pr T = zaF pr T + 0
  omega
 | t :: r,T => by
  show zaF pr (r.foldl (fun T t => addT T t.1 t.2) (addT T t.1 t.2)) = zaF pr T + ((if pr t.1 = true then t.2 else 0) + zaF pr r)
  rw [zd6 pr r,zfi]
  omega
theorem zd4 (pr : Int → Bool) (ps : List (Int × Int)) : zaF pr (sumT ps) = zaF pr ps:=by
 unfold sumT
 rw [zd6]
 show 0 + _ = _
 omega
theorem ze0 (p k q : Int) : ∀ T : List (Int × Int),q ∈ (addT T p k).map (·.1) ↔ q = p ∨ q ∈ T.map (·.1)
 | [] => by simp [addT]
 | t :: r => by
  unfold addT
  by_cases h : t.1 = p
  ·rw [if_pos h]
   show q ∈ t.1 :: r.map (·.1) ↔ q = p ∨ q ∈ t.1 :: r.map (·.1)
   rw [List.mem_cons,h]
   constructor
   ·intro z
    exact .inr z
   ·rintro (z | z)
    ·exact .inl z
    ·exact z
  ·rw [if_neg h]
   show q ∈ t.1 :: (addT r p k).map (·.1) ↔ q = p ∨ q ∈ t.1 :: r.map (·.1)
   rw [List.mem_cons,ze0 p k q r,List.mem_cons]
   constructor
   ·rintro (z | z | z)
    ·exact .inr (.inl z)
    ·exact .inl z
    ·exact .inr (.inr z)
   ·rintro (z | z | z)
    ·exact .inr (.inl z)
    ·exact .inl z
    ·exact .inr (.inr z)
theorem nd_add (p k : Int) : ∀ {T : List (Int × Int)},(T.map (·.1)).Nodup → ((addT T p k).map (·.1)).Nodup
 | [],_ => by simp [addT]
 | t :: r,h => by
  have h : (t.1 :: r.map (·.1)).Nodup:=h
  obtain ⟨h1,h2⟩:=List.nodup_cons.mp h
  unfold addT
  by_cases e : t.1 = p
  ·rw [if_pos e]
   exact h
  ·rw [if_neg e]
   show (t.1 :: (addT r p k).map (·.1)).Nodup
   refine List.nodup_cons.mpr ⟨fun z => ?_,nd_add p k h2⟩
   rcases (ze0 p k t.1 r).mp z with z | z
   ·exact e z
   ·exact h1 z
theorem zi4 : ∀ (ps : List (Int × Int)) {T : List (Int × Int)},(T.map (·.1)).Nodup → ((ps.foldl (fun T t => addT T t.1 t.2) T).map (·.1)).Nodup
 | [],_,h => h
 | t :: r,_,h => zi4 r (nd_add t.1 t.2 h)
theorem zeR (ps : List (Int × Int)) : ((sumT ps).map (·.1)).Nodup:=zi4 ps List.nodup_nil
theorem zfI (q : Int) : ∀ (ps T : List (Int × Int)),q ∈ (ps.foldl (fun T t => addT T t.1 t.2) T).map (·.1) ↔ q ∈ T.map (·.1) ∨ q ∈ ps.map (·.1)
 | [],T => by simp
 | t :: r,T => by
  show q ∈ (r.foldl (fun T t => addT T t.1 t.2) (addT T t.1 t.2)).map (·.1) ↔ q ∈ T.map (·.1) ∨ q ∈ t.1 :: r.map (·.1)
  rw [zfI q r,ze0,List.mem_cons]
  constructor
  ·rintro ((z | z) | z)
   ·exact .inr (.inl z)
   ·exact .inl z
   ·exact .inr (.inr z)
  ·rintro (z | z | z)
   ·exact .inl (.inr z)
   ·exact .inl (.inl z)
   ·exact .inr z
theorem zcM (q : Int) (ps : List (Int × Int)) : q ∈ (sumT ps).map (·.1) ↔ q ∈ ps.map (·.1):=by
 unfold sumT
 rw [zfI]
 simp
theorem zjk (p k : Int) : ∀ T : List (Int × Int),(addT T p k).length ≤ T.length + 1
 | [] => Nat.le_refl _
 | t :: r => by
  unfold addT
  split
  ·exact Nat.le_succ _
  ·exact Nat.succ_le_succ (zjk p k r)
theorem zhi : ∀ (ps T : List (Int × Int)),(ps.foldl (fun T t => addT T t.1 t.2) T).length ≤ T.length + ps.length
 | [],T => Nat.le_refl _
 | t :: r,T => by
  have h1:=zhi r (addT T t.1 t.2)
  have h2:=zjk t.1 t.2 T
  show (r.foldl (fun T t => addT T t.1 t.2) (addT T t.1 t.2)).length ≤ T.length + (r.length + 1)
  omega
theorem zeW (ps : List (Int × Int)) : (sumT ps).length ≤ ps.length:=by
 have:=zhi ps []
 unfold sumT
 have e : ([] : List (Int × Int)).length = 0:=rfl
 omega
theorem zjE (q : Int) : ∀ {T : List (Int × Int)},(T.map (·.1)).Nodup → (getT T q).getD 0 = zaF (fun p => decide (p = q)) T
 | [],_ => rfl
 | t :: r,h => by
  have h : (t.1 :: r.map (·.1)).Nodup:=h
  obtain ⟨h1,h2⟩:=List.nodup_cons.mp h
  unfold getT zaF
  by_cases e : t.1 = q
  ·rw [if_pos e,if_pos (decide_eq_true e)]
   have z : ∀ l : List (Int × Int),q ∉ l.map (·.1) → zaF (fun p => decide (p = q)) l = 0:=fun l => by
    induction l with
    | nil => intro _; rfl
    | cons x y ih =>
     intro hx
     have hx : q ∉ x.1 :: y.map (·.1):=hx
     unfold zaF
     rw [ih fun w => hx (List.mem_cons_of_mem _ w),if_neg (fun w => hx (by rw [← of_decide_eq_true w]; exact List.mem_cons_self))]
     rfl
   rw [z r (by rw [← e]; exact h1)]
   show t.2 = t.2 + 0
   omega
  ·rw [if_neg e,if_neg (fun w => e (of_decide_eq_true w)),zjE q h2]
   omega
theorem zcq {pr pr' : Int → Bool} : ∀ {T : List (Int × Int)},(∀ t ∈ T,pr t.1 = pr' t.1) → zaF pr T = zaF pr' T
 | [],_ => rfl
 | t :: r,h => by
  unfold zaF
  rw [h t List.mem_cons_self,zcq fun x hx => h x (List.mem_cons_of_mem _ hx)]
theorem zd5 {l : List Int} {q : Int} (h : q ∉ l) : ∀ T : List (Int × Int),zaF (fun p => decide (p ∈ l ++ [q])) T = zaF (fun p => decide (p ∈ l)) T + zaF (fun p => decide (p = q)) T
 | [] => rfl
 | t :: r => by
  unfold zaF
  rw [zd5 h r]
  by_cases e : t.1 = q
  ·rw [if_pos (by simp [e]),if_neg (by simp [e,h]),if_pos (by simp [e])]
   omega
  ·by_cases e2 : t.1 ∈ l
   ·rw [if_pos (by simp [e2]),if_pos (by simp [e2]),if_neg (by simp [e])]
    omega
   ·rw [if_neg (by simp [e,e2]),if_neg (by simp [e2]),if_neg (by simp [e])]
    omega
theorem zfh (pr : Int → Bool) : ∀ T : List (Int × Int),zaF (fun p => !pr p) T = zaF (fun _ => true) T - zaF pr T
 | [] => rfl
 | t :: r => by
  unfold zaF
  rw [zfh pr r]
  cases pr t.1 <;> simp <;> omega
theorem zh5 (q : Int) : ∀ T : List (Int × Int),valV (T.map fT) (Sum.inl q) = (getT T q).map V.int
 | [] => rfl
 | t :: r => by
  unfold getT
  by_cases e : t.1 = q
  ·rw [if_pos e,List.map_cons,zaZ (by show (Sum.inl t.1 : Key) = Sum.inl q; rw [e])]
   rfl
  ·rw [if_neg e,List.map_cons,zaU (by show ¬ (Sum.inl t.1 : Key) = Sum.inl q; exact fun z => e (Sum.inl.inj z)),zh5 q r]
theorem putK_ne {x : Key × V} {xs : List (Key × V)} {k : Key} {v : V} (h : ¬ x.1 = k) : putK (x :: xs) k v = x :: putK xs k v:=by
 unfold putK
 rw [List.any_cons,decide_eq_false h,Bool.false_or]
 split
 ·rw [List.map_cons,if_neg h]
 ·rfl
theorem put_fT (p k : Int) : ∀ {T : List (Int × Int)},(T.map (·.1)).Nodup → putK (T.map fT) (Sum.inl p) (.int ((getT T p).getD 0 + k)) = (addT T p k).map fT
 | [],_ => by
  show [(Sum.inl p,V.int (0 + k))] = [fT (p,k)]
  rw [Int.zero_add]
  rfl
 | t :: r,h => by
  have h : (t.1 :: r.map (·.1)).Nodup:=h
  obtain ⟨h1,h2⟩:=List.nodup_cons.mp h
  unfold getT addT
  by_cases e : t.1 = p
  ·rw [if_pos e,if_pos e]
   show putK (fT t :: r.map fT) (Sum.inl p) (.int (t.2 + k)) = fT (t.1,t.2 + k) :: r.map fT
   unfold putK
   have e1 : (fT t).1 = Sum.inl p:=by show (Sum.inl t.1 : Key) = Sum.inl p; rw [e]
   rw [List.any_cons,decide_eq_true e1,Bool.true_or,if_pos rfl,List.map_cons,if_pos e1]
   congr 1
   have z : ∀ l : List (Int × Int),p ∉ l.map (·.1) → (l.map fT).map (fun kv => if kv.1 = Sum.inl p then (kv.1,V.int (t.2 + k)) else kv) = l.map fT:=fun l => by
    induction l with
    | nil => intro _; rfl
    | cons x y ih =>
     intro hx
     have hx : p ∉ x.1 :: y.map (·.1):=hx
     rw [List.map_cons,List.map_cons,ih fun w => hx (List.mem_cons_of_mem _ w),if_neg]
     intro w
     have w : (Sum.inl x.1 : Key) = Sum.inl p:=w
     exact hx (by rw [← Sum.inl.inj w]; exact List.mem_cons_self)
   exact z r (by rw [← e]; exact h1)
  ·rw [if_neg e,if_neg e]
   show putK (fT t :: r.map fT) (Sum.inl p) _ = fT t :: (addT r p k).map fT
   rw [putK_ne (by show ¬ (Sum.inl t.1 : Key) = Sum.inl p; exact fun z => e (Sum.inl.inj z)),put_fT p k h2]
end Fb
namespace L2
open PySem PySem.Spec PyProof.Rows
theorem zhX {K : W.Frag} {n : Nat} {a : Addr} {xs : List V} {g : TG} {te : TE} {Q : VK} {H : Hp} (Pv : Nat → List V → Hp → Prop) (h0 : Pv 0 [] H) (hl : ∀ i ys H,i ≤ xs.length → Pv i ys H → SqL K H a xs ∧ ys.length ≤ sizeLine)
  (hs : ∀ (i : Nat) (x : V) ys H,xs[i]? = some x → Pv i ys H → ∀ R1 : V → Hp → Prop,(∀ y H4,Pv (i + 1) (ys ++ [y]) H4 → R1 y H4) → g x (List.replicate n none) H fun σ2 H2 => te σ2 H2 R1)
  (hg : ∀ x σ H (R R' : St → Hp → Prop),(∀ σ H,R σ H → R' σ H) → g x σ H R → g x σ H R')
  (hq : ∀ ys H,Pv xs.length ys H → ∀ p,H p = none → Q (.ref p) (upd H p (.lst ys))) :
  ∃ W : Nat → Nat → List V → Hp → Prop,(∃ m,W 0 m [] H) ∧ ∀ i m ys H,W i m ys H → ys.length ≤ sizeLine ∧
   (((Itl K a).stop i H ∧ ∀ p,H p = none → Q (.ref p) (upd H p (.lst ys))) ∨
    ((Itl K a).go i H ∧ ∀ x H',(Itl K a).yld i H x H' → g x (List.replicate n none) H' fun σ2 H2 => tYes σ2 H2 fun b H3 => if b = true then te σ2 H3 fun y H4 => ∃ m',m' < m ∧ W (i + 1) m' (ys ++ [y]) H4 else ∃ m',m' < m ∧ W (i + 1) m' ys H3)):=by
 refine ⟨fun i m ys H => m = xs.length - i ∧ i ≤ xs.length ∧ Pv i ys H,⟨xs.length,by simp,Nat.zero_le _,h0⟩,?_⟩
 rintro i m ys H ⟨rfl,hi,p⟩
 obtain ⟨q1,q2⟩:=hl i ys H hi p
 refine ⟨q2,?_⟩
 by_cases hlt : i < xs.length
 ·refine .inr ⟨⟨xs,xs[i],q1,by simp [hlt]⟩,fun x H' y => ?_⟩
  obtain ⟨e,y⟩:=y
  subst e
  refine hg _ _ _ _ _ (fun σ2 H2 h => ?_) (hs i x ys _ (y xs q1) p (fun y H4 => ∃ m',m' < xs.length - i ∧ m' = xs.length - (i + 1) ∧ i + 1 ≤ xs.length ∧ Pv (i + 1) (ys ++ [y]) H4) fun y H4 h4 => ⟨_,by omega,rfl,hlt,h4⟩)
  dsimp only [tYes]
  rw [if_pos rfl]
  exact h
 ·have e : i = xs.length:=by omega
  subst e
  exact .inl ⟨⟨xs,q1,Nat.le_refl _⟩,hq ys H p⟩
end L2
namespace Fb
open PySem L2
noncomputable abbrev zcy (H : Hp) : List V → List (Int × Int) → Prop:=Paired fun v t => ∃ a,v = .ref a ∧ H a = some (.tup [.int t.1,.int t.2])
theorem Paired.get {α β : Type} {F : α → β → Prop} : ∀ {xs : List α} {ys : List β},Paired F xs ys → ∀ {i : Nat} {x : α},xs[i]? = some x → ∃ y,ys[i]? = some y ∧ F x y
 | _,_,.nil,i,x,h => by simp at h
 | _,_,.cons a r,i,x,h => by
  cases i with
  | zero =>
   have e:=h
   simp at e
   subst e
   exact (rX rfl a)
  | succ i =>
   have e:=h
   simp at e
   obtain ⟨y,h1,h2⟩:=Paired.get r e
   exact ⟨y,by simpa using h1,h2⟩
theorem zb1 {α : Type} {xs : List α} {i : Nat} {x : α} (h : xs[i]? = some x) : xs.take (i + 1) = xs.take i ++ [x]:=by
 rw [List.take_add_one,h]
 rfl
theorem zif (ps : List (Int × Int)) (t : Int × Int) : sumT (ps ++ [t]) = addT (sumT ps) t.1 t.2:=by
 unfold sumT
 rw [List.foldl_append]
 rfl
section
variable {P : Program} {w : World} {K : W.Frag} {mg : Str → Option Value} {base : Heap} {bo nt nn be sides ways : Addr} {c : Cs} {a : Ads} {d : Pds} {m : Mds} {n : Nds} {u : Uds}
theorem scSB : FnScope ["pairs","totals","price","many"] ["pairs"] (zak sSum):=fsc
noncomputable def zij : Sp:=fun vs H Q _ => ∃ (l : Addr) (tv : List V) (ps : List (Int × Int)),vs = [.ref l] ∧ H l = some (.lst tv) ∧ zcy H tv ps ∧ ps.length ≤ 1000 ∧ ∀ dd H',Same H H' → H dd = none → H' dd = some (.dK ((sumT ps).map fT)) → Q (.ref dd) H'
theorem kSumBy (U : UTxt K mg u) : Kp P w K mg base 1 u.sumBy ["pairs"] zij:=U.sumBy.kp fun fd G => by
 refine G.okN scSB (fun vs H Q E h => ?_) (fun cdv A outer s H vs Q E hr h => ?_)
 ·obtain ⟨_,_,_,rfl,_⟩:=h
  rfl
 ·obtain ⟨l,tv,ps,rfl,hl,hp,hlen,q⟩:=h
  have hu:=zdd hr
  refine ⟨_,zac (zap (i:=1) scSB.nd rfl (Or.inl rfl) zeL)
   (zac (zg4 PassesOwn.never rfl (zbx (pv 0)) (pg_tup rfl (zg6 (zbc (i:=2) scSB.nd rfl (Or.inl rfl)) (zg6 (zbc (i:=3) scSB.nd rfl (Or.inl rfl)) pgs_nil)))
    (zaf (zdA hu (pv 1) (pv 2) (zaA zbz (zdj hu (pv 1) (pv 2) zah ⟨rfl,rfl,rfl,rfl⟩) (pv 3)) rfl)))
   (zaf (zaw (pv 1)))),?_⟩
  refine fun dd hdd => ?_
  have sm : ∀ o,Same H (upd H dd o):=fun o => zai hdd
  refine (rX rfl ⟨l,rfl,⟨_,SqL.of (sm _ _ _ hl)⟩,?_⟩)
  refine ze4 (K:=K) (a:=l) (xs:=tv) (fun i σ H2 => H2 = upd H dd (.dK ((sumT (ps.take i)).map fT)) ∧ ∃ v2 v3,σ = [some (.ref l),some (.ref dd),v2,v3]) ⟨rfl,none,none,rfl⟩ (fun i σ H2 _ h => by rw [h.1]; exact SqL.of (sm _ _ _ hl)) ?_ ?_
  ·rintro i y σ H2 hi ⟨rfl,v2,v3,rfl⟩
   obtain ⟨t,ht,ta,rfl,hta⟩:=Paired.get hp hi
   have hta2:=sm (.dK ((sumT (ps.take i)).map fT)) _ _ hta
   have hdv : upd H dd (.dK ((sumT (ps.take i)).map fT)) dd = some (.dK ((sumT (ps.take i)).map fT)):=zab
   have hgv : (valV ((sumT (ps.take i)).map fT) (Sum.inl t.1)).getD (.int 0) = .int ((getT (sumT (ps.take i)) t.1).getD 0):=by
    rw [zh5]
    cases getT (sumT (ps.take i)) t.1 <;> rfl
   have hln : ((sumT (ps.take i)).map fT).length < sizeLine:=by
    rw [List.length_map,sizeLine_eq]
    have h1:=zeW (ps.take i)
    have h2 : (ps.take i).length ≤ ps.length:=by rw [List.length_take]; omega
    omega
   refine ⟨ta,_,rfl,SqT.of hta2,rfl,_,_,rfl,_,_,rfl,rfl,?_⟩
   refine (rX rfl ⟨dd,rfl,.inl ⟨_,.inl hdv⟩,rX rfl ⟨_,DGet.k (k:=Sum.inl t.1) hdv,rX rfl ⟨_,_,hgv,rfl,rX rfl (rX rfl ⟨dd,rX rfl ⟨DPut.k (k:=Sum.inl t.1) hdv hln,?_,_,_,rfl⟩⟩)⟩⟩⟩)
   rw [zaR,put_fT _ _ (zeR _),zb1 ht,zif]
  ·rintro σ H2 ⟨rfl,v2,v3,rfl⟩
   refine (rX rfl (q dd _ (sm _) hdd ?_))
   rw [zab,Paired.len hp,List.take_length]
noncomputable def pairsOf (xs : List Ent) : List (Int × Int):=xs.map fun e => (e.price,e.left)
theorem scLB : FnScope ["book","side"] ["book","side"] (zak zgq):=fsc
noncomputable def spLeftBy (c : Cs) : Sp:=fun vs H Q _ => ∃ (g : Ga) (B : Bk) (b : Bool),vs = [.ref g.b,.str (zav b)] ∧ Rep c H g B ∧ (B.at b).length ≤ 1000 ∧ ∀ dd H',Same H H' → H dd = none → H' dd = some (.dK ((sumT (pairsOf (B.at b))).map fT)) → Q (.ref dd) H'
theorem kLeftBy (C : CTxt K mg c) (F : FTxt K mg a c) (U : UTxt K mg u) : Kp P w K mg base 2 u.leftBy ["book","side"] (spLeftBy c):=U.leftBy.kp fun fd G => by
 obtain ⟨fd1,G1,b1,k1⟩:=zcm (P:=P) (w:=w) (base:=base) C F
 obtain ⟨fd2,G2,b2,k2⟩:=kSumBy (P:=P) (w:=w) (base:=base) U
 refine G.okN scLB (fun vs H Q E h => ?_) (fun cdv A outer s H vs Q E hr h => ?_)
 ·obtain ⟨_,_,_,rfl,_⟩:=h
  rfl
 ·obtain ⟨g,B,b,rfl,R,hlen,q⟩:=h
  have hr1 : Room 1 _:=hr.mono (by decide)
  obtain ⟨dx,hb⟩:=R.ob
  refine ⟨_,zaf (zaw (zas G2 hr1 rfl U.gSumBy k2 b2 .nil zaq (zaa (zch (own:=["entry"]) (caps:=[]) (g:=zbF 0) (tc:=tYes) (te:=tTup (zba (tFld K (tFld K (tVar 0) "order") "price") (zba (tFld K (tVar 0) "remaining") tNil))) rfl (by decide +kernel) (fun p hp => absurd hp (by simp)) (by decide +kernel) rfl (by decide +kernel) (zbx (zaK (pv 0) C.clB F.mEntriesOf G1 hr1 b1 .nil zaq (zaa (pv 1) zag)))
   (fun _ _ _ _ _ => zbc (i:=0) (show (["entry"] : List Str).Nodup by decide +kernel) rfl (Or.inl (lookup_relabel_local rfl)) (Or.inr (lookup_relabel_local rfl))) (fun _ _ _ _ _ => zc8) (fun _ _ _ _ _ => zby (zaa (zal (zal (pv 0 rfl (.inl (lookup_relabel_local rfl))) rfl) rfl) (zaa (zal (pv 0 rfl (.inl (lookup_relabel_local rfl))) rfl) zag)))) zag))),?_⟩
  refine ⟨[],rfl,fun j p hp => absurd hp (by simp),_,rfl,g.b,dx,_,rfl,hb,rfl,_,rfl,g,B,b,rfl,R,fun l0 l h0 h1 => ⟨l,rfl,⟨_,SqL.of zab⟩,?_⟩⟩
  have s2 : Same H (upd (upd H l0 (.lst [])) l (.lst (refs (B.at b)))):=(zai h0).trans (zai h1)
  generalize hHx : upd (upd H l0 (.lst [])) l (.lst (refs (B.at b))) = Hx at *
  have hl : Hx l = some (.lst (refs (B.at b))):=by rw [← hHx,zab]
  refine zhX (Q:=fun x H1 => zij [x] H1 Q E0) (K:=K) (a:=l) (n:=1) (g:=zbF 0) (te:=tTup (zba (tFld K (tFld K (tVar 0) "order") "price") (zba (tFld K (tVar 0) "remaining") tNil))) (xs:=refs (B.at b)) (fun i ys H' => Same Hx H' ∧ zcy H' ys ((pairsOf (B.at b)).take i)) ⟨Same.refl _,by rw [List.take_zero]; exact .nil⟩ (fun i ys H' hi h => ⟨SqL.of (h.1 _ _ hl),?_⟩) (fun i x ys H' hx h R1 y1 => ?_) (fun x σ H R R' hi h => hi _ _ h) (fun ys H' h p hp => ?_)
  ·have:=Paired.len h.2
   rw [this,List.length_take,sizeLine_eq]
   have e : (pairsOf (B.at b)).length = (B.at b).length:=List.length_map _
   omega
  ·rw [List.getElem?_map] at hx
   cases ex : (B.at b)[i]? with
   | none =>
    rw [ex] at hx
    cases hx
   | some e =>
    rw [ex] at hx
    obtain rfl : V.ref e.ea = x:=Option.some.inj hx
    have me:=List.mem_of_getElem? ex
    have ek:=(Same.rep (s2.trans h.1) R).en b e me
    obtain ⟨de,he⟩:=ek.en
    obtain ⟨do',ho⟩:=ek.od
    refine (rX rfl (rA e.ea c.E de rfl he C.clE C.e1 rfl (rA e.oa c.O do' rfl ho C.clO C.o3 rfl (rX rfl (rA e.ea c.E de rfl he C.clE C.e2 rfl ⟨(by rw [sizeLine_eq]; show 2 ≤ 16777216; decide),fun tp htp => y1 _ _ ⟨h.1.trans (zai htp),?_⟩⟩)))))
    have hpi : (pairsOf (B.at b))[i]? = some (e.price,e.left):=by
     show ((B.at b).map _)[i]? = _
     rw [List.getElem?_map,ex]
     rfl
    rw [zb1 hpi]
    exact Paired.snoc ⟨tp,rfl,zab⟩ (Paired.mapP h.2 fun v t ⟨z,h1,h2⟩ => ⟨z,h1,zai htp _ _ h2⟩)
  ·obtain ⟨s3,hp3⟩:=h
   have e : (refs (B.at b)).length = (pairsOf (B.at b)).length:=by rw [List.length_map]; exact (List.length_map _).symm
   rw [e,List.take_length] at hp3
   have s4:=zai (o:=.lst ys) hp
   have e2 : (pairsOf (B.at b)).length = (B.at b).length:=List.length_map _
   refine ⟨p,ys,pairsOf (B.at b),rfl,zab,Paired.mapP hp3 fun v t ⟨z,h1,h2⟩ => ⟨z,h1,s4 _ _ h2⟩,by omega,fun dd H5 s5 hdd hd5 => ?_⟩
   exact q dd H5 ((s2.trans s3).trans (s4.trans s5)) (((s2.trans s3).trans s4).free hdd) hd5
theorem scWg : FnScope ["price","demand","supply","last_price","distance"] ["price","demand","supply","last_price"] (zak ziA):=fsc
noncomputable def absI (i : Int) : Int:=if i < 0 then -i else i
noncomputable def farI (p : Int) : Option Int → Int
 | none => 0
 | some l => absI (p - l)
noncomputable def zgO (p dm sp : Int) (la : Option Int) : List Int:=[-(mn dm sp),absI (dm - sp),farI p la,p]
noncomputable def spWeigh : Sp:=fun vs H Q _ => ∃ (p dm sp : Int) (la : Option Int),vs = [.int p,.int dm,.int sp,oV la] ∧ ∀ t,H t = none → Q (.ref t) (upd H t (.tup ((zgO p dm sp la).map V.int)))
theorem kWeigh (C : CTxt K mg c) (hab : mg "abs" = none) (U : UTxt K mg u) : Kp P w K mg base 1 u.weigh ["price","demand","supply","last_price"] spWeigh:=U.weigh.kp fun fd G => by
 refine G.okN scWg (fun vs H Q E h => ?_) (fun cdv A outer s H vs Q E hr h => ?_)
 ·obtain ⟨_,_,_,_,rfl,_⟩:=h
  rfl
 ·obtain ⟨p,dm,sp,la,rfl,q⟩:=h
  refine ⟨_,zac (zap (i:=4) scWg.nd rfl (Or.inl rfl) zah)
   (zac (zaJ (zbB (zdD (pv 3))) (zaf (zap (i:=4) scWg.nd rfl (Or.inl rfl) (zaE zhx (by rfl) hab (by decide +kernel) (zaa (zaA op_sub (pv 0) (pv 3)) zag)))) zau)
   (zaf (zaw (zby (zaa (pe_un zh6 (zaE (zcU rfl) (by rfl) C.min (by decide +kernel) (zaa (pv 1) (zaa (pv 2) zag)))) (zaa (zaE zhx (by rfl) hab (by decide +kernel) (zaa (zaA op_sub (pv 1) (pv 2)) zag)) (zaa (pv 4) (zaa (pv 0) zag)))))))),?_⟩
  refine (rX rfl (rX rfl ?_))
  have fin : ∀ z,z = farI p la → tRet (tTup (zba (tUn (rU fun i => .int (-i)) (tCB (fun xs H Q => ∃ i j,xs = [.int i,.int j] ∧ Q (.int (if j < i then j else i)) H) (zba (tVar 1) (zba (tVar 2) tNil)))) (zba (tCB (fun xs H Q => ∃ i,xs = [.int i] ∧ Q (.int (if i < 0 then -i else i)) H) (zba (tOp (rI0 fun i j => .int (i - j)) (tVar 1) (tVar 2)) tNil)) (zba (tVar 4) (zba (tVar 0) tNil))))) { nx:=fun _ H' => Q .non H',rt:=Q } [some (.int p),some (.int dm),some (.int sp),some (oV la),some (.int z)] H:=fun z hz => by
   subst hz
   exact (rX rfl (rX rfl ⟨_,rX rfl (rX rfl (rX rfl (rX rfl (r2 rfl rfl (rX rfl (rX rfl (rX rfl ⟨(by rw [sizeLine_eq]; show 4 ≤ 16777216; decide),fun t ht => q t ht⟩)))))))⟩))
  cases la with
  | none => exact iteF (fin 0 rfl)
  | some l => exact iteT ⟨_,rfl,_,rfl,_,_,rfl,rfl,_,rfl,fin _ rfl⟩
end
end Fb
namespace Fb
open PySem L2
noncomputable def zaN (b : List Int) : List (List Int) → List Int
 | [] => b
 | x :: r => zaN (if HT.lexLt x b = true then x else b) r
theorem lex_head {x b : Int} {xs bs : List Int} : (HT.lexLt (x :: xs) (b :: bs) = true → x ≤ b) ∧ (HT.lexLt (x :: xs) (b :: bs) = false → b ≤ x):=by
 rw [HT.lexLt_cons]
 by_cases h : x = b
 ·rw [if_pos h]
  exact ⟨fun _ => by omega,fun _ => by omega⟩
 ·rw [if_neg h]
  exact ⟨fun z => Int.le_of_lt (of_decide_eq_true z),fun z => Int.not_lt.mp (of_decide_eq_false z)⟩
theorem zc1 : ∀ (r : List (List Int)) (b : List Int),b ≠ [] → (∀ x ∈ r,x ≠ []) → (zaN b r = b ∨ zaN b r ∈ r) ∧ zaN b r ≠ [] ∧ (zaN b r).headD 0 ≤ b.headD 0 ∧ ∀ x ∈ r,(zaN b r).headD 0 ≤ x.headD 0
 | [],b,hb,_ => ⟨.inl rfl,hb,Int.le_refl _,fun _ h => absurd h (by simp)⟩
 | x :: r,b,hb,hr => by
  have hx:=hr x List.mem_cons_self
  obtain ⟨b0,bs,rfl⟩:=List.exists_cons_of_ne_nil hb
  obtain ⟨x0,xs,rfl⟩:=List.exists_cons_of_ne_nil hx
  obtain ⟨l1,l2⟩:=lex_head (x:=x0) (b:=b0) (xs:=xs) (bs:=bs)
  have hr' : ∀ y ∈ r,y ≠ []:=fun y hy => hr y (List.mem_cons_of_mem _ hy)
  cases hlt : HT.lexLt (x0 :: xs) (b0 :: bs) with
  | true =>
   have st : zaN (b0 :: bs) ((x0 :: xs) :: r) = zaN (x0 :: xs) r:=by
    show zaN (if HT.lexLt (x0 :: xs) (b0 :: bs) = true then x0 :: xs else b0 :: bs) r = _
    rw [if_pos hlt]
   rw [st]
   obtain ⟨m,n,h1,h2⟩:=zc1 r (x0 :: xs) (by simp) hr'
   refine ⟨.inr (m.elim (fun e => by rw [e]; exact List.mem_cons_self) fun e => List.mem_cons_of_mem _ e),n,Int.le_trans h1 (l1 hlt),fun y hy => ?_⟩
   rcases List.mem_cons.mp hy with rfl | hy'
   ·exact h1
   ·exact h2 y hy'
  | false =>
   have st : zaN (b0 :: bs) ((x0 :: xs) :: r) = zaN (b0 :: bs) r:=by
    show zaN (if HT.lexLt (x0 :: xs) (b0 :: bs) = true then x0 :: xs else b0 :: bs) r = _
    rw [if_neg (by rw [hlt]; exact Bool.false_ne_true)]
   rw [st]
   obtain ⟨m,n,h1,h2⟩:=zc1 r (b0 :: bs) (by simp) hr'
   refine ⟨m.elim .inl fun e => .inr (List.mem_cons_of_mem _ e),n,h1,fun y hy => ?_⟩
   rcases List.mem_cons.mp hy with rfl | hy'
   ·exact Int.le_trans h1 (l2 hlt)
   ·exact h2 y hy'
end Fb
namespace Fb
open PySem L2
theorem zjb {a b k : Int} (h1 : k ≤ a) (h2 : k ≤ b) : k ≤ mn a b:=by
 unfold mn
 split <;> omega
theorem Trs.uncrossed {p : Int} {B B' : Bk} {m : Int} {ts : List (Int × Int × Int)} (ok : B.Ok) (ps : B.Pos) (h0 : 0 ≤ m) (h : Trs p B m ts B' 0)
  (mx : ∀ b,∀ e ∈ B.at b,mn (cum true e.price B.buys) (cum false e.price B.sells) ≤ m) : zcS B' = false:=by
 have g:=h.good ok ps h0
 unfold zcS
 cases e1 : B'.buys with
 | nil => rfl
 | cons x r =>
  cases e2 : B'.sells with
  | nil => rfl
  | cons y t =>
   refine decide_eq_false fun hxy => ?_
   have mx1 : x ∈ B'.at true:=by show x ∈ B'.buys; rw [e1]; exact List.mem_cons_self
   have my1 : y ∈ B'.at false:=by show y ∈ B'.sells; rw [e2]; exact List.mem_cons_self
   have px:=g.ps.ps _ x mx1
   have py:=g.ps.ps _ y my1
   have gx : za8 true x.price x:=Int.le_refl _
   have gy : za8 false x.price y:=hxy
   have a1 : cum true x.price B.buys = m - 0 + cum true x.price B'.buys:=g.ea true x.price x r e1 gx
   have a2 : cum false x.price B.sells = m - 0 + cum false x.price B'.sells:=g.ea false x.price y t e2 gy
   have c1 : 0 ≤ cum true x.price r:=zbh fun e he => by
    have:=g.ps.ps true e (by show e ∈ B'.buys; rw [e1]; exact List.mem_cons_of_mem _ he)
    omega
   have c2 : 0 ≤ cum false x.price t:=zbh fun e he => by
    have:=g.ps.ps false e (by show e ∈ B'.sells; rw [e2]; exact List.mem_cons_of_mem _ he)
    omega
   rw [e1,zbU gx] at a1
   rw [e2,zbU gy] at a2
   obtain ⟨z,hz,_,q,_⟩:=g.nm true x mx1
   have top:=mx true z hz
   rw [q] at top
   have:=zjb (k:=m + 1) (a:=cum true x.price B.buys) (b:=cum false x.price B.sells) (by omega) (by omega)
   omega
end Fb
namespace L2
open PySem PySem.Spec PyProof.Rows Fb
noncomputable def CallK (X : Cx) (f : Value) (k : Str) (r : List V → V → Hp → VK → Prop) : Prop :=
 ∀ (pins : List (Addr × Obj)) (s : Shared) (σ : St) (H : Hp) (xs : List V) (us : List Value) (d : V) (dv : Value) (Q : VK),Inv X pins σ H s → Vals xs us → RelV d dv → r xs d H Q →
  wpAny (model X.prog X.w) X.A (call f us [(k,dv)]) (EP X pins σ Q) X.xe s
noncomputable def tCBk (r : List V → V → Hp → VK → Prop) (t : TA) (td : TE) : TE:=fun σ H Q => t σ H fun vs H1 => td σ H1 fun d H2 => r vs d H2 Q
section
variable {X : Cx} {e ek : Expr} {es : List Expr} {t : TA} {td : TE} {x k : Str} {p pos kp : Pos} {id : String} {r : List V → V → Hp → VK → Prop}
theorem zfs (hc : CallK X (.builtin id) k r) (hg : Gl X x) (hm : X.mg x = none) (hv : bootBuiltins x = some (.builtin id)) (ha : PA X (e :: es) t) (hd : PE X ek td) (hn : x ≠ "__name__":=by decide) (hdb : (x == ("__debug__" : Str)) = false:=by decide)
  (h1 : backTo pos (starEach (e :: es) X.env) = (false,eval e X.env) :: backTo pos (starEach es X.env):=by rfl) (h2 : (backTo pos (starEach (e :: es) X.env)).any (·.1) = false:=by rfl) :
  PE X (.Call (.Name x p) (e :: es) [⟨some k,ek,kp⟩] pos) (tCBk r t td):=by
 intro pins s σ H Q I h
 refine wpAny_Call_Name_kw (zfG I hg hm hv ?_ hn hdb)
 exact callWith_kw (thn (ha pos pins s σ H _ I h) fun us s1 ⟨vs,H1,I1,r1,q1⟩ => kws_cons (thn (hd pins s1 σ H1 _ I1 q1) fun dv s2 ⟨d,H2,I2,r2,q2⟩ => kws_nil (hc pins s2 σ H2 vs us d dv Q I2 r1 r2 q2))) h1 h2
noncomputable def intOf : V → Int
 | .int i => i
 | _ => 0
noncomputable def rowOf (H : Hp) : Value → List Int
 | .ref a => match H a with
  | some (.tup xs) => xs.map intOf
  | _ => []
 | _ => []
noncomputable def ltOf (H : Hp) (v u : Value) : Bool:=HT.lexLt (rowOf H v) (rowOf H u)
theorem zg0 {H : Hp} {a : Addr} {ns : List Int} (h : H a = some (.tup (ns.map V.int))) : rowOf H (.ref a) = ns:=by
 show (match H a with | some (.tup xs) => xs.map intOf | _ => []) = ns
 rw [h]
 show (ns.map V.int).map intOf = ns
 rw [List.map_map]
 exact List.map_id' ns
noncomputable abbrev zge (H : Hp) : List V → List (List Int) → Prop:=Paired fun v ns => ∃ a,v = .ref a ∧ H a = some (.tup (ns.map V.int))
theorem zeA {H : Hp} : ∀ {vs : List V} {rows : List (List Int)},zge H vs rows → ∀ {us : List Value},Vals vs us → ∀ v ∈ us,∃ (a : Addr) (ns : List Int),v = .ref a ∧ H a = some (.tup (ns.map V.int))
 | _,_,.nil,_,r,v,hv => by
  cases r
  simp at hv
 | _,_,.cons ⟨a,ha,hr⟩ t,_,r,v,hv => by
  subst ha
  cases r with
  | cons r1 r2 =>
   cases r1
   rcases List.mem_cons.mp hv with rfl | hv
   ·exact ⟨a,_,rfl,hr⟩
   ·exact zeA t r2 v hv
theorem zcZ {H : Hp} : ∀ {vs : List V} {rows : List (List Int)},zge H vs rows → ∀ {us : List Value},Vals vs us → ∀ {a : Addr} {b : List Int},H a = some (.tup (b.map V.int)) →
  ∃ t,zb8 (ltOf H) (some (.ref a)) us = some (.ref t) ∧ H t = some (.tup ((zaN b rows).map V.int))
 | _,_,.nil,_,r,a,b,h => by
  cases r
  exact ⟨a,rfl,h⟩
 | _,_,.cons (b:=ns) ⟨c,hc,hr⟩ t,_,r,a,b,h => by
  subst hc
  cases r with
  | @cons _ _ _ us r1 r2 =>
   cases r1
   have e : ltOf H (.ref c) (.ref a) = HT.lexLt ns b:=by
    unfold ltOf
    rw [zg0 hr,zg0 h]
   cases hk : HT.lexLt ns b with
   | true =>
    obtain ⟨z,h1,h2⟩:=zcZ t r2 hr
    refine ⟨z,?_,?_⟩
    ·show zb8 (ltOf H) (some (if ltOf H (.ref c) (.ref a) = true then _ else _)) us = _
     rw [e,hk,if_pos rfl]
     exact h1
    ·show H z = some (.tup ((zaN (if HT.lexLt ns b = true then ns else b) _).map V.int))
     rw [hk,if_pos rfl]
     exact h2
   | false =>
    obtain ⟨z,h1,h2⟩:=zcZ t r2 h
    refine ⟨z,?_,?_⟩
    ·show zb8 (ltOf H) (some (if ltOf H (.ref c) (.ref a) = true then _ else _)) us = _
     rw [e,hk,if_neg Bool.false_ne_true]
     exact h1
    ·show H z = some (.tup ((zaN (if HT.lexLt ns b = true then ns else b) _).map V.int))
     rw [hk,if_neg Bool.false_ne_true]
     exact h2
noncomputable def rMinR : List V → V → Hp → VK → Prop:=fun xs d H Q => ∃ (l : Addr) (vs : List V) (rows : List (List Int)),xs = [.ref l] ∧ H l = some (.lst vs) ∧ zge H vs rows ∧ (rows = [] → Q d H) ∧ ∀ b r,rows = b :: r → ∀ t,H t = some (.tup ((zaN b r).map V.int)) → Q (.ref t) H
theorem zj0 (hc : X.calm = true) (hu : X.A.units + 1 < cLine) : CallK X (.builtin "min") (Str.ofString "default") rMinR:=by
 intro pins s σ H xs us d dv Q I r rd h
 obtain ⟨l,vs,rows,rfl,hl,hr,q1,q2⟩:=h
 obtain ⟨u,rfl,rx⟩:=zbZ r
 cases rx
 obtain ⟨its,rv,⟨o,n,e,c,_,dt⟩,_⟩:=I.list (SqL.of hl)
 refine zj1 (lt:=ltOf H) (vs:=its) (I.ok.hd hc) ⟨o,e,c,n,dt⟩ (fun v hv y hy s' Q' E' k q => ?_) (fun h' tk k => ?_)
 ·obtain ⟨a,ns,rfl,ha⟩:=zeA hr rv v hv
  obtain ⟨b,ms,rfl,hb⟩:=zeA hr rv y hy
  obtain ⟨i1,r1,⟨o1,e1,c1,n1,d1⟩,_⟩:=I.tuple (SqT.of ha)
  obtain ⟨i2,r2,⟨o2,e2,c2,n2,d2⟩,_⟩:=I.tuple (SqT.of hb)
  have z : ltOf H (.ref a) (.ref b) = HT.lexLt ns ms:=by
   unfold ltOf
   rw [zg0 ha,zg0 hb]
  rw [z] at q
  exact HT.lt_tupInts (A:=X.A.in1) ⟨o1,k _ _ e1,c1,n1,d1⟩ ⟨o2,k _ _ e2,c2,n2,d2⟩ (zbr r1) (zbr r2) (by rw [Around.in1_units]; exact hu) q
 ·cases hr with
  | nil =>
   cases rv
   exact ⟨d,H,I.kept k,rd,q1 rfl⟩
  | @cons v ns vs' rows' hv hrs =>
   obtain ⟨a,rfl,ha⟩:=hv
   cases rv with
   | cons r1 r2 =>
    cases r1
    obtain ⟨z,h1,h2⟩:=zcZ hrs r2 ha
    have e3 : zb8 (ltOf H) none (.ref a :: _) = some (.ref z):=h1
    rw [e3]
    exact ⟨.ref z,H,I.kept k,rfl,q2 ns rows' rfl z h2⟩
end
end L2
namespace Fb
open PySem L2
theorem nd_addK {ks : List Int} (k : Int) (h : ks.Nodup) : (Sx.addK ks k).Nodup:=by
 unfold Sx.addK
 split
 ·exact h
 ·rename_i hk
  refine List.nodup_append.mpr ⟨h,by simp,fun a ha b hb => ?_⟩
  rw [List.mem_singleton.mp hb]
  exact fun e => hk (by rw [← e]; exact ha)
theorem zfA : ∀ (js : List Int) {ks : List Int},ks.Nodup → (Sx.addAll ks js).Nodup
 | [],_,h => h
 | k :: r,_,h => zfA r (nd_addK k h)
theorem rising : ∀ {zs : List Int},zs.Nodup → zs.Pairwise (· ≤ ·) → zs.Pairwise (· < ·)
 | [],_,_ => .nil
 | z :: r,n,p => by
  obtain ⟨n1,n2⟩:=List.nodup_cons.mp n
  obtain ⟨p1,p2⟩:=List.pairwise_cons.mp p
  refine List.pairwise_cons.mpr ⟨fun a ha => ?_,rising n2 p2⟩
  have h1:=p1 a ha
  have h2 : z ≠ a:=fun e => n1 (by rw [e]; exact ha)
  omega
theorem zcC {q : Int} : ∀ {zs : List Int} {i : Nat},zs.Pairwise (· < ·) → zs[i]? = some q → ∀ p ∈ zs,(p ∈ zs.take i ↔ p < q) ∧ (p ∈ zs.take (i + 1) ↔ p ≤ q)
 | [],_,_,_,p,hp => by simp at hp
 | z :: r,0,s,h,p,hp => by
  obtain ⟨s1,s2⟩:=List.pairwise_cons.mp s
  have e : z = q:=by simpa using h
  subst e
  rcases List.mem_cons.mp hp with rfl | hp
  ·simp
  ·have:=s1 p hp
   refine ⟨?_,?_⟩
   ·simp
    omega
   ·simp
    omega
 | z :: r,i + 1,s,h,p,hp => by
  obtain ⟨s1,s2⟩:=List.pairwise_cons.mp s
  have h' : r[i]? = some q:=by simpa using h
  have hq:=s1 q (List.mem_of_getElem? h')
  rcases List.mem_cons.mp hp with rfl | hp
  ·refine ⟨?_,?_⟩
   ·simp
    exact hq
   ·simp
    omega
  ·obtain ⟨a,b⟩:=zcC s2 h' p hp
   have hz:=s1 p hp
   have ne : p ≠ z:=by omega
   refine ⟨?_,?_⟩
   ·rw [List.take_succ_cons,List.mem_cons]
    exact ⟨fun x => x.elim (fun e => absurd e ne) a.mp,fun x => .inr (a.mpr x)⟩
   ·rw [List.take_succ_cons,List.mem_cons]
    exact ⟨fun x => x.elim (fun e => absurd e ne) b.mp,fun x => .inr (b.mpr x)⟩
theorem rise_not {q : Int} {zs : List Int} {i : Nat} (s : zs.Pairwise (· < ·)) (h : zs[i]? = some q) : q ∉ zs.take i:=fun m => by
 have:=((zcC s h q (List.mem_of_getElem? h)).1).mp m
 omega
theorem zjS (q : Int) : ∀ xs : List Ent,cum true q xs = zaF (fun p => decide (q ≤ p)) (pairsOf xs)
 | [] => rfl
 | e :: r => by
  show (if za8 true q e then e.left else 0) + cum true q r = (if decide (q ≤ e.price) = true then e.left else 0) + zaF _ (pairsOf r)
  rw [zjS q r]
  by_cases h : q ≤ e.price
  ·rw [if_pos (show za8 true q e from h),if_pos (decide_eq_true h)]
  ·rw [if_neg (show ¬ za8 true q e from h),if_neg (fun z => h (of_decide_eq_true z))]
theorem zhu (q : Int) : ∀ xs : List Ent,cum false q xs = zaF (fun p => decide (p ≤ q)) (pairsOf xs)
 | [] => rfl
 | e :: r => by
  show (if za8 false q e then e.left else 0) + cum false q r = (if decide (e.price ≤ q) = true then e.left else 0) + zaF _ (pairsOf r)
  rw [zhu q r]
  by_cases h : e.price ≤ q
  ·rw [if_pos (show za8 false q e from h),if_pos (decide_eq_true h)]
  ·rw [if_neg (show ¬ za8 false q e from h),if_neg (fun z => h (of_decide_eq_true z))]
theorem zgT : ∀ T : List (Int × Int),sumI (T.map (·.2)) = zaF (fun _ => true) T
 | [] => rfl
 | t :: r => by
  show t.2 + sumI (r.map (·.2)) = (if true = true then t.2 else 0) + zaF _ r
  rw [zgT r,if_pos rfl]
theorem zck (p : Int) (xs : List Ent) : p ∈ (pairsOf xs).map (·.1) ↔ ∃ e ∈ xs,e.price = p:=by
 unfold pairsOf
 rw [List.map_map,List.mem_map]
 rfl
theorem walk_buy {zs : List Int} {i : Nat} {q : Int} {xs : List Ent} (s : zs.Pairwise (· < ·)) (h : zs[i]? = some q) (m : ∀ e ∈ xs,e.price ∈ zs) :
  zaF (fun _ => true) (sumT (pairsOf xs)) - zaF (fun p => decide (p ∈ zs.take i)) (sumT (pairsOf xs)) = cum true q xs:=by
 rw [zjS,← zd4 (fun p => decide (q ≤ p)),← zfh]
 refine zcq fun t ht => ?_
 have hk : t.1 ∈ (sumT (pairsOf xs)).map (·.1):=List.mem_map.mpr ⟨t,ht,rfl⟩
 obtain ⟨e,he,ep⟩:=(zck _ _).mp ((zcM _ _).mp hk)
 have z:=(zcC s h t.1 (by rw [← ep]; exact m e he)).1
 by_cases hq : q ≤ t.1
 ·have n : ¬ t.1 ∈ zs.take i:=fun w => by have:=z.mp w; omega
  simp [hq,n]
 ·have y : t.1 ∈ zs.take i:=z.mpr (by omega)
  simp [hq,y]
theorem zh4 {zs : List Int} {i : Nat} {q : Int} {xs : List Ent} (s : zs.Pairwise (· < ·)) (h : zs[i]? = some q) (m : ∀ e ∈ xs,e.price ∈ zs) :
  zaF (fun p => decide (p ∈ zs.take (i + 1))) (sumT (pairsOf xs)) = cum false q xs:=by
 rw [zhu,← zd4 (fun p => decide (p ≤ q))]
 refine zcq fun t ht => ?_
 have hk : t.1 ∈ (sumT (pairsOf xs)).map (·.1):=List.mem_map.mpr ⟨t,ht,rfl⟩
 obtain ⟨e,he,ep⟩:=(zck _ _).mp ((zcM _ _).mp hk)
 have z:=(zcC s h t.1 (by rw [← ep]; exact m e he)).2
 by_cases hq : t.1 ≤ q
 ·simp [hq,z.mpr hq]
 ·have n : ¬ t.1 ∈ zs.take (i + 1):=fun w => hq (z.mp w)
  simp [hq,n]
theorem zgS {zs : List Int} {i : Nat} {q : Int} (s : zs.Pairwise (· < ·)) (h : zs[i]? = some q) (ps : List (Int × Int)) :
  zaF (fun p => decide (p ∈ zs.take (i + 1))) (sumT ps) = zaF (fun p => decide (p ∈ zs.take i)) (sumT ps) + (getT (sumT ps) q).getD 0:=by
 rw [zb1 h,zd5 (rise_not s h),zjE q (zeR ps)]
noncomputable def zaC (B : Bk) (q : Int) : List Int:=zgO q (cum true q B.buys) (cum false q B.sells) B.last
theorem valI (T : List (Int × Int)) (q : Int) : (valV (T.map fT) (Sum.inl q)).getD (.int 0) = .int ((getT T q).getD 0):=by
 rw [zh5]
 cases getT T q <;> rfl
theorem keysI (T : List (Int × Int)) : (T.map fT).map (·.1) = (T.map (·.1)).map Sum.inl:=by
 rw [List.map_map,List.map_map]
 rfl
theorem valsI (T : List (Int × Int)) : (T.map fT).map (·.2) = (T.map (·.2)).map V.int:=by
 rw [List.map_map,List.map_map]
 rfl
structure ZTxt (mg : Str → Option Value) : Prop where
 abs : mg "abs" = none
 sum : mg "sum" = none
 set : mg "set" = none
 sorted : mg "sorted" = none
section
variable {P : Program} {w : World} {K : W.Frag} {mg : Str → Option Value} {base : Heap} {bo nt nn be sides ways : Addr} {c : Cs} {a : Ads} {d : Pds} {m : Mds} {n : Nds} {u : Uds}
theorem scWp : FnScope ["book","bought","sold","demand","supply","weighed","price"] ["book"] (zak zb2):=fsc
noncomputable def zeo (c : Cs) : Sp:=fun vs H Q _ => ∃ (g : Ga) (B : Bk),vs = [.ref g.b] ∧ Rep c H g B ∧ B.buys.length + B.sells.length ≤ 30 ∧
 ∀ (l : Addr) (wv : List V) (qs : List Int) (H' : Hp),Same H H' → H' l = some (.lst wv) → zge H' wv (qs.map (zaC B)) → (∀ p,p ∈ qs ↔ ∃ b,∃ e ∈ B.at b,e.price = p) → Q (.ref l) H'
theorem zfL (C : CTxt K mg c) (F : FTxt K mg a c) (N : NTxt K mg c n) (U : UTxt K mg u) (Z : ZTxt mg) : Kp P w K mg base 3 u.weighPrices ["book"] (zeo c):=U.weighPrices.kp fun fd G => by
 obtain ⟨fd1,G1,b1,k1⟩:=kLeftBy (P:=P) (w:=w) (base:=base) C F U
 obtain ⟨fd2,G2,b2,k2⟩:=kWeigh (P:=P) (w:=w) (base:=base) C Z.abs U
 obtain ⟨fd3,G3,b3,k3⟩:=kLast (P:=P) (w:=w) (base:=base) C N
 refine G.okN scWp (fun vs H Q E h => ?_) (fun cdv A outer s H vs Q E hr h => ?_)
 ·obtain ⟨_,_,rfl,_⟩:=h
  rfl
 ·obtain ⟨g,B,rfl,R,hlen,q⟩:=h
  have hr1 : Room 1 _:=hr.mono (by decide)
  have hu:=zdd hr
  refine ⟨_,zac (zap (i:=1) scWp.nd rfl (Or.inl rfl) (zas G1 hr rfl U.gLeftBy k1 b1 .nil zaq (zaa (pv 0) (zaa zam zag))))
   (zac (zap (i:=2) scWp.nd rfl (Or.inl rfl) (zas G1 hr rfl U.gLeftBy k1 b1 .nil zaq (zaa (pv 0) (zaa zam zag))))
   (zac (zap (i:=3) scWp.nd rfl (Or.inl rfl) (zaE (zjY rfl) (by rfl) Z.sum (by decide +kernel) (zaa (pe_bm0 PySem.F.plainAttrs_dict PySem.F.slot_dict_values PySem.F.type_dict_values zi5 (pv 1)) zag)))
   (zac (zap (i:=4) scWp.nd rfl (Or.inl rfl) zah)
   (zac (zap (i:=5) scWp.nd rfl (Or.inl rfl) (zbg zag))
   (zac (zg4 PassesOwn.never rfl (zbx (zaE (zf3 rfl) (by rfl) Z.sorted (by decide +kernel) (zaa (zaA op_orS (zb5 zf6 (by rfl) Z.set (by decide +kernel) (zaa (pv 1) zag)) (zb5 zf6 (by rfl) Z.set (by decide +kernel) (zaa (pv 2) zag))) zag))) (zbc (i:=6) scWp.nd rfl (Or.inl rfl))
    (zac (zg5 (i:=4) scWp.nd rfl (Or.inl rfl) (zdj hu (pv 2) (pv 6) zah ⟨rfl,rfl,rfl,rfl⟩) ip_add)
    (zac (zaG (zgx PySem.F.plainAttrs_list PySem.F.slot_list_append PySem.F.type_list_append zdG (pv 5) (zaa (zas G2 hr1 rfl U.gWeigh k2 b2 .nil zaq (zaa (pv 6) (zaa (pv 3) (zaa (pv 4) (zaa (zbC (pv 0) C.clB N.mLast G3 hr1 b3 .nil zaq) zag))))) zag)))
    (zaf (zg5 (i:=3) scWp.nd rfl (Or.inl rfl) (zdj hu (pv 1) (pv 6) zah ⟨rfl,rfl,rfl,rfl⟩) ip_sub)))))
   (zaf (zaw (pv 5)))))))),?_⟩
  have l1:=zda B true
  have l2:=zda B false
  refine (rX rfl ⟨g,B,true,rfl,R,by omega,fun d1 H1 s1 hd1 e1 => ?_⟩)
  refine (rX rfl ⟨g,B,false,rfl,Same.rep s1 R,by omega,fun d2 H2 s2 hd2 e2 => ?_⟩)
  have n12 : d1 ≠ d2:=zae e1 hd2
  have R2:=Same.rep s2 (Same.rep s1 R)
  have e1':=s2 _ _ e1
  generalize hT1 : sumT (pairsOf (B.at true)) = T1 at *
  generalize hT2 : sumT (pairsOf (B.at false)) = T2 at *
  have z1 : (T1.map (·.1)).length ≤ B.buys.length:=by rw [List.length_map,← hT1]; exact Nat.le_trans (zeW _) (Nat.le_of_eq (List.length_map _))
  have z2 : (T2.map (·.1)).length ≤ B.sells.length:=by rw [List.length_map,← hT2]; exact Nat.le_trans (zeW _) (Nat.le_of_eq (List.length_map _))
  have nd1 : (T1.map (·.1)).Nodup:=by rw [← hT1]; exact zeR _
  have nd2 : (T2.map (·.1)).Nodup:=by rw [← hT2]; exact zeR _
  refine (rX rfl ⟨.inr (.inr (.inl ⟨rfl,.inl ⟨_,e1'⟩⟩)),d1,rX rfl ⟨rfl,e1',fun v hv => ⟨v,d1,_,T1.map (·.2),rfl,zab,zai hv _ _ e1',valsI T1,?_⟩⟩⟩)
  have s3:=zai (o:=vwO v d1) hv
  generalize upd H2 v (vwO v d1) = H3 at *
  refine ⟨(by rw [sizeLine_eq]; show 0 ≤ 16777216; decide),fun l hl => ?_⟩
  have s4:=zai (o:=.lst []) hl
  have l4 : upd H3 l (.lst []) l = some (.lst []):=zab
  generalize upd H3 l (.lst []) = H4 at *
  have e14:=s4 _ _ (s3 _ _ e1')
  have e24:=s4 _ _ (s3 _ _ e2)
  refine (rX rfl ⟨d1,_,rX rfl ⟨e14,keysI T1,nd1,by omega,fun p1 hp1 => ?_⟩⟩)
  have s5:=zai (o:=gsO w p1 (T1.map (·.1))) hp1
  have p15 : upd H4 p1 (gsO w p1 (T1.map (·.1))) p1 = some (gsO w p1 (T1.map (·.1))):=zab
  have e25:=s5 _ _ e24
  have e15:=s5 _ _ e14
  have l5:=s5 _ _ l4
  refine (rX rfl ⟨d2,_,rX rfl ⟨e25,keysI T2,nd2,by omega,fun p2 hp2 => ?_⟩⟩)
  have s6:=zai (o:=gsO w p2 (T2.map (·.1))) hp2
  have p16:=s6 _ _ p15
  have e16:=s6 _ _ e15
  have e26:=s6 _ _ e25
  have l6:=s6 _ _ l5
  refine ⟨p1,p2,_,_,rfl,rfl,zae p15 hp2,p16,zab,by omega,fun p3 hp3 => ?_⟩
  have s7:=zai (o:=gsO w p3 (Sx.addAll (T1.map (·.1)) (T2.map (·.1)))) hp3
  have e17:=s7 _ _ e16
  have e27:=s7 _ _ e26
  have l7:=s7 _ _ l6
  have zl:=Sx.addAll_len (T2.map (·.1)) (T1.map (·.1))
  refine ⟨p3,_,rfl,zab,by omega,fun ls zs pm pw hls => ⟨ls,rfl,⟨_,SqL.of zab⟩,?_⟩⟩
  have s8:=zai (o:=.lst (zs.map V.int)) hls
  have e18:=s8 _ _ e17
  have e28:=s8 _ _ e27
  have hl8:=s8 _ _ l7
  have nls : ls ≠ l:=(zae l7 hls).symm
  have rz : zs.Pairwise (· < ·):=rising (pm.nodup_iff.mpr (zfA _ nd1)) pw
  have mz : ∀ p,p ∈ zs ↔ ∃ b,∃ e ∈ B.at b,e.price = p:=fun p => by
   rw [pm.mem_iff,Sx.mem_addAll,← hT1,← hT2,zcM,zcM,zck,zck]
   exact ⟨fun x => x.elim (fun y => ⟨true,y⟩) fun y => ⟨false,y⟩,fun ⟨b,y⟩ => by cases b; exact .inr y; exact .inl y⟩
  have s08:=s1.trans (s2.trans (s3.trans (s4.trans (s5.trans (s6.trans (s7.trans s8))))))
  have zlen : zs.length ≤ 30:=by rw [pm.length_eq]; omega
  have hl0 : H l = none:=(s1.trans (s2.trans s3)).free hl
  refine ze4 (K:=K) (a:=ls) (xs:=zs.map V.int) (fun i σ H' => ∃ (wv : List V) (x6 : Option V),σ = [some (.ref g.b),some (.ref d1),some (.ref d2),some (.int (zaF (fun _ => true) T1 - zaF (fun p => decide (p ∈ zs.take i)) T1)),some (.int (zaF (fun p => decide (p ∈ zs.take i)) T2)),some (.ref l),x6] ∧
   Same H H' ∧ H' d1 = some (.dK (T1.map fT)) ∧ H' d2 = some (.dK (T2.map fT)) ∧ H' ls = some (.lst (zs.map V.int)) ∧ H' l = some (.lst wv) ∧ zge H' wv ((zs.take i).map (zaC B))) ?_ (fun i σ H' _ h => ?_) ?_ ?_
  ·refine ⟨[],none,?_,s08,e18,e28,zab,hl8,.nil⟩
   have y : ∀ T : List (Int × Int),zaF (fun p => decide (p ∈ zs.take 0)) T = 0:=fun T => by
    induction T with
    | nil => rfl
    | cons t r ih =>
     show (if decide (t.1 ∈ zs.take 0) = true then t.2 else 0) + zaF _ r = 0
     rw [ih]
     simp
   rw [y T1,y T2,zgT,Int.sub_zero]
   rfl
  ·obtain ⟨_,_,_,_,_,_,hz,_⟩:=h
   exact SqL.of hz
  ·rintro i y σ H' hi ⟨wv,x6,rfl,sH,d1',d2',hz',hw,rw'⟩
   rw [List.getElem?_map] at hi
   cases ex : zs[i]? with
   | none =>
    rw [ex] at hi
    cases hi
   | some qq =>
    rw [ex] at hi
    obtain rfl : V.int qq = y:=Option.some.inj hi
    have Rk : Rep c H' g B:=Same.rep sH R
    obtain ⟨dxb,hb⟩:=id Rk.ob
    have st1 : zaF (fun p => decide (p ∈ zs.take (i + 1))) T1 = zaF (fun p => decide (p ∈ zs.take i)) T1 + (getT T1 qq).getD 0:=by rw [← hT1]; exact zgS rz ex _
    have st2 : zaF (fun p => decide (p ∈ zs.take (i + 1))) T2 = zaF (fun p => decide (p ∈ zs.take i)) T2 + (getT T2 qq).getD 0:=by rw [← hT2]; exact zgS rz ex _
    have hdm : zaF (fun _ => true) T1 - zaF (fun p => decide (p ∈ zs.take i)) T1 = cum true qq B.buys:=by rw [← hT1]; exact walk_buy rz ex fun e he => (mz _).mpr ⟨true,e,he,rfl⟩
    have hsp : zaF (fun p => decide (p ∈ zs.take i)) T2 + (getT T2 qq).getD 0 = cum false qq B.sells:=by rw [← st2,← hT2]; exact zh4 rz ex fun e he => (mz _).mpr ⟨false,e,he,rfl⟩
    have hwl : wv.length < sizeLine:=by
     rw [Paired.len rw',List.length_map,List.length_take,sizeLine_eq]
     omega
    refine (rX rfl (rX rfl ⟨d2,rfl,.inl ⟨_,.inl d2'⟩,rX rfl ⟨_,DGet.k (k:=Sum.inl qq) d2',_,rX rfl ⟨valI T2 qq,?_⟩⟩⟩))
    refine (rX rfl ⟨.inl ⟨rfl,_,SqL.of hw⟩,rX rfl (rX rfl (rX rfl (rX rfl (rM g.b dxb rfl hb rfl ⟨g,B,rfl,Rk,_,_,_,B.last,rfl,fun t ht => ?_⟩))))⟩)
    have ntl : l ≠ t:=zae hw ht
    refine ⟨l,wv,_,rfl,rfl,(zad ntl).trans hw,hwl,?_⟩
    have kk : ∀ x o,H' x = some o → x ≠ l → upd (upd H' t (.tup ((zgO qq (zaF (fun _ => true) T1 - zaF (fun p => decide (p ∈ zs.take i)) T1) (zaF (fun p => decide (p ∈ zs.take i)) T2 + (getT T2 qq).getD 0) B.last).map V.int))) l (.lst (wv ++ [.ref t])) x = some o:=fun x o hx n => by
     rw [zad n]
     exact zai ht _ _ hx
    have d1'':=kk _ _ d1' (zan 6 5 d1' hw)
    refine (rX rfl (rX rfl ⟨d1,rfl,.inl ⟨_,.inl d1''⟩,rX rfl ⟨_,DGet.k (k:=Sum.inl qq) d1'',_,rX rfl ⟨valI T1 qq,?_⟩⟩⟩))
    refine ⟨wv ++ [.ref t],some (.int qq),?_,fun x o hx => kk x o (sH x o hx) (zae hx hl0),d1'',kk _ _ d2' (zan 6 5 d2' hw),kk _ _ hz' nls,zab,?_⟩
    ·rw [st1,st2,← Int.sub_sub]
     rfl
    ·rw [zb1 ex,List.map_append]
     refine Paired.snoc ⟨t,rfl,?_⟩ (Paired.mapP rw' fun v ns ⟨z,h1,h2⟩ => ⟨z,h1,kk z _ h2 (zan 7 5 h2 hw)⟩)
     rw [zad ntl.symm,zab]
     show some (HO.tup ((zgO qq (zaF (fun _ => true) T1 - zaF (fun p => decide (p ∈ zs.take i)) T1) (zaF (fun p => decide (p ∈ zs.take i)) T2 + (getT T2 qq).getD 0) B.last).map V.int)) = _
     rw [hdm,hsp]
     rfl
  ·rintro σ H' ⟨wv,x6,rfl,sH,_,_,_,hw,rw'⟩
   refine (rX rfl (q l wv zs H' sH hw ?_ mz))
   rw [List.length_map,List.take_length] at rw'
   exact rw'
end
end Fb
namespace Fb
open PySem L2
noncomputable def cpOf : List (List Int) → Option (Int × Int)
 | [] => none
 | b :: r => if (zaN b r).headD 0 = 0 then none else some ((zaN b r).getD 3 0,-((zaN b r).headD 0))
noncomputable def mq (B : Bk) (q : Int) : Int:=mn (cum true q B.buys) (cum false q B.sells)
theorem zfd (B : Bk) (q : Int) : zaC B q = [-(mq B q),absI (cum true q B.buys - cum false q B.sells),farI q B.last,q]:=rfl
theorem zeY (B : Bk) (q : Int) (r : List Int) : ∃ z,(z = q ∨ z ∈ r) ∧ zaN (zaC B q) (r.map (zaC B)) = zaC B z ∧ mq B q ≤ mq B z ∧ ∀ y ∈ r,mq B y ≤ mq B z:=by
 obtain ⟨m,_,h1,h2⟩:=zc1 (r.map (zaC B)) (zaC B q) (by rw [zfd]; simp) (fun x hx => by
  obtain ⟨y,_,rfl⟩:=List.mem_map.mp hx
  rw [zfd]
  simp)
 have hz : ∃ z,(z = q ∨ z ∈ r) ∧ zaN (zaC B q) (r.map (zaC B)) = zaC B z:=by
  rcases m with m | m
  ·exact ⟨q,.inl rfl,m⟩
  ·obtain ⟨y,hy,e⟩:=List.mem_map.mp m
   exact ⟨y,.inr hy,e.symm⟩
 obtain ⟨z,hz,e⟩:=hz
 rw [e] at h1 h2
 refine ⟨z,hz,e,?_,fun y hy => ?_⟩
 ·have h1 : -(mq B z) ≤ -(mq B q):=h1
  omega
 ·have : -(mq B z) ≤ -(mq B y):=h2 _ (List.mem_map.mpr ⟨y,hy,rfl⟩)
  omega
theorem zjT {B : Bk} {qs : List Int} {p k : Int} (h : cpOf (qs.map (zaC B)) = some (p,k)) : p ∈ qs ∧ k = mq B p ∧ k ≠ 0 ∧ ∀ y ∈ qs,mq B y ≤ k:=by
 cases qs with
 | nil => cases h
 | cons q r =>
  obtain ⟨z,hz,e,h1,h2⟩:=zeY B q r
  have h : (if (zaN (zaC B q) (r.map (zaC B))).headD 0 = 0 then none else some ((zaN (zaC B q) (r.map (zaC B))).getD 3 0,-((zaN (zaC B q) (r.map (zaC B))).headD 0))) = some (p,k):=h
  rw [e] at h
  have hd : (zaC B z).headD 0 = -(mq B z):=rfl
  have h3 : (zaC B z).getD 3 0 = z:=rfl
  rw [hd,h3] at h
  by_cases h0 : -(mq B z) = 0
  ·rw [if_pos h0] at h
   cases h
  ·rw [if_neg h0] at h
   have e1 : z = p:=congrArg Prod.fst (Option.some.inj h)
   have e2 : - -(mq B z) = k:=congrArg Prod.snd (Option.some.inj h)
   subst e1
   have e3 : k = mq B z:=by omega
   refine ⟨?_,e3,by omega,fun y hy => ?_⟩
   ·rcases hz with rfl | hz
    ·exact List.mem_cons_self
    ·exact List.mem_cons_of_mem _ hz
   ·rcases List.mem_cons.mp hy with rfl | hy
    ·omega
    ·have:=h2 y hy
     omega
theorem cp_none {B : Bk} {qs : List Int} (h : cpOf (qs.map (zaC B)) = none) : ∀ y ∈ qs,mq B y ≤ 0:=by
 cases qs with
 | nil => exact fun y hy => by simp at hy
 | cons q r =>
  obtain ⟨z,hz,e,h1,h2⟩:=zeY B q r
  have h : (if (zaN (zaC B q) (r.map (zaC B))).headD 0 = 0 then none else some ((zaN (zaC B q) (r.map (zaC B))).getD 3 0,-((zaN (zaC B q) (r.map (zaC B))).headD 0))) = none:=h
  rw [e] at h
  have hd : (zaC B z).headD 0 = -(mq B z):=rfl
  rw [hd] at h
  by_cases h0 : -(mq B z) = 0
  ·intro y hy
   rcases List.mem_cons.mp hy with rfl | hy
   ·omega
   ·have:=h2 y hy
    omega
  ·rw [if_neg h0] at h
   cases h
theorem mn_le (a b : Int) : mn a b ≤ a ∧ mn a b ≤ b:=by
 unfold mn
 split <;> omega
theorem zdX {B : Bk} (ps : B.Pos) (h : ∀ b,∀ e ∈ B.at b,mq B e.price ≤ 0) : zcS B = false:=by
 unfold zcS
 cases e1 : B.buys with
 | nil => rfl
 | cons x r =>
  cases e2 : B.sells with
  | nil => rfl
  | cons y t =>
   refine decide_eq_false fun hxy => ?_
   have mx : x ∈ B.at true:=by show x ∈ B.buys; rw [e1]; exact List.mem_cons_self
   have my : y ∈ B.at false:=by show y ∈ B.sells; rw [e2]; exact List.mem_cons_self
   have px:=ps.ps _ x mx
   have py:=ps.ps _ y my
   have c1 : 0 ≤ cum true x.price r:=zbh fun e he => by
    have:=ps.ps true e (by show e ∈ B.buys; rw [e1]; exact List.mem_cons_of_mem _ he)
    omega
   have c2 : 0 ≤ cum false x.price t:=zbh fun e he => by
    have:=ps.ps false e (by show e ∈ B.sells; rw [e2]; exact List.mem_cons_of_mem _ he)
    omega
   have g1 : cum true x.price B.buys = x.left + cum true x.price r:=by rw [e1]; exact zbU (Int.le_refl _)
   have g2 : cum false x.price B.sells = y.left + cum false x.price t:=by rw [e2]; exact zbU hxy
   have top:=h true x mx
   have:=zjb (k:=1) (a:=cum true x.price B.buys) (b:=cum false x.price B.sells) (by omega) (by omega)
   unfold mq at top
   omega
noncomputable def Bk.still (B : Bk) : Bk:={ B with calling:=false }
noncomputable def Uncr (B : Bk) (p : Int) (ts : List (Int × Int × Int)) (B' : Bk) : Prop :=
 ∃ qs : List Int,(∀ p,p ∈ qs ↔ ∃ b,∃ e ∈ B.at b,e.price = p) ∧ ((cpOf (qs.map (zaC B)) = none ∧ ts = [] ∧ B' = B.still) ∨ ∃ k,cpOf (qs.map (zaC B)) = some (p,k) ∧ Trs p B.still k ts B' 0)
theorem zdf {B : Bk} (ok : B.Ok) : B.still.Ok:=⟨ok.so,ok.sd,ok.nd,ok.nx,ok.lt,ok.pl,ok.ct,ok.cm⟩
theorem zcB {B : Bk} (ps : B.Pos) : B.still.Pos:=⟨ps.ps⟩
theorem zfB {B : Bk} (ps : B.Pos) (q : Int) : 0 ≤ mq B q ∧ mq B q ≤ tot B.buys ∧ mq B q ≤ tot B.sells:=by
 have p1 : ∀ e ∈ B.buys,0 ≤ e.left:=fun e he => by have:=ps.ps true e he; omega
 have p2 : ∀ e ∈ B.sells,0 ≤ e.left:=fun e he => by have:=ps.ps false e he; omega
 have a1:=zbh (b:=true) (p:=q) p1
 have a2:=zbh (b:=false) (p:=q) p2
 have b1:=zc4 (b:=true) (p:=q) p1
 have b2:=zc4 (b:=false) (p:=q) p2
 obtain ⟨m1,m2⟩:=mn_le (cum true q B.buys) (cum false q B.sells)
 refine ⟨zjb a1 a2,?_,?_⟩ <;> unfold mq <;> omega
structure UncrOk (B : Bk) (ts : List (Int × Int × Int)) (B' : Bk) : Prop where
 ok : B'.Ok
 ps : B'.Pos
 un : zcS B' = false
 ca : B'.came = B.came
 cl : B'.calling = false
 nm : ∀ b,∀ x ∈ B'.at b,∃ y ∈ B.at b,y.num = x.num ∧ y.price = x.price ∧ y.owner = x.owner
 ln : ts.length ≤ 300000
theorem Uncr.good {B : Bk} {p : Int} {ts : List (Int × Int × Int)} {B' : Bk} (h : Uncr B p ts B') (ok : B.Ok) (ps : B.Pos) (hl : B.buys.length + B.sells.length ≤ 30) : UncrOk B ts B':=by
 obtain ⟨qs,mem,h⟩:=h
 rcases h with ⟨h,rfl,rfl⟩ | ⟨k,h,tr⟩
 ·have hn:=cp_none h
  have un:=zdX ps fun b e he => hn _ ((mem _).mpr ⟨b,e,he,rfl⟩)
  exact ⟨zdf ok,zcB ps,un,rfl,rfl,fun b x hx => ⟨x,hx,rfl,rfl,rfl⟩,Nat.zero_le _⟩
 ·obtain ⟨hp,hk,_,hm⟩:=zjT h
  obtain ⟨q0,q1,_⟩:=zfB ps p
  have g:=tr.good (zdf ok) (zcB ps) (by omega)
  have un:=tr.uncrossed (zdf ok) (zcB ps) (by omega) fun b e he => hm _ ((mem _).mpr ⟨b,e,he,rfl⟩)
  have t1:=zia (xs:=B.buys) fun e he => by have:=ps.ps true e he; omega
  have t2:=g.ln
  exact ⟨g.ok,g.ps,un,g.ca,g.cl,g.nm,by omega⟩
section
variable {P : Program} {w : World} {K : W.Frag} {mg : Str → Option Value} {base : Heap} {bo nt nn be sides ways : Addr} {c : Cs} {a : Ads} {d : Pds} {m : Mds} {n : Nds} {u : Uds}
theorem scCp : FnScope ["book","best"] ["book"] (zak zcY):=fsc
noncomputable def zgm (c : Cs) : Sp:=fun vs H Q _ => ∃ (g : Ga) (B : Bk),vs = [.ref g.b] ∧ Rep c H g B ∧ B.buys.length + B.sells.length ≤ 30 ∧
 ∀ (qs : List Int) (H' : Hp),Same H H' → (∀ p,p ∈ qs ↔ ∃ b,∃ e ∈ B.at b,e.price = p) → (cpOf (qs.map (zaC B)) = none → Q .non H') ∧ ∀ p k t,cpOf (qs.map (zaC B)) = some (p,k) → H' t = none → Q (.ref t) (upd H' t (.tup [.int p,.int k]))
theorem zhP (C : CTxt K mg c) (F : FTxt K mg a c) (N : NTxt K mg c n) (U : UTxt K mg u) (Z : ZTxt mg) : Kp P w K mg base 4 u.callPrice ["book"] (zgm c):=U.callPrice.kp fun fd G => by
 obtain ⟨fd1,G1,b1,k1⟩:=zfL (P:=P) (w:=w) (base:=base) C F N U Z
 refine G.okN scCp (fun vs H Q E h => ?_) (fun cdv A outer s H vs Q E hr h => ?_)
 ·obtain ⟨_,_,rfl,_⟩:=h
  rfl
 ·obtain ⟨g,B,rfl,R,hlen,q⟩:=h
  have hu:=zdd hr
  refine ⟨_,zac (zap (i:=1) scCp.nd rfl (Or.inl rfl) (zfs (zj0 rfl hu) (by rfl) C.min (by decide +kernel) (zaa (zas G1 hr rfl U.gWeighPrices k1 b1 .nil zaq (zaa (pv 0) zag)) zag) zbV))
   (zac (zaJ (PW.pt (zgv (zbB (zcE (pv 1))) (zdy (zao za3 (zaB zax (pv 1) zah (fun _ _ => rfl)) zah (zat _))))) (zaf (zaw zbV)) zau)
   (zaf (zaw (zby (zaa (zaB zax (pv 1) zah (fun _ _ => rfl)) (zaa (pe_un zh6 (zaB zax (pv 1) zah (fun _ _ => rfl))) zag)))))),?_⟩
  refine (rX rfl ⟨g,B,rfl,R,hlen,fun l wv qs H1 s1 hl rows mem => ?_⟩)
  obtain ⟨qn,qs'⟩:=q qs H1 s1 mem
  refine ⟨l,wv,rX rfl ⟨hl,rows,fun e => (rX rfl (rX rfl (iteT (iteT (qn (by rw [e]; rfl)))))),fun b r e t ht => ?_⟩⟩
  cases qs with
  | nil => cases e
  | cons q0 r0 =>
   have e : zaC B q0 :: r0.map (zaC B) = b :: r:=e
   injection e with eb er
   subst eb er
   obtain ⟨z,_,ez,_,_⟩:=zeY B q0 r0
   have hcp : cpOf ((q0 :: r0).map (zaC B)) = if -(mq B z) = 0 then none else some (z,- -(mq B z)):=by
    show (if (zaN (zaC B q0) (r0.map (zaC B))).headD 0 = 0 then none else some ((zaN (zaC B q0) (r0.map (zaC B))).getD 3 0,-((zaN (zaC B q0) (r0.map (zaC B))).headD 0))) = _
    rw [ez]
    rfl
   rw [ez] at ht
   have ht : H1 t = some (.tup [.int (-(mq B z)),.int (absI (cum true z B.buys - cum false z B.sells)),.int (farI z B.last),.int z]):=ht
   refine (rX rfl (rX rfl (iteF (rX rfl (rT t 0 rfl rfl (SqT.of ht) (zaj (j:=0) rfl) ⟨rfl,rX rfl ?_⟩)))))
   by_cases h0 : -(mq B z) = 0
   ·rw [if_pos h0] at hcp
    have dd : decide (V.int (-(mq B z)) = V.int 0) = true:=by simp [h0]
    exact zaD dd (qn hcp)
   ·rw [if_neg h0] at hcp
    have dd : decide (V.int (-(mq B z)) = V.int 0) = false:=by simp [h0]
    refine zar dd ?_
    exact (rX rfl (rT t 3 rfl rfl (SqT.of ht) (zaj (j:=3) rfl) (rX rfl (rT t 0 rfl rfl (SqT.of ht) (zaj (j:=0) rfl) (rX rfl ⟨(by rw [sizeLine_eq]; show 2 ≤ 16777216; decide),fun p hp => qs' _ _ p hcp hp⟩)))))
theorem scUn : FnScope ["book","agreed"] ["book"] (zak zep):=fsc
noncomputable def zig (nn : Addr) (c : Cs) : Sp:=fun vs H Q E => ∃ (g : Ga) (B : Bk),vs = [.ref g.b] ∧ Rep c H g B ∧ B.Ok ∧ B.Pos ∧ B.buys.length + B.sells.length ≤ 30 ∧ (B.calling = false → ∀ x,E (.ref nn) x H) ∧
 (B.calling = true → ∀ (p : Int) (ts : List (Int × Int × Int)) (B' : Bk) (l : Addr) (tv : List V) (H' : Hp),Uncr B p ts B' → Rep c H' g B' → H' l = some (.lst tv) → TvOk p H' tv ts → Fr H g B H' B' → Q (.ref l) H')
theorem kUncross (T : XTxt K mg bo nt nn be) (C : CTxt K mg c) (F : FTxt K mg a c) (N : NTxt K mg c n) (U : UTxt K mg u) (Z : ZTxt mg) : Kp P w K mg base 5 u.uncross ["book"] (zig nn c):=U.uncross.kp fun fd G => by
 obtain ⟨fd1,G1,b1,k1⟩:=zcl (P:=P) (w:=w) (base:=base) C F
 obtain ⟨fd2,G2,b2,k2⟩:=zhP (P:=P) (w:=w) (base:=base) C F N U Z
 obtain ⟨fd3,G3,b3,k3⟩:=kTradeAt (P:=P) (w:=w) (base:=base) C F U
 refine G.okX scUn (fun vs H Q E h => ?_) (fun cdv A outer s H vs Q E hr h => ?_)
 ·obtain ⟨_,_,rfl,_⟩:=h
  rfl
 ·obtain ⟨g,B,rfl,R,ok,ps,hlen,q1,q2⟩:=h
  have hr1 : Room 1 _:=hr.mono (by decide)
  obtain ⟨dxb,hb⟩:=id R.ob
  refine ⟨_,zac (zaJ (zcD (zbv (zbC (pv 0) C.clB F.mIsCalling G1 hr1 b1 .nil zaq))) (zaf (zbb rfl rfl T.mgNN T.xNN (zb0 fun _ _ _ h => h) (zaa zam zag))) zau)
   (zac (zap (i:=1) scUn.nd rfl (Or.inl rfl) (zas G2 hr rfl U.gCallPrice k2 b2 .nil zaq (zaa (pv 0) zag)))
   (zac (zaP (pv 0) zcu rfl)
   (zac (zaJ (zbB (zcE (pv 1))) (zaf (zaw (zbg zag))) zau)
   (zaf (zaw (zas G3 hr rfl U.gTradeAt k3 b3 .nil zaq (zaa (pv 0) (zaa (zaB zax (pv 1) zah (fun _ _ => rfl)) (zaa (zaB zax (pv 1) zah (fun _ _ => rfl)) zag))))))))),?_⟩
  refine (rX rfl (rM g.b dxb rfl hb rfl ⟨g,B,rfl,R,rX rfl ?_⟩))
  show if (!B.calling) = true then _ else _
  cases hc : B.calling with
  | false => exact iteT ⟨zaL,q1 hc⟩
  | true =>
   refine iteF (rX rfl ⟨g,B,rfl,R,hlen,fun qs H1 s1 mem => ⟨fun hn => ?_,fun p k t hcp ht => ?_⟩⟩)
   ·have R1:=Same.rep s1 R
    obtain ⟨dx1,hb1⟩:=id R1.ob
    refine (rX rfl ⟨g.b,c.B,dx1,rX rfl ⟨hb1,C.clB,C.b5,(by show 7 < 1000; decide),?_⟩⟩)
    refine (rX rfl (rX rfl (iteT ⟨(by rw [sizeLine_eq]; show 0 ≤ 16777216; decide),fun l hl => ?_⟩)))
    have R2 : Rep c (upd H1 g.b (.ins c.B dx1 (zd2 g.nb g.ds g.de B.places false B.last B.vol))) g B.still:=zeD (B':=B.still) R1 hb1 rfl rfl rfl rfl
    refine q2 hc 0 [] B.still l [] _ ⟨qs,mem,.inl ⟨hn,rfl,rfl⟩⟩ (Same.rep (zai hl) R2) zab .nil ⟨fun x o hx nf => ?_,fun x f => .inl f⟩
    refine zai hl _ _ ?_
    rw [zad fun z => nf (.inl z)]
    exact s1 _ _ hx
   ·have R1:=Same.rep (zai (o:=.tup [.int p,.int k]) ht) (Same.rep s1 R)
    have t1 : upd H1 t (.tup [.int p,.int k]) t = some (.tup [.int p,.int k]):=zab
    have s2 : Same H (upd H1 t (.tup [.int p,.int k])):=s1.trans (zai ht)
    generalize upd H1 t (.tup [.int p,.int k]) = H2 at *
    obtain ⟨dx1,hb1⟩:=id R1.ob
    refine (rX rfl ⟨g.b,c.B,dx1,rX rfl ⟨hb1,C.clB,C.b5,(by show 7 < 1000; decide),?_⟩⟩)
    have R2 : Rep c (upd H2 g.b (.ins c.B dx1 (zd2 g.nb g.ds g.de B.places false B.last B.vol))) g B.still:=zeD (B':=B.still) R1 hb1 rfl rfl rfl rfl
    have t2 : ∀ v,upd H2 g.b v t = some (.tup [.int p,.int k]):=fun v => (zad (zan 7 3 t1 hb1)).trans t1
    obtain ⟨hp,hk,hk0,hm⟩:=zjT hcp
    obtain ⟨m0,m1,m2⟩:=zfB ps p
    have b1:=zia (xs:=B.buys) fun e he => by have:=ps.ps true e he; omega
    refine (rX rfl (rX rfl (iteF (rX rfl (rX rfl (rT t 0 rfl rfl (SqT.of (t2 _)) (zaj (j:=0) rfl) (rX rfl (rT t 1 rfl rfl (SqT.of (t2 _)) (zaj (j:=1) rfl) ⟨g,B.still,p,k,rfl,R2,zdf ok,zcB ps,by omega,?_,by omega,fun ts B' l tv H' tr R' hl tvk kp ft hln => ?_⟩))))))))
    ·intro b
     cases b
     ·show k ≤ tot B.sells
      omega
     ·show k ≤ tot B.buys
      omega
    ·refine q2 hc p ts B' l tv H' ⟨qs,mem,.inr ⟨k,hcp,tr⟩⟩ R' hl tvk ⟨fun x o hx nf => ?_,fun x f => .inl (ft x f)⟩
     refine kp x o ?_ nf
     rw [zad fun z => nf (.inl z)]
     exact s2 _ _ hx
end
end Fb
namespace Fb
open PySem L2
theorem zj7 {B : Bk} (ok : B.Ok) {x : Ent} {r : List Ent} {b : Bool} (h : B.at b = x :: r) {z : Ent} (hz : z ∈ B.at b) : if b = true then z.price ≤ x.price else x.price ≤ z.price:=by
 have bx:=ok.sd b x (by rw [h]; exact List.mem_cons_self)
 have bz:=ok.sd b z hz
 have so:=ok.so b
 rw [h] at so hz
 have key : x.k1 ≤ z.k1:=by
  rcases List.mem_cons.mp hz with rfl | hz
  ·exact Int.le_refl _
  ·have:=(List.pairwise_cons.mp so).1 z hz
   rcases this with h1 | h1 <;> omega
 unfold Ent.k1 at key
 rw [bx,bz] at key
 cases b with
 | true =>
  rw [if_pos rfl,if_pos rfl] at key
  rw [if_pos rfl]
  omega
 | false =>
  rw [if_neg Bool.false_ne_true,if_neg Bool.false_ne_true] at key
  rw [if_neg Bool.false_ne_true]
  exact key
noncomputable def Within (B B' : Bk) : Prop:=∀ b,∀ x ∈ B'.at b,∃ y ∈ B.at b,y.num = x.num ∧ y.price = x.price
theorem Bk.Ok.anew {B : Bk} (ok : B.Ok) {e : Ent} (he : e ∈ B.at e.buy) (l s : Int) (r : Addr) : (((B.mod e l s).out (e.as l s)).put (e.as l s) r).Ok:=by
 have hm:=zaQ he l s
 have ok1:=ok.mod e l s
 obtain ⟨q1,_⟩:=zaT (B.mod e l s) e.buy (remE (e.as l s) ((B.mod e l s).at e.buy))
 obtain ⟨q2,_⟩:=zaT B e.buy (modE e.num l s (B.at e.buy))
 have hc : ((B.mod e l s).out (e.as l s)).came = B.came:=q1.trans q2
 have hlt:=ok.lt _ e he
 refine (ok1.out _).put r hlt.1 ?_ (fun b x hx => zdE ok1 hm hx) ?_
 ·rw [hc]
  exact hlt.2
 ·rw [hc]
  have z1:=zbN (B.mod e l s) e.buy (remE (e.as l s) ((B.mod e l s).at e.buy))
  have z2 : (remE (e.as l s) ((B.mod e l s).at e.buy)).length + 1 = ((B.mod e l s).at e.buy).length:=zeF (ok1.so _) hm
  have z3:=zcb (B.mod e l s) e.buy
  have z4:=zbN B e.buy (modE e.num l s (B.at e.buy))
  have z5:=zcb B e.buy
  rw [zdk] at z4
  have z6 : (B.mod e l s).buys.length + (B.mod e l s).sells.length = (B.at e.buy).length + (B.at (!e.buy)).length:=z4
  have z7 : ((B.mod e l s).out (e.as l s)).buys.length + ((B.mod e l s).out (e.as l s)).sells.length = (remE (e.as l s) ((B.mod e l s).at e.buy)).length + ((B.mod e l s).at (!e.buy)).length:=z1
  have h2:=ok.ct
  omega
theorem many_of {k : Int} (h : zbo k = true) : 1 ≤ k ∧ k ≤ 10000:=by
 unfold zbo at h
 simp at h
 omega
theorem zhv {B : Bk} (ok : B.Ok) (ps : B.Pos) {e : Ent} (he : e ∈ B.at e.buy) {k : Int} (hk : zbo k = true) (r : Addr) : (B.chg e k r).Ok ∧ (B.chg e k r).Pos ∧ Within B (B.chg e k r) ∧ (B.chg e k r).came = B.came ∧ (B.chg e k r).calling = B.calling:=by
 obtain ⟨k1,k2⟩:=many_of hk
 have pe:=ps.ps _ e he
 obtain ⟨m1,m2,m3,m4,m5⟩:=zaT B e.buy (modE e.num k e.shown (B.at e.buy))
 obtain ⟨o1,o2,o3,o4,o5⟩:=zaT (B.mod e k e.shown) e.buy (remE (e.as k e.shown) ((B.mod e k e.shown).at e.buy))
 obtain ⟨p1,p2,p3,p4,p5⟩:=zdz ((B.mod e k e.shown).out (e.as k e.shown)) (e.as k e.shown) r
 obtain ⟨n1,n2,n3,n4,n5⟩:=zaT B e.buy (modE e.num k (mn e.shown k) (B.at e.buy))
 unfold Bk.chg
 split
 ·refine ⟨ok.anew he k e.shown r,?_,fun b x hx => ?_,p1.trans (o1.trans m1),p3.trans (o3.trans m3)⟩
  ·exact Bk.Pos.put ⟨fun b x hx => ps.ps b x (zbj ok he _ _ hx).1⟩ r k1 k2 pe.2.2.2.1 pe.2.2.2.2.1 pe.2.2.2.2.2
  ·rcases zbd hx with ⟨hb,q⟩ | hx
   ·subst q
    rw [hb]
    exact ⟨e,he,rfl,rfl⟩
   ·exact ⟨x,(zbj ok he _ _ hx).1,rfl,rfl⟩
 ·obtain ⟨w1,w2⟩:=mn_le e.shown k
  refine ⟨ok.mod e _ _,ps.mod e (zjb (by omega) k1) w2 k2,fun b x hx => ?_,n1,n3⟩
  obtain ⟨y,hy,q⟩:=zb7 hx
  refine ⟨y,hy,?_⟩
  rw [q]
  split <;> exact ⟨rfl,rfl⟩
theorem Came.leaves {B : Bk} {ow : Int} {b : Bool} {pr : Option Int} {many : Int} {way : Str} {evs : List Ev} {B2 : Bk} {l : Int} (h : Came B ow b pr many way evs B2 l) (ok : B.Ok) (hc : B.came < 500) : Leaves B.adm B2 ∧ B2.Ok:=by
 rcases h with ⟨_,_,rfl,_⟩ | ⟨_,_,m,_⟩
 ·exact ⟨⟨rfl,rfl,Nat.le_refl _,fun b x hx => ⟨x,hx,rfl,rfl,rfl⟩⟩,ok.admit hc⟩
 ·exact m.leaves (ok.admit hc)
theorem zei.nums {B : Bk} {ow : Int} {b : Bool} {pr : Option Int} {many : Int} {shows : Option Int} {way : Str} {evs : List Ev} {B' : Bk} (h : zei B ow b pr many shows way evs B') (ok : B.Ok) (hc : B.came < 500) :
  ∀ b',∀ x ∈ B'.at b',(∃ y ∈ B.at b',y.num = x.num ∧ y.price = x.price) ∨ (b' = b ∧ x.num = B.came ∧ pr = some x.price ∧ way = "rest"):=by
 obtain ⟨B2,l,hcm,_,_,h⟩:=h
 obtain ⟨lv,ok2⟩:=hcm.leaves ok hc
 have old : ∀ b',∀ x ∈ B2.at b',∃ y ∈ B.at b',y.num = x.num ∧ y.price = x.price:=fun b' x hx => by
  obtain ⟨y,hy,h1,h2,_⟩:=lv.nm b' x hx
  exact ⟨y,hy,h1,h2⟩
 rcases h with ⟨hw,_,ce,o,p,r,rfl,rfl⟩ | ⟨_,rfl⟩
 ·intro b' x hx
  rcases zbd hx with ⟨hb,q⟩ | hx
  ·subst q
   exact .inr ⟨hb,rfl,rfl,hw⟩
  ·exact .inl (old b' x hx)
 ·exact fun b' x hx => .inl (old b' x hx)
end Fb
namespace Fb
open PySem L2
noncomputable def Ev.num : Ev → Int
 | .out n => n
 | .trade n _ _ => n
noncomputable def Ev.many : Ev → Int
 | .out _ => 0
 | .trade _ _ k => k
noncomputable def zbS : List Ev → Int
 | [] => 0
 | x :: r => x.many + zbS r
theorem zbK (x : Ev) : ∀ xs : List Ev,zbS (xs ++ [x]) = zbS xs + x.many
 | [] => by show x.many + 0 = 0 + x.many; omega
 | y :: r => by
  show y.many + zbS (r ++ [x]) = y.many + zbS r + x.many
  rw [zbK x r]
  omega
theorem zf0 (ow : Int) (b : Bool) (pr : Option Int) (e : Ent) : ∀ xs : List Ent,cntS ow b pr (insE e xs) = cntS ow b pr (e :: xs)
 | [] => rfl
 | x :: r => by
  unfold insE
  split
  ·show _ + cntS ow b pr (insE e r) = _ + (_ + cntS ow b pr r)
   rw [zf0 ow b pr e r]
   show _ + (_ + cntS ow b pr r) = _ + (_ + cntS ow b pr r)
   omega
  ·rfl
theorem zfZ {ow : Int} {b : Bool} {pr : Option Int} : ∀ {xs : List Ent},(∀ y ∈ xs,za0 y.price (zav b) pr = false) → cntS ow b pr xs = 0
 | [],_ => rfl
 | x :: r,h => by
  show (if za0 x.price (zav b) pr = true ∧ x.owner ≠ ow then x.left else 0) + cntS ow b pr r = 0
  rw [if_neg (by rw [h x List.mem_cons_self]; exact fun z => Bool.false_ne_true z.1),zfZ fun y hy => h y (List.mem_cons_of_mem _ hy)]
  rfl
noncomputable def Ev.of (ow : Int) (y : Ent) : Ev → Prop
 | .out n => y.num = n ∧ y.owner = ow
 | .trade n p k => y.num = n ∧ y.owner ≠ ow ∧ p = y.price ∧ 1 ≤ k ∧ k ≤ 10000
theorem Ev.of_num {ow : Int} {y : Ent} {x : Ev} (h : x.of ow y) : y.num = x.num:=by
 cases x with
 | out n => exact h.1
 | trade n p k => exact h.1
structure MetG (ow : Int) (b : Bool) (pr : Option Int) (B : Bk) (l : Int) (evs : List Ev) (B' : Bk) (l' : Int) : Prop where
 lv : Leaves B B'
 ok : B'.Ok
 ps : B'.Pos
 nn : 0 ≤ l'
 sm : zbS evs + l' = l
 ct : cntS ow b pr (B.at (!b)) - l = cntS ow b pr (B'.at (!b)) - l'
 ys : ∃ ys : List Ent,Paired (fun y x => Ev.of ow y x) ys evs ∧ (∀ y ∈ ys,y ∈ B.at (!b) ∧ za0 y.price (zav b) pr = true) ∧ ys.Pairwise (fun y z => y.k1 ≤ z.k1) ∧ ∀ y ∈ ys,∀ x ∈ B'.at (!b),y.k1 ≤ x.k1
 fi : ∀ x r,evs = x :: r → ∃ y t,B.at (!b) = y :: t ∧ x.num = y.num
 em : evs = [] → B' = B
theorem zjA {B : Bk} (ok : B.Ok) {b : Bool} {e : Ent} {r : List Ent} (h : B.at b = e :: r) : ∀ x ∈ B.at b,e.k1 ≤ x.k1:=by
 intro x hx
 have hs:=ok.so b
 rw [h] at hs hx
 rcases List.mem_cons.mp hx with rfl | hx
 ·exact Int.le_refl _
 ·have z:=(List.pairwise_cons.mp hs).1 x hx
  unfold Ent.lt klt at z
  omega
theorem k1_of {x y : Ent} (hb : x.buy = y.buy) (hp : x.price = y.price) : x.k1 = y.k1:=by
 unfold Ent.k1
 rw [hb,hp]
theorem MetP.good {ow : Int} {b : Bool} {pr : Option Int} {B : Bk} {l : Int} {evs : List Ev} {B' : Bk} {l' : Int} (h : MetP ow b pr B l evs B' l') (ok : B.Ok) (ps : B.Pos) (hl : 0 ≤ l) : MetG ow b pr B l evs B' l':=by
 induction h with
 | nil => exact ⟨⟨rfl,rfl,Nat.le_refl _,fun b x hx => ⟨x,hx,rfl,rfl,rfl⟩⟩,ok,ps,hl,by show 0 + _ = _; omega,rfl,⟨[],.nil,fun _ h => absurd h (by simp),List.Pairwise.nil,fun _ h => absurd h (by simp)⟩,(fun x r h => by cases h),fun _ => rfl⟩
 | @out evs B1 l1 e r m h hl1 hs ho ih =>
  have lvs:=(MetP.out m h hl1 hs ho).leaves ok
  have ok1:=ih.ok
  have hbb : e.buy = !b:=ok1.sd (!b) e (by rw [h]; exact List.mem_cons_self)
  have hme : e ∈ B1.at (!b):=by rw [h]; exact List.mem_cons_self
  obtain ⟨y,hy,y1,y2,y3⟩:=ih.lv.nm (!b) e hme
  have hyb : y.buy = !b:=ok.sd (!b) y hy
  have hyk : y.k1 = e.k1:=k1_of (hyb.trans hbb.symm) y2
  obtain ⟨ys,p1,p2,p3,p4⟩:=ih.ys
  have hat:=ziV h hbb
  refine ⟨lvs.1,lvs.2,ih.ps.out e,ih.nn,?_,?_,⟨ys ++ [y],Paired.snoc (F:=fun y x => Ev.of ow y x) (x:=y) (y:=.out e.num) ⟨y1,y3.trans ho⟩ p1,fun z hz => ?_,?_,fun z hz x hx => ?_⟩,fun x t q => ?_,fun q => absurd q (by simp)⟩
  ·rw [zbK]
   have:=ih.sm
   show zbS evs + 0 + l1 = _
   omega
  ·rw [ih.ct,hat,h]
   show (if za0 e.price (zav b) pr = true ∧ e.owner ≠ ow then e.left else 0) + cntS ow b pr r - l1 = _
   rw [if_neg fun z => z.2 ho]
   omega
  ·rcases List.mem_append.mp hz with hz | hz
   ·exact p2 z hz
   ·rw [List.mem_singleton.mp hz]
    exact ⟨hy,by rw [y2]; exact hs⟩
  ·refine List.pairwise_append.mpr ⟨p3,List.pairwise_singleton _ _,fun z hz u hu => ?_⟩
   rw [List.mem_singleton.mp hu,hyk]
   exact p4 z hz e hme
  ·have hx1 : x ∈ B1.at (!b):=by
    rw [hat] at hx
    rw [h]
    exact List.mem_cons_of_mem _ hx
   rcases List.mem_append.mp hz with hz | hz
   ·exact p4 z hz x hx1
   ·rw [List.mem_singleton.mp hz,hyk]
    exact zjA ok1 h x hx1
  ·cases evs with
   | nil =>
    have q1 : B1 = B:=ih.em rfl
    rw [q1] at h
    have : x = Ev.out e.num:=by
     have:=congrArg List.head? q
     simpa using this.symm
    exact ⟨e,r,h,by rw [this]; rfl⟩
   | cons x0 r0 =>
    have : x0 = x:=by
     have:=congrArg List.head? q
     simpa using this
    subst this
    exact ih.fi x0 r0 rfl
 | @trade evs B1 l1 e r k m h hl1 hs ho ih =>
  have lvs:=(MetP.trade k m h hl1 hs ho).leaves ok
  have ok1:=ih.ok
  have hbb : e.buy = !b:=ok1.sd (!b) e (by rw [h]; exact List.mem_cons_self)
  have hme : e ∈ B1.at (!b):=by rw [h]; exact List.mem_cons_self
  obtain ⟨y,hy,y1,y2,y3⟩:=ih.lv.nm (!b) e hme
  have hyb : y.buy = !b:=ok.sd (!b) y hy
  have hyk : y.k1 = e.k1:=k1_of (hyb.trans hbb.symm) y2
  obtain ⟨ys,p1,p2,p3,p4⟩:=ih.ys
  have pe:=ih.ps.ps _ e hme
  have hnn:=ih.nn
  obtain ⟨w1,w2⟩:=mn_le l1 e.shown
  have w3 : 1 ≤ mn l1 e.shown:=zjb (by omega) (by omega)
  have hat : ((B1.less e (mn l1 e.shown) k).noted e.price (mn l1 e.shown)).at (!b) = (B1.less e (mn l1 e.shown) k).at (!b):=by cases b <;> rfl
  have hle:=zjj ok1 h hbb (mn l1 e.shown) k
  have hme' : e ∈ B1.at e.buy:=by rw [hbb]; exact hme
  have hsub : ∀ x ∈ (B1.less e (mn l1 e.shown) k).at (!b),∃ x' ∈ B1.at (!b),x'.k1 = x.k1:=fun x hx => by
   have hxb : x.buy = !b:=lvs.2.sd (!b) x (by rw [hat]; exact hx)
   obtain ⟨x',hx',_,z2,_⟩:=zhg (r:=k) ok1 hme' hx
   exact ⟨x',hx',k1_of ((ok1.sd (!b) x' hx').trans hxb.symm) z2⟩
  refine ⟨lvs.1,lvs.2,zgu (ih.ps.less ok1 hme' w3 w2 k) _ _,by omega,?_,?_,⟨ys ++ [y],Paired.snoc (F:=fun y x => Ev.of ow y x) (x:=y) (y:=.trade e.num e.price (mn l1 e.shown)) ⟨y1,fun z => ho (y3.symm.trans z),y2.symm,w3,by omega⟩ p1,fun z hz => ?_,?_,fun z hz x hx => ?_⟩,fun x t q => ?_,fun q => absurd q (by simp)⟩
  ·rw [zbK]
   have:=ih.sm
   show zbS evs + mn l1 e.shown + (l1 - mn l1 e.shown) = _
   omega
  ·rw [ih.ct,hat,hle,h]
   show (if za0 e.price (zav b) pr = true ∧ e.owner ≠ ow then e.left else 0) + cntS ow b pr r - l1 = _
   rw [if_pos ⟨hs,ho⟩]
   split
   ·omega
   ·split
    ·rw [zf0]
     show _ = (if za0 e.price (zav b) pr = true ∧ e.owner ≠ ow then e.left - mn l1 e.shown else 0) + cntS ow b pr r - _
     rw [if_pos ⟨hs,ho⟩]
     omega
    ·show _ = (if za0 e.price (zav b) pr = true ∧ e.owner ≠ ow then e.left - mn l1 e.shown else 0) + cntS ow b pr r - _
     rw [if_pos ⟨hs,ho⟩]
     omega
  ·rcases List.mem_append.mp hz with hz | hz
   ·exact p2 z hz
   ·rw [List.mem_singleton.mp hz]
    exact ⟨hy,by rw [y2]; exact hs⟩
  ·refine List.pairwise_append.mpr ⟨p3,List.pairwise_singleton _ _,fun z hz u hu => ?_⟩
   rw [List.mem_singleton.mp hu,hyk]
   exact p4 z hz e hme
  ·rw [hat] at hx
   obtain ⟨x',hx',z2⟩:=hsub x hx
   rw [← z2]
   rcases List.mem_append.mp hz with hz | hz
   ·exact p4 z hz x' hx'
   ·rw [List.mem_singleton.mp hz,hyk]
    exact zjA ok1 h x' hx'
  ·cases evs with
   | nil =>
    have q1 : B1 = B:=ih.em rfl
    rw [q1] at h
    have : x = Ev.trade e.num e.price (mn l1 e.shown):=by
     have:=congrArg List.head? q
     simpa using this.symm
    exact ⟨e,r,h,by rw [this]; rfl⟩
   | cons x0 r0 =>
    have : x0 = x:=by
     have:=congrArg List.head? q
     simpa using this
    subst this
    exact ih.fi x0 r0 rfl
theorem zfy {B : Bk} (ok : B.Ok) {b : Bool} {pr : Option Int} {l : Int} (hl : l ≠ 0) (h : zbJ (B.at (!b)) l b pr = .non) : ∀ y ∈ B.at (!b),za0 y.price (zav b) pr = false:=fun y hy => by
 cases e1 : B.at (!b) with
 | nil =>
  rw [e1] at hy
  simp at hy
 | cons z t =>
  have bh:=zj7 ok e1 hy
  rw [e1] at h
  have h : (if l = 0 then V.non else if za0 z.price (zav b) pr = true then .ref z.ea else .non) = .non:=h
  rw [if_neg hl] at h
  by_cases hs : za0 z.price (zav b) pr = true
  ·rw [if_pos hs] at h
   cases h
  ·cases pr with
   | none => exact absurd rfl hs
   | some p =>
    cases b with
    | true =>
     have hs : ¬ (if zav true = "buy" then decide (z.price ≤ p) else decide (p ≤ z.price)) = true:=hs
     rw [if_pos (show zav true = "buy" from rfl)] at hs
     have bh : z.price ≤ y.price:=bh
     have : ¬ z.price ≤ p:=fun w => hs (decide_eq_true w)
     show (if zav true = "buy" then decide (y.price ≤ p) else decide (p ≤ y.price)) = false
     rw [if_pos (show zav true = "buy" from rfl)]
     exact decide_eq_false (by omega)
    | false =>
     have hs : ¬ (if zav false = "buy" then decide (z.price ≤ p) else decide (p ≤ z.price)) = true:=hs
     rw [if_neg (by decide +kernel)] at hs
     have bh : y.price ≤ z.price:=bh
     have : ¬ p ≤ z.price:=fun w => hs (decide_eq_true w)
     show (if zav false = "buy" then decide (y.price ≤ p) else decide (p ≤ y.price)) = false
     rw [if_neg (by decide +kernel)]
     exact decide_eq_false (by omega)
theorem zh2 {ow : Int} {b : Bool} {pr : Option Int} {B : Bk} {l : Int} {evs : List Ev} {B' : Bk} {l' : Int} (g : MetG ow b pr B l evs B' l') (hm : l ≤ cntS ow b pr (B.at (!b))) (hn : zbJ (B'.at (!b)) l' b pr = .non) : l' = 0:=by
 by_cases h : l' = 0
 ·exact h
 ·have h1:=zfZ (ow:=ow) (zfy g.ok h hn)
  have h2:=g.ct
  have h3:=g.nn
  omega
end Fb
namespace L2
open PySem
theorem SqL.keep {K : W.Frag} {H H' : Hp} {a : PySem.Addr} {xs : List V} (h : SqL K H a xs) (k : ∀ o,H a = some o → H' a = some o) : SqL K H' a xs:=by
 rcases h with (h | ⟨o,h⟩) | h
 ·exact .inl (.inl (k _ h))
 ·exact .inl (.inr ⟨o,k _ h⟩)
 ·exact .inr h
noncomputable def tCut (t : TS) : TS:=fun D σ H => ∃ R : St → Hp → Prop,t { D with nx:=R } σ H ∧ ∀ σ' H',R σ' H' → D.nx σ' H'
theorem zdB {X : Cx} {st : Stmt} {t : TS} (h : PS X st t) : PS X st (tCut t):=by
 intro pins s σ H D I h2
 obtain ⟨R,h1,h2⟩:=h2
 refine wpAny_mono (h pins s σ H { D with nx:=R } I h1) (fun f s1 q => ?_) fun _ _ z => z
 cases f with
 | next =>
  obtain ⟨σ',H',I',q⟩:=q
  exact ⟨σ',H',I',h2 _ _ q⟩
 | brk => exact q
 | cont => exact q
 | ret u => exact q
end L2
namespace Fb
open PySem L2
structure Eds where
 cell : Addr
 mix : Addr
 price : Addr
 deed : Addr
 asked : Addr
 keep : Addr
structure ETxt (K : W.Frag) (mg : Str → Option Value) (bo nt nn be : Addr) (e : Eds) : Prop where
 cell : Dn K "_law_cell" "_law_cell" zey e.cell ["_law_script","_law_k"]
 gCell : mg "_law_cell" = some (.ref e.cell)
 mix : Dn K "_law_mix" "_law_mix" zgr e.mix ["_law_script","_law_k"]
 gMix : mg "_law_mix" = some (.ref e.mix)
 price : Dn K "_law_price" "_law_price" zdu e.price ["_law_script","_law_k"]
 gPrice : mg "_law_price" = some (.ref e.price)
 deed : Dn K "_law_deed" "_law_deed" zex e.deed ["_law_script","_law_k"]
 gDeed : mg "_law_deed" = some (.ref e.deed)
 asked : Dn K "_law_asked" "_law_asked" zdv e.asked ["_law_book","_law_deed_here"]
 gAsked : mg "_law_asked" = some (.ref e.asked)
 keep : Dn K "_law_keep" "_law_keep" zev e.keep ["_law_record","_law_deed_here","_law_found"]
 gKeep : mg "_law_keep" = some (.ref e.keep)
 xlB : XLook K bo
 xlT : XLook K nt
 xlN : XLook K nn
 mB : W.mroIn K bo (.ref be) = some true
 mT : W.mroIn K nt (.ref be) = some true
 mN : W.mroIn K nn (.ref be) = some true
 iBB : W.kitOne K (.ref bo) (.ref bo) = some true
 iBT : W.kitOne K (.ref bo) (.ref nt) = some false
 iBN : W.kitOne K (.ref bo) (.ref nn) = some false
 iTB : W.kitOne K (.ref nt) (.ref bo) = some false
 iTT : W.kitOne K (.ref nt) (.ref nt) = some true
 iTN : W.kitOne K (.ref nt) (.ref nn) = some false
 iNB : W.kitOne K (.ref nn) (.ref bo) = some false
 iNT : W.kitOne K (.ref nn) (.ref nt) = some false
 iNN : W.kitOne K (.ref nn) (.ref nn) = some true
 vB : W.kitOne K (.ref bo) (.type "ValueError") = some true
 vT : W.kitOne K (.ref nt) (.type "ValueError") = some true
 vN : W.kitOne K (.ref nn) (.type "ValueError") = some true
 tTT : W.kitOne K (.type "tuple") (.type "tuple") = some true
 tST : W.kitOne K (.type "str") (.type "tuple") = some false
 tIS : W.kitOne K (.type "int") (.type "str") = some false
 tSS : W.kitOne K (.type "str") (.type "str") = some true
 tBB : W.kitOne K (.type "bool") (.type "bool") = some true
 gi : mg "isinstance" = none
 gv : mg "ValueError" = none
 gbool : mg "bool" = none
 gstr : mg "str" = none
 gtuple : mg "tuple" = none
 grange : mg "range" = none
section
variable {P : Program} {w : World} {K : W.Frag} {mg : Str → Option Value} {base : Heap} {bo nt nn be sides ways : Addr} {c : Cs} {a : Ads} {d : Pds} {e : Eds}
theorem at_mod (ns : List Int) (k : Int) (h : ns ≠ []) : ∃ v,atI (ns.map V.int) (k % ((ns.map V.int).length : Int)) = some (.int v):=by
 have hl : 0 < ns.length:=by
  cases ns with
  | nil => exact absurd rfl h
  | cons x r => exact Nat.succ_pos _
 rw [List.length_map]
 have h1:=Int.emod_nonneg k (show (ns.length : Int) ≠ 0 by omega)
 have h2:=Int.emod_lt_of_pos k (show (0 : Int) < (ns.length : Int) by omega)
 obtain ⟨j,hj⟩ : ∃ j : Nat,k % (ns.length : Int) = (j : Int):=⟨(k % (ns.length : Int)).toNat,by omega⟩
 have hjl : j < ns.length:=by omega
 refine ⟨ns[j],?_⟩
 rw [hj]
 refine zaj ?_
 rw [List.getElem?_map,List.getElem?_eq_getElem hjl]
 rfl
theorem scCe : FnScope ["_law_script","_law_k"] ["_law_script","_law_k"] (zak zey):=fsc
noncomputable def spCell (K : W.Frag) : Sp:=fun vs H Q _ => ∃ (s : Addr) (ns : List Int) (k : Int),vs = [.ref s,.int k] ∧ SqL K H s (ns.map V.int) ∧ ∀ v : Int,Q (.int v) H
theorem kCell (C : CTxt K mg c) (L : ETxt K mg bo nt nn be e) : Kp P w K mg base 1 e.cell ["_law_script","_law_k"] (spCell K):=L.cell.kp fun fd G => by
 refine G.okN scCe (fun vs H Q E h => ?_) (fun cdv A outer s H vs Q E hr h => ?_)
 ·obtain ⟨_,_,_,rfl,_⟩:=h
  rfl
 ·obtain ⟨sa,ns,k,rfl,hS,q⟩:=h
  refine ⟨_,zac (zaJ (zeI (pv 0) (fun _ => rfl)) (zaf (zaw (zaB zbe (pv 0) (zaA za1 (pv 1) (zaE zbE (by rfl) C.len (by decide +kernel) (zaa (pv 0) zag))) (fun _ _ => rfl)))) zau) (zaf (zaw zah)),?_⟩
  refine (rX rfl ⟨_,.inl ⟨_,hS,rfl⟩,?_⟩)
  by_cases hn : ns = []
  ·subst hn
   exact iteF (q 0)
  ·obtain ⟨v,hv⟩:=at_mod ns k hn
   have hne : (!(ns.map V.int).isEmpty) = true:=by
    cases ns with
    | nil => exact absurd rfl hn
    | cons x r => rfl
   rw [hne]
   have hl : 0 < ns.length:=by
    cases ns with
    | nil => exact absurd rfl hn
    | cons x r => exact Nat.succ_pos _
   exact iteT (rX rfl (rX rfl (rX rfl ⟨sa,rX rfl ⟨.inl hS,r2 rfl rfl ⟨(by show (0 : Int) < ((ns.map V.int).length : Int); rw [List.length_map]; omega),sa,_,_,.int v,rfl,rfl,hS,hv,q v⟩⟩⟩)))
theorem scMi : FnScope ["_law_script","_law_k","_law_number"] ["_law_script","_law_k"] (zak zgr):=fsc
noncomputable def spMix (K : W.Frag) : Sp:=fun vs H Q _ => ∃ (s : Addr) (ns : List Int) (k : Int),vs = [.ref s,.int k] ∧ SqL K H s (ns.map V.int) ∧ ∀ v : Int,0 ≤ v → v < 4294967231 → Q (.int v) H
theorem kMix (C : CTxt K mg c) (L : ETxt K mg bo nt nn be e) : Kp P w K mg base 2 e.mix ["_law_script","_law_k"] (spMix K):=L.mix.kp fun fd G => by
 obtain ⟨fd1,G1,b1,k1⟩:=kCell (P:=P) (w:=w) (base:=base) C L
 refine G.okN scMi (fun vs H Q E h => ?_) (fun cdv A outer s H vs Q E hr h => ?_)
 ·obtain ⟨_,_,_,rfl,_⟩:=h
  rfl
 ·obtain ⟨sa,ns,k,rfl,hS,q⟩:=h
  refine ⟨_,zac (zap (i:=2) scMi.nd rfl (Or.inl rfl) (zaA za1 (zaA zbz (zas G1 hr rfl L.gCell k1 b1 .nil zaq (zaa (pv 0) (zaa (pv 1) zag))) (zaA zhb zah (zaA zbz (pv 1) zah))) zah))
   (zac (zap (i:=2) scMi.nd rfl (Or.inl rfl) (zaA za1 (zaA zhb (pv 2) zah) zah))
   (zaf (zaw (zaA za1 (zaA zbz (zaA zhb (zaA zaX (pv 2) zah) zah) (pv 2)) zah)))),?_⟩
  refine (rX rfl (rX rfl ⟨sa,ns,k,rfl,hS,fun v => ?_⟩))
  refine (rX rfl (r2 rfl rfl (r2 rfl rfl ⟨.inl ⟨by decide,by decide⟩,r2 rfl rfl (r2 rfl rfl ⟨(by show (0 : Int) < 4294967291; decide),?_⟩)⟩)))
  refine (rX rfl (r2 rfl rfl ⟨.inr ⟨by decide,by decide⟩,r2 rfl rfl ⟨(by show (0 : Int) < 4294967279; decide),?_⟩⟩))
  refine (rX rfl (r2 rfl rfl ⟨⟨by decide,by decide⟩,r2 rfl rfl ⟨.inr ⟨by decide,by decide⟩,rX rfl (r2 rfl rfl (r2 rfl rfl ⟨(by show (0 : Int) < 4294967231; decide),?_⟩))⟩⟩))
  exact q _ (Int.emod_nonneg _ (by decide)) (Int.emod_lt_of_pos _ (by decide))
theorem pick {L : List V} {i : Int} (h0 : 0 ≤ i) (h1 : i < L.length) : ∃ v ∈ L,atI L i = some v:=by
 obtain ⟨j,rfl⟩ : ∃ j : Nat,i = (j : Int):=⟨i.toNat,by omega⟩
 have hj : j < L.length:=by omega
 exact ⟨L[j],List.getElem_mem hj,zaj (List.getElem?_eq_getElem hj)⟩
theorem zcn {K : W.Frag} {H : Hp} {p : Addr} {L : List V} {i : Int} {Q : VK} (hp : H p = some (.lst L)) (h0 : 0 ≤ i) (h1 : i < L.length) (q : ∀ v ∈ L,Q v H) : rIxL K (.ref p) (.int i) H Q:=by
 obtain ⟨v,hv,e⟩:=pick h0 h1
 exact ⟨p,L,i,v,rfl,rfl,SqL.of hp,e,q v hv⟩
theorem zbY {L : List V} (n : Nat) (h : L.length = n) (hn : n ≤ 1000:=by decide) : L.length ≤ sizeLine:=by rw [sizeLine_eq,h]; omega
theorem scPr : FnScope ["_law_script","_law_k","_law_number","_law_base"] ["_law_script","_law_k"] (zak zdu):=fsc
noncomputable def spPrice (K : W.Frag) : Sp:=fun vs H Q _ => ∃ (s : Addr) (ns : List Int) (k : Int),vs = [.ref s,.int k] ∧ SqL K H s (ns.map V.int) ∧ ∀ (v : Int) (H' : Hp),Same H H' → 1 ≤ v → v ≤ 1000000000 → Q (.int v) H'
theorem kPrice (C : CTxt K mg c) (L : ETxt K mg bo nt nn be e) : Kp P w K mg base 3 e.price ["_law_script","_law_k"] (spPrice K):=L.price.kp fun fd G => by
 obtain ⟨fd1,G1,b1,k1⟩:=kMix (P:=P) (w:=w) (base:=base) C L
 refine G.okN scPr (fun vs H Q E h => ?_) (fun cdv A outer s H vs Q E hr h => ?_)
 ·obtain ⟨_,_,_,rfl,_⟩:=h
  rfl
 ·obtain ⟨sa,ns,k,rfl,hS,q⟩:=h
  refine ⟨_,zac (zap (i:=2) scPr.nd rfl (Or.inl rfl) (zas G1 hr rfl L.gMix k1 b1 .nil zaq (zaa (pv 0) (zaa (pv 1) zag))))
   (zac (zap (i:=3) scPr.nd rfl (Or.inl rfl) (zaA zbz zah (zaA za1 (zas G1 hr rfl L.gMix k1 b1 .nil zaq (zaa (pv 0) (zaa zah zag))) zah)))
   (zaf (zaw (zaB zbe (zbg (zaa (zaA zbz (pv 3) (zaA za1 (zaA zaX (pv 2) zah) zah)) (zaa (zaA zbz (pv 3) (zaA za1 (zaA zaX (pv 2) zah) zah)) (zaa (pv 3) (zaa zah (zaa zah (zaa (zaA zbz (pv 3) (zaA za1 (zaA zaX (pv 2) zah) zah)) zag)))))))
    (zaA za1 (pv 2) zah) (fun _ _ => rfl))))),?_⟩
  refine (rX rfl (rX rfl ⟨sa,ns,k,rfl,hS,fun n hn0 hn1 => ?_⟩))
  refine (rX rfl ⟨sa,ns,3,rfl,hS,fun m hm0 hm1 => (r2 rfl rfl ⟨(by show (0 : Int) < 999999980; decide),r2 rfl rfl ?_⟩)⟩)
  refine (rX rfl (rX rfl (r2 rfl rfl ⟨⟨by decide,by decide⟩,r2 rfl rfl ⟨(by show (0 : Int) < 6; decide),r2 rfl rfl ?_⟩⟩)))
  refine (rX rfl (rX rfl (r2 rfl rfl ⟨⟨by decide,by decide⟩,r2 rfl rfl ⟨(by show (0 : Int) < 6; decide),r2 rfl rfl ?_⟩⟩)))
  refine (rX rfl (rX rfl (rX rfl (r2 rfl rfl ⟨⟨by decide,by decide⟩,r2 rfl rfl ⟨(by show (0 : Int) < 15; decide),r2 rfl rfl ⟨zbY 6 rfl,fun p hp => ?_⟩⟩⟩))))
  refine (rX rfl (r2 rfl rfl ⟨(by show (0 : Int) < 6; decide),zcn zab (by omega) (by show _ < (6 : Int); omega) fun v hv => ?_⟩))
  simp only [List.mem_cons,List.not_mem_nil,or_false] at hv
  rcases hv with rfl | rfl | rfl | rfl | rfl | rfl
  all_goals exact q _ _ (zai hp) (by omega) (by omega)
end
end Fb
namespace L2
open PySem
section
variable {X : Cx} {es : List Expr} {te : TE} {t : TA} {pos : Pos}
theorem pa_K {k : Const} {j : Nat} (ha : PE X (.Constant k j pos) te) (hr : PA X es t) : PA X (.Constant k j pos :: es) (zba te t):=zaa ha hr rfl
theorem pa_N {x : Str} (ha : PE X (.Name x pos) te) (hr : PA X es t) : PA X (.Name x pos :: es) (zba te t):=zaa ha hr rfl
theorem pa_X {a b : Expr} (ha : PE X (.Subscript a b pos) te) (hr : PA X es t) : PA X (.Subscript a b pos :: es) (zba te t):=zaa ha hr rfl
theorem pa_B {a b : Expr} {o : Operator} (ha : PE X (.BinOp a o b pos) te) (hr : PA X es t) : PA X (.BinOp a o b pos :: es) (zba te t):=zaa ha hr rfl
end
end L2
namespace Fb
open PySem L2
inductive Dd where
 | pl (ow : Int) (b : Bool) (pr : Option Int) (many : Int) (shows : Option Int) (way : Str)
 | ca (k j : Int)
 | ch (k j : Int)
 | cl (vs : List V)
 | un (k j : Int)
noncomputable def Dd.vals : Dd → List V
 | .pl ow b pr many shows way => [.str "place",.int ow,.str (zav b),oV pr,.int many,oV shows,.str way]
 | .ca k j => [.str "cancel",.int k,.int j]
 | .ch k j => [.str "change",.int k,.int j]
 | .cl vs => .str "call" :: vs
 | .un k j => [.str "uncross",.int k,.int j]
noncomputable def Dd.Ok : Dd → Prop
 | .pl ow b pr many shows way => (0 ≤ ow ∧ ow ≤ 3) ∧ (∀ p,pr = some p → 0 ≤ p ∧ p ≤ 1000000000) ∧ (pr = none → way ≠ "rest") ∧ 1 ≤ many ∧ many ≤ 10000 ∧ (∀ s,shows = some s → 1 ≤ s ∧ s ≤ many ∧ way = "rest") ∧ (way = "rest" ∨ way = "now" ∨ way = "whole")
 | .cl _ => True
 | .ca k j | .ch k j | .un k j => 0 ≤ k ∧ k ≤ 15 ∧ 0 ≤ j ∧ j ≤ 10001
theorem zfe {way : Str} (h : way = "rest" ∨ way = "now" ∨ way = "whole") : (reprText way).length ≤ 2000 ∧ way.length ≤ 2000:=by
 rcases h with rfl | rfl | rfl
 all_goals decide +kernel
theorem Dd.small {ow : Int} {b : Bool} {pr : Option Int} {many : Int} {shows : Option Int} {way : Str} (h : (Dd.pl ow b pr many shows way).Ok) : Small (zav b) pr many shows way:=by
 obtain ⟨_,h1,_,h2,h3,h4,h5⟩:=h
 have e : (10 : Nat) ^ 30 = 1000000000000000000000000000000:=by decide
 refine ⟨by cases b <;> decide +kernel,(zfe h5).1,(zfe h5).2,fun i hi => ?_,by omega,fun i hi => ?_⟩
 ·have:=h1 i hi
  omega
 ·have:=h4 i hi
  omega
section
variable {P : Program} {w : World} {K : W.Frag} {mg : Str → Option Value} {base : Heap} {bo nt nn be sides ways : Addr} {c : Cs} {a : Ads} {d : Pds} {e : Eds}
theorem scDe : FnScope ["_law_script","_law_k","_law_number","_law_word","_law_many","_law_way","_law_price_here","_law_shows"] ["_law_script","_law_k"] (zak zex):=fsc
noncomputable def spDeed (K : W.Frag) : Sp:=fun vs H Q _ => ∃ (s : Addr) (ns : List Int) (k : Int),vs = [.ref s,.int k] ∧ SqL K H s (ns.map V.int) ∧ ∀ (dd : Dd) (t : Addr) (H' : Hp),dd.Ok → Same H H' → H t = none → H' t = some (.tup dd.vals) → Q (.ref t) H'
theorem Same.seq {H H' : Hp} {sa : Addr} {xs : List V} (s : Same H H') (h : SqL K H sa xs) : SqL K H' sa xs:=h.keep fun o ho => s _ _ ho
theorem kDeed (C : CTxt K mg c) (L : ETxt K mg bo nt nn be e) : Kp P w K mg base 4 e.deed ["_law_script","_law_k"] (spDeed K):=L.deed.kp fun fd G => by
 obtain ⟨fd1,G1,b1,k1⟩:=kMix (P:=P) (w:=w) (base:=base) C L
 obtain ⟨fd2,G2,b2,k2⟩:=kPrice (P:=P) (w:=w) (base:=base) C L
 refine G.okN scDe (fun vs H Q E h => ?_) (fun cdv A outer s H vs Q E hr h => ?_)
 ·obtain ⟨_,_,_,rfl,_⟩:=h
  rfl
 ·obtain ⟨sa,ns,k,rfl,hS,q⟩:=h
  have hr2 : Room 2 _:=hr.mono (by decide)
  refine ⟨_,zac (zap (i:=2) scDe.nd rfl (Or.inl rfl) (zas G1 hr2 rfl L.gMix k1 b1 .nil zaq (zaa (pv 0) (zaa (pv 1) zag))))
   (zac (zap (i:=3) scDe.nd rfl (Or.inl rfl) (zaB zbe (zbg (pa_K zam (pa_K zam (pa_K zam (pa_K zam (pa_K zam (pa_K zam (pa_K zam (pa_K zam (pa_K zam (pa_K zam zag))))))))))) (zaA za1 (pv 2) zah) (fun _ _ => rfl)))
   (zac (zaJ (zao zfw (pv 3) zam (zat _)) (zaf (zaw (zby (zaa (pv 3) (zaa (zaA za1 (zaA zaX (pv 2) zah) zah) (zaa (zaB zbe (zbg (zaa (zaA za1 (zaA zaX (pv 2) zah) zah) (zaa zah zag))) (zaA zaX (zaA za1 (zaA zaX (pv 2) zah) zah) zah) (fun _ _ => rfl)) zag)))))) zau)
   (zac (zap (i:=4) scDe.nd rfl (Or.inl rfl) (zaA zbz zah (zaA za1 (zas G1 hr2 rfl L.gMix k1 b1 .nil zaq (zaa (pv 0) (zaa (zaA zbz (pv 1) zah) zag))) zah)))
   (zac (zap (i:=5) scDe.nd rfl (Or.inl rfl) (zaB zbe (zbg (zaa zam (zaa zam (zaa zam (zaa zam (zaa zam zag)))))) (zaA za1 (zaA zaX (pv 2) zah) zah) (fun _ _ => rfl)))
   (zac (zap (i:=6) scDe.nd rfl (Or.inl rfl) (zas G2 hr rfl L.gPrice k2 b2 .nil zaq (zaa (pv 0) (zaa (zaA zbz (pv 1) zah) zag))))
   (zac (zap (i:=7) scDe.nd rfl (Or.inl rfl) zbV)
   (zac (zdB (zaJ (PW.pt (zbf (zao za3 (pv 5) zam (zat _)) (za2 (zao za3 (zaA za1 (zaA zaX (pv 2) zah) zah) zah (zat _)))))
    (zaf (zap (i:=7) scDe.nd rfl (Or.inl rfl) (zaA zbz zah (zaA za1 (zaA zaX (pv 2) zah) (pv 4)))))
    (zaf (zaJ (zao za3 (zaA za1 (zaA zaX (pv 2) zah) zah) zah (zat _)) (zaf (zap (i:=4) scDe.nd rfl (Or.inl rfl) (zaB zbe (zbg (zaa zah (zaa zah (zaa zah zag)))) (zaA za1 (zaA zaX (pv 2) zah) zah) (fun _ _ => rfl)))) zau))))
   (zac (zdB (zaJ (PW.pt (zbf (zao zfw (pv 5) zam (zat _)) (za2 (zao za3 (zaA za1 (zaA zaX (pv 2) zah) zah) zah (zat _))))) (zaf (zap (i:=6) scDe.nd rfl (Or.inl rfl) zbV)) zau))
   (zac (zdB (zaJ (zao za3 (zaA za1 (zaA zaX (pv 2) zah) zah) zah (zat _)) (zaf (zap (i:=6) scDe.nd rfl (Or.inl rfl) zah)) zau))
   (zaf (zaw (zby (pa_N (pv 3) (pa_B (zaA za1 (zaA zaX (pv 2) zah) zah) (pa_X (zaB zbe (zbg (zaa zam (zaa zam zag))) (zaA za1 (zaA zaX (pv 2) zah) zah) (fun _ _ => rfl)) (pa_N (pv 6) (pa_N (pv 4) (pa_N (pv 7) (pa_N (pv 5) zag))))))))))))))))))),?_⟩
  refine (rX rfl (rX rfl ⟨sa,ns,k,rfl,hS,fun n hn0 hn1 => ?_⟩))
  refine ⟨zbY 10 rfl,fun p1 hp1 => (rX rfl (r2 rfl rfl ⟨(by show (0 : Int) < 10; decide),zcn zab (by omega) (by show _ < (10 : Int); omega) fun v hv => ?_⟩))⟩
  have s1:=zai (o:=.lst [.str "place",.str "place",.str "place",.str "place",.str "place",.str "place",.str "cancel",.str "change",.str "call",.str "uncross"]) hp1
  generalize upd H p1 (.lst [.str "place",.str "place",.str "place",.str "place",.str "place",.str "place",.str "cancel",.str "change",.str "call",.str "uncross"]) = H1 at *
  have hw : ∃ wd : Str,v = .str wd ∧ (wd = "place" ∨ ∃ f : Int → Int → Dd,(∀ i j,(f i j).vals = [.str wd,.int i,.int j]) ∧ (∀ i j,0 ≤ i → i ≤ 15 → 0 ≤ j → j ≤ 10001 → (f i j).Ok) ∧ wd ≠ "place"):=by
   simp only [List.mem_cons,List.not_mem_nil,or_false] at hv
   rcases hv with rfl | rfl | rfl | rfl | rfl | rfl | rfl | rfl | rfl | rfl
   all_goals first
    | exact ⟨_,rfl,.inl rfl⟩
    | exact ⟨_,rfl,.inr ⟨.ca,fun _ _ => rfl,fun _ _ h1 h2 h3 h4 => ⟨h1,h2,h3,h4⟩,by decide +kernel⟩⟩
    | exact ⟨_,rfl,.inr ⟨.ch,fun _ _ => rfl,fun _ _ h1 h2 h3 h4 => ⟨h1,h2,h3,h4⟩,by decide +kernel⟩⟩
    | exact ⟨_,rfl,.inr ⟨fun k j => .cl [.int k,.int j],fun _ _ => rfl,fun _ _ _ _ _ _ => trivial,by decide +kernel⟩⟩
    | exact ⟨_,rfl,.inr ⟨.un,fun _ _ => rfl,fun _ _ h1 h2 h3 h4 => ⟨h1,h2,h3,h4⟩,by decide +kernel⟩⟩
  obtain ⟨wd,rfl,hw⟩:=hw
  refine (rX rfl ⟨rfl,rX rfl ?_⟩)
  rcases hw with rfl | ⟨f,fv,fo,hne⟩
  rotate_left
  ·have dd : (!decide (V.str wd = V.str ("place" : Str))) = true:=by simp [hne]
   refine zaD dd (rX rfl (rX rfl (r2 rfl rfl ⟨⟨by decide,by decide⟩,r2 rfl rfl ⟨(by show (0 : Int) < 16; decide),rX rfl (r2 rfl rfl ⟨⟨by decide,by decide⟩,r2 rfl rfl ⟨(by show (0 : Int) < 42; decide),zbY 2 rfl,fun p2 hp2 => ?_⟩⟩)⟩⟩)))
   refine (rX rfl (r2 rfl rfl ⟨⟨by decide,by decide⟩,r2 rfl rfl ⟨(by show (0 : Int) < 12; decide),r2 rfl rfl ⟨⟨by decide,by decide⟩,zcn zab (by omega) (by show _ < (2 : Int); omega) fun v2 hv2 => ?_⟩⟩⟩))
   have hj : ∃ j : Int,v2 = .int j ∧ 0 ≤ j ∧ j ≤ 10001:=by
    simp only [List.mem_cons,List.not_mem_nil,or_false] at hv2
    rcases hv2 with rfl | rfl
    ·exact (rX rfl ⟨by omega,by omega⟩)
    ·exact (rX rfl ⟨by decide,by decide⟩)
   obtain ⟨j,rfl,j0,j1⟩:=hj
   refine ⟨zbY 3 rfl,fun t ht => ?_⟩
   exact q (f (n / 10 % 16) j) t _ (fo _ j (by omega) (by omega) j0 j1) (s1.trans ((zai hp2).trans (zai ht))) ((s1.trans (zai hp2)).free ht) (by rw [zab,fv])
  ·refine iteF ?_
   refine (rX rfl (rX rfl (r2 rfl rfl ⟨sa,ns,rX rfl ⟨Same.seq s1 hS,fun m hm0 hm1 => (r2 rfl rfl ⟨(by show (0 : Int) < 20; decide),r2 rfl rfl ?_⟩)⟩⟩)))
   refine ⟨zbY 5 rfl,fun p2 hp2 => (rX rfl (r2 rfl rfl ⟨⟨by decide,by decide⟩,r2 rfl rfl ⟨(by show (0 : Int) < 5; decide),zcn zab (by omega) (by show _ < (5 : Int); omega) fun v2 hv2 => ?_⟩⟩))⟩
   have s2:=zai (o:=.lst [.str "rest",.str "rest",.str "rest",.str "now",.str "whole"]) hp2
   generalize upd H1 p2 (.lst [.str "rest",.str "rest",.str "rest",.str "now",.str "whole"]) = H2 at *
   have hway : ∃ way : Str,v2 = .str way ∧ (way = "rest" ∨ way = "now" ∨ way = "whole"):=by
    simp only [List.mem_cons,List.not_mem_nil,or_false] at hv2
    rcases hv2 with rfl | rfl | rfl | rfl | rfl
    ·exact (rX rfl (.inl rfl))
    ·exact (rX rfl (.inl rfl))
    ·exact (rX rfl (.inl rfl))
    ·exact (rX rfl (.inr (.inl rfl)))
    ·exact (rX rfl (.inr (.inr rfl)))
   obtain ⟨way,rfl,hway⟩:=hway
   refine (rX rfl (rX rfl (r2 rfl rfl ⟨sa,ns,rX rfl ⟨Same.seq (s1.trans s2) hS,fun pr H3 s3 hp0 hp1' => ?_⟩⟩)))
   have s03 : Same H H3:=s1.trans (s2.trans s3)
   have hm1 : 1 ≤ 1 + m % 20 ∧ 1 + m % 20 ≤ 20:=by omega
   refine ⟨fun σ' H' => ∃ (many' : Int) (shows : Option Int),σ' = [some (.ref sa),some (.int k),some (.int n),some (.str "place"),some (.int many'),some (.str way),some (.int pr),some (oV shows)] ∧ Same H3 H' ∧ 1 ≤ many' ∧ many' ≤ 10000 ∧ ∀ s,shows = some s → 1 ≤ s ∧ s ≤ many' ∧ way = "rest",?_,?_⟩
   ·refine (rX rfl ⟨rfl,rX rfl ?_⟩)
    refine zjy (iteF ?_) fun hc x => (rX rfl (r2 rfl rfl ⟨⟨by decide,by decide⟩,r2 rfl rfl ⟨(by show (0 : Int) < 3; decide),rfl,rX rfl ?_⟩⟩))
    ·refine (rX rfl (r2 rfl rfl ⟨⟨by decide,by decide⟩,r2 rfl rfl ⟨(by show (0 : Int) < 12; decide),rfl,rX rfl ?_⟩⟩))
     by_cases h5 : n / 50 % 12 = 1
     ·have dd : decide (V.int (n / 50 % 12) = V.int 1) = true:=by simp [h5]
      refine zaD dd ⟨zbY 3 rfl,fun p3 hp3 => (rX rfl (r2 rfl rfl ⟨⟨by decide,by decide⟩,r2 rfl rfl ⟨(by show (0 : Int) < 3; decide),zcn zab (by omega) (by show _ < (3 : Int); omega) fun v3 hv3 => ?_⟩⟩))⟩
      have hj : ∃ j : Int,v3 = .int j ∧ 1 ≤ j ∧ j ≤ 10000:=by
       simp only [List.mem_cons,List.not_mem_nil,or_false] at hv3
       rcases hv3 with rfl | rfl | rfl
       all_goals exact ⟨_,rfl,by decide,by decide⟩
      obtain ⟨j,rfl,j0,j1⟩:=hj
      exact ⟨j,none,rfl,zai hp3,j0,j1,fun s hs => by cases hs⟩
     ·have dd : decide (V.int (n / 50 % 12) = V.int 1) = false:=by simp [h5]
      exact zar dd ⟨1 + m % 20,none,rfl,Same.refl _,hm1.1,by omega,fun s hs => by cases hs⟩
    ·by_cases h5 : n / 50 % 3 = 0
     ·have dd : decide (V.int (n / 50 % 3) = V.int 0) = true:=by simp [h5]
      have hwr : way = "rest":=by simpa using hc
      refine zaD dd (rX rfl (r2 rfl rfl ⟨⟨by decide,by decide⟩,rX rfl (r2 rfl rfl ⟨(by show 0 < 1 + m % 20; omega),r2 rfl rfl ?_⟩)⟩))
      have z1:=Int.emod_nonneg (n / 150) (show 1 + m % 20 ≠ 0 by omega)
      have z2:=Int.emod_lt_of_pos (n / 150) (show 0 < 1 + m % 20 by omega)
      exact ⟨1 + m % 20,some (1 + n / 150 % (1 + m % 20)),rfl,Same.refl _,hm1.1,by omega,fun s hs => by cases hs; exact ⟨by omega,by omega,hwr⟩⟩
     ·have dd : decide (V.int (n / 50 % 3) = V.int 0) = false:=by simp [h5]
      exact zar dd (zgy x)
   rintro σ4 H4 ⟨many',shows,rfl,s4,m0,m1,hsh⟩
   refine ⟨fun σ' H' => ∃ prx : Option Int,σ' = [some (.ref sa),some (.int k),some (.int n),some (.str "place"),some (.int many'),some (.str way),some (oV prx),some (oV shows)] ∧ H' = H4 ∧ (∀ p,prx = some p → 0 ≤ p ∧ p ≤ 1000000000) ∧ (prx = none → way ≠ "rest"),?_,?_⟩
   ·refine (rX rfl ⟨rfl,rX rfl ?_⟩)
    have keepP : ∃ prx : Option Int,([some (.ref sa),some (.int k),some (.int n),some (.str "place"),some (.int many'),some (.str way),some (.int pr),some (oV shows)] : St) = [some (.ref sa),some (.int k),some (.int n),some (.str "place"),some (.int many'),some (.str way),some (oV prx),some (oV shows)] ∧ H4 = H4 ∧ (∀ p,prx = some p → 0 ≤ p ∧ p ≤ 1000000000) ∧ (prx = none → way ≠ "rest") :=
     ⟨some pr,rfl,rfl,fun p hp => by cases hp; exact ⟨by omega,hp1'⟩,fun h => by cases h⟩
    refine zjy (iteF keepP) fun hc x => (rX rfl (r2 rfl rfl ⟨⟨by decide,by decide⟩,r2 rfl rfl ⟨(by show (0 : Int) < 3; decide),rfl,rX rfl ?_⟩⟩))
    by_cases h5 : n / 50 % 3 = 0
    ·have dd : decide (V.int (n / 50 % 3) = V.int 0) = true:=by simp [h5]
     have hwr : way ≠ "rest":=by simpa using hc
     exact zaD dd ⟨none,rfl,rfl,fun p hp => (by cases hp),fun _ => hwr⟩
    ·have dd : decide (V.int (n / 50 % 3) = V.int 0) = false:=by simp [h5]
     exact zar dd (zgy x)
   rintro σ5 H5 ⟨prx,rfl,rfl,hpx,hpn⟩
   refine ⟨fun σ' H' => ∃ pry : Option Int,σ' = [some (.ref sa),some (.int k),some (.int n),some (.str "place"),some (.int many'),some (.str way),some (oV pry),some (oV shows)] ∧ H' = H5 ∧ (∀ p,pry = some p → 0 ≤ p ∧ p ≤ 1000000000) ∧ (pry = none → way ≠ "rest"),?_,?_⟩
   ·refine (rX rfl (r2 rfl rfl ⟨⟨by decide,by decide⟩,r2 rfl rfl ⟨(by show (0 : Int) < 24; decide),rfl,rX rfl ?_⟩⟩))
    by_cases h5 : n / 150 % 24 = 0
    ·have dd : decide (V.int (n / 150 % 24) = V.int 0) = true:=by simp [h5]
     exact zaD dd ⟨some 0,rfl,rfl,fun p hp => by cases hp; exact ⟨by decide,by decide⟩,fun h => by cases h⟩
    ·have dd : decide (V.int (n / 150 % 24) = V.int 0) = false:=by simp [h5]
     exact zar dd ⟨prx,rfl,rfl,hpx,hpn⟩
   rintro σ6 H6 ⟨pry,rfl,rfl,hpy,hpm⟩
   refine (rX rfl (rX rfl (r2 rfl rfl ⟨⟨by decide,by decide⟩,r2 rfl rfl ⟨(by show (0 : Int) < 4; decide),zbY 2 rfl,fun p7 hp7 => (rX rfl (r2 rfl rfl ⟨⟨by decide,by decide⟩,r2 rfl rfl ⟨(by show (0 : Int) < 2; decide),zcn zab (by omega) (by show _ < (2 : Int); omega) fun v7 hv7 => ?_⟩⟩))⟩⟩)))
   have hb : ∃ b : Bool,v7 = .str (zav b):=by
    simp only [List.mem_cons,List.not_mem_nil,or_false] at hv7
    rcases hv7 with rfl | rfl
    ·exact ⟨true,rfl⟩
    ·exact ⟨false,rfl⟩
   obtain ⟨b,rfl⟩:=hb
   refine (rX rfl (rX rfl (rX rfl (rX rfl ⟨zbY 7 rfl,fun t ht => ?_⟩))))
   have s67 : Same H (upd H6 p7 (.lst [.str "buy",.str "sell"])):=s03.trans (s4.trans (zai hp7))
   exact q (.pl (n / 3600 % 4) b pry many' shows way) t _ ⟨⟨by omega,by omega⟩,hpy,hpm,m0,m1,hsh,hway⟩ (s67.trans (zai ht)) (s67.free ht) zab
end
end Fb
namespace Fb
open PySem L2
inductive Ans where
 | str (x : Str)
 | num (k : Int)
 | non
 | placed (k : Int) (evs : List Ev)
 | trades (p : Int) (ts : List (Int × Int × Int))
noncomputable def AnsV (H : Hp) (v : V) : Ans → Prop
 | .str x => v = .str x
 | .num k => v = .int k
 | .non => v = .non
 | .placed k evs => ∃ (t l : Addr) (ts : List V),v = .ref t ∧ H t = some (.tup [.int k,.ref l]) ∧ H l = some (.lst ts) ∧ zgf H ts evs ∧ evs.length ≤ 11000
 | .trades p ts => ∃ (l : Addr) (tv : List V),v = .ref l ∧ H l = some (.lst tv) ∧ TvOk p H tv ts ∧ ts.length ≤ 300000
inductive Doing (B : Bk) : Dd → Ans → Bk → Prop
 | bad {ow b pr many shows way} : zbk (zav b) pr many shows way = false → Doing B (.pl ow b pr many shows way) (.str "bad") B
 | now {ow b pr many shows way} : zbk (zav b) pr many shows way = true → B.calling = true → way ≠ "rest" → Doing B (.pl ow b pr many shows way) (.str "now") B
 | pl {ow b pr many shows way evs B'} : zbk (zav b) pr many shows way = true → (B.calling = true → way = "rest") → zei B ow b pr many shows way evs B' → Doing B (.pl ow b pr many shows way) (.placed B.came evs) B'
 | ca {k j e} : e ∈ B.at e.buy → e.num = k → Doing B (.ca k j) (.num e.left) (B.out e)
 | caNo {k j} : (∀ b,∀ e ∈ B.at b,e.num ≠ k) → Doing B (.ca k j) (.str "none") B
 | ch {k j e r} : e ∈ B.at e.buy → e.num = k → zbo j = true → Doing B (.ch k j) .non (B.chg e j r)
 | chBad {k j e} : e ∈ B.at e.buy → e.num = k → zbo j = false → Doing B (.ch k j) (.str "bad") B
 | chNo {k j} : (∀ b,∀ e ∈ B.at b,e.num ≠ k) → Doing B (.ch k j) (.str "none") B
 | cl {vs} : B.calling = false → Doing B (.cl vs) .non { B with calling:=true }
 | clNow {vs} : B.calling = true → Doing B (.cl vs) (.str "now") B
 | un {k j p ts B'} : B.calling = true → Uncr B p ts B' → Doing B (.un k j) (.trades p ts) B'
 | unNow {k j} : B.calling = false → Doing B (.un k j) (.str "now") B
section
variable {P : Program} {w : World} {K : W.Frag} {mg : Str → Option Value} {base : Heap} {bo nt nn be sides ways : Addr} {c : Cs} {a : Ads} {d : Pds} {m : Mds} {n : Nds} {u : Uds} {e : Eds}
theorem foot_chg {g : Ga} {B : Bk} (ok : B.Ok) {e : Ent} (he : e ∈ B.at e.buy) {k : Int} {r x : Addr} (f : Foot g (B.chg e k r) x) : Foot g B x:=by
 have hm:=zaQ he k e.shown
 have so : zbA ((B.mod e k e.shown).at (e.as k e.shown).buy):=(ok.mod e _ _).so _
 unfold Bk.chg at f
 split at f
 ·rcases ze5 f with z | z
  ·exact zbq (zbD so hm z)
  ·exact .inr (.inr (.inr (.inr (.inr ⟨_,e,he,z⟩))))
 ·exact zbq f
theorem scAs : FnScope ["_law_book","_law_deed_here","_law_kept","_law_found","e","_law_kinds"] ["_law_book","_law_deed_here"] (zak zdv):=fsc
noncomputable def spAsked (c : Cs) : Sp:=fun vs H Q _ => ∃ (g : Ga) (B : Bk) (t : Addr) (dd : Dd),vs = [.ref g.b,.ref t] ∧ Rep c H g B ∧ B.Ok ∧ B.Pos ∧ B.came ≤ 30 ∧ H t = some (.tup dd.vals) ∧ dd.Ok ∧
 ∀ (v : V) (ans : Ans) (B' : Bk) (H' : Hp),Doing B dd ans B' → AnsV H' v ans → Rep c H' g B' → B'.Ok → B'.Pos → B'.came ≤ B.came + 1 → Fr H g B H' B' → Q v H'
theorem kAsked (T : XTxt K mg bo nt nn be) (O : OTxt K mg sides ways) (C : CTxt K mg c) (F : FTxt K mg a c) (D : PTxt K mg d) (M : MTxt K mg m) (N : NTxt K mg c n) (U : UTxt K mg u) (Z : ZTxt mg) (L : ETxt K mg bo nt nn be e) :
  Kp P w K mg base 8 e.asked ["_law_book","_law_deed_here"] (spAsked c):=L.asked.kp fun fd G => by
 obtain ⟨fd1,G1,b1,k1⟩:=kPlace (P:=P) (w:=w) (base:=base) T O C F D M
 obtain ⟨fd2,G2,b2,k2⟩:=kCancel (P:=P) (w:=w) (base:=base) T C F N
 obtain ⟨fd3,G3,b3,k3⟩:=kChange (P:=P) (w:=w) (base:=base) T O C F N
 obtain ⟨fd4,G4,b4,k4⟩:=kCallF (P:=P) (w:=w) (base:=base) T C F N
 obtain ⟨fd5,G5,b5,k5⟩:=kUncross (P:=P) (w:=w) (base:=base) T C F N U Z
 refine G.okN scAs (fun vs H Q E h => ?_) (fun cdv A outer s H vs Q E hr h => ?_)
 ·obtain ⟨_,_,_,_,rfl,_⟩:=h
  rfl
 ·obtain ⟨g,B,t,dd,rfl,R,ok,ps,hcm,ht,hdd,q⟩:=h
  have hr5 : Room 5 _:=hr.mono (by decide)
  have hr4 : Room 4 _:=hr.mono (by decide)
  have hr3 : Room 3 _:=hr.mono (by decide)
  have hr2 : Room 2 _:=hr.mono (by decide)
  refine ⟨_,zac (zap (i:=2) scAs.nd rfl (Or.inl rfl) zbV) (zac (zap (i:=3) scAs.nd rfl (Or.inl rfl) zbV)
   (zac (ps_try (i:=2) (j:=4) (E:=fun C' _ H' => ∃ x : Str,Doing B dd (.str x) B ∧ Same H H' ∧ ((C' = .ref bo ∧ x = "bad") ∨ (C' = .ref nt ∧ x = "none") ∨ (C' = .ref nn ∧ x = "now"))) scAs.nd rfl rfl (by decide) rfl rfl rfl rfl (by rfl) T.mgBE T.xBE (fun C' x H' h => by
     obtain ⟨_,_,_,h⟩:=h
     rcases h with ⟨h,_⟩ | ⟨h,_⟩ | ⟨h,_⟩
     ·cases h
      exact ⟨T.xBO,L.mB⟩
     ·cases h
      exact ⟨T.xNT,L.mT⟩
     ·cases h
      exact ⟨T.xNN,L.mN⟩)
    (fun pn xe hp => zaf (zaJ (zao za3 (zaB (r:=rIxT K) zax (pv 1) zah (fun _ _ => rfl)) zam (zat _))
     (zaf (zap (i:=3) scAs.nd rfl (Or.inl rfl) (zas G1 hr rfl D.gPlace k1 b1 .nil hp (pa_N (pv 0) (pa_X (zaB (r:=rIxT K) zax (pv 1) zah (fun _ _ => rfl)) (pa_X (zaB (r:=rIxT K) zax (pv 1) zah (fun _ _ => rfl)) (pa_X (zaB (r:=rIxT K) zax (pv 1) zah (fun _ _ => rfl)) (pa_X (zaB (r:=rIxT K) zax (pv 1) zah (fun _ _ => rfl)) (pa_X (zaB (r:=rIxT K) zax (pv 1) zah (fun _ _ => rfl)) (pa_X (zaB (r:=rIxT K) zax (pv 1) zah (fun _ _ => rfl)) zag))))))))))
     (zaf (zaJ (zao za3 (zaB (r:=rIxT K) zax (pv 1) zah (fun _ _ => rfl)) zam (zat _))
      (zaf (zap (i:=3) scAs.nd rfl (Or.inl rfl) (zas G2 hr3 rfl N.gCancel k2 b2 .nil hp (zaa (pv 0) (zaa (zaB (r:=rIxT K) zax (pv 1) zah (fun _ _ => rfl)) zag)))))
      (zaf (zaJ (zao za3 (zaB (r:=rIxT K) zax (pv 1) zah (fun _ _ => rfl)) zam (zat _))
       (zaf (zap (i:=3) scAs.nd rfl (Or.inl rfl) (zas G3 hr4 rfl N.gChange k3 b3 .nil hp (zaa (pv 0) (zaa (zaB (r:=rIxT K) zax (pv 1) zah (fun _ _ => rfl)) (zaa (zaB (r:=rIxT K) zax (pv 1) zah (fun _ _ => rfl)) zag))))))
       (zaf (zaJ (zao za3 (zaB (r:=rIxT K) zax (pv 1) zah (fun _ _ => rfl)) zam (zat _))
        (zaf (zap (i:=3) scAs.nd rfl (Or.inl rfl) (zas G4 hr2 rfl N.gCall k4 b4 .nil hp (zaa (pv 0) zag))))
        (zaf (zap (i:=3) scAs.nd rfl (Or.inl rfl) (zas G5 hr5 rfl U.gUncross k5 b5 .nil hp (zaa (pv 0) zag)))))))))))))
   (zac (zaJ (zbB (zcE (pv 2))) (zaf (zaw (pv 3))) zau)
   (zac (zap (i:=5) scAs.nd rfl (Or.inl rfl) (zbg (zaa (zaE za5 (by rfl) L.gi (by decide +kernel) (zaa (pv 2) (zaa (zct T.mgBO) zag)))
    (zaa (zaE za5 (by rfl) L.gi (by decide +kernel) (zaa (pv 2) (zaa (zct T.mgNT) zag)))
    (zaa (zaE za5 (by rfl) L.gi (by decide +kernel) (zaa (pv 2) (zaa (zct T.mgNN) zag))) zag)))))
   (zac (zaJ (PW.pt (zgv (zao zfw (zgx PySem.F.plainAttrs_list PySem.F.slot_list_count PySem.F.type_list_count zi8 (pv 5) (zaa zcu zag)) zah (zat _)) (zdy (zcD (zbv (zaE za5 (by rfl) L.gi (by decide +kernel) (zaa (pv 2) (zaa (zeM (v:=.ty "ValueError") (by rfl) L.gv (by decide +kernel) rfl) zag)))))))) (zaf (zaw zam)) zau)
   (zaf (zaw (zaB zbe (zbg (zaa zam (zaa zam (zaa zam zag)))) (zgx PySem.F.plainAttrs_list PySem.F.slot_list_index PySem.F.type_list_index zi7 (pv 5) (zaa zcu zag)) (fun _ _ => rfl))))))))),?_⟩
  have hct : ((B.buys.length + B.sells.length : Nat) : Int) ≤ B.came:=ok.ct
  have e30 : (10 : Nat) ^ 30 = 1000000000000000000000000000000:=by decide
  refine ⟨?_,?_⟩
  ·cases dd with
   | pl ow b pr many shows way =>
    refine (rX rfl (rT t 0 rfl rfl (SqT.of ht) (zaj (j:=0) rfl) ⟨rfl,rX rfl (zaD rfl ?_)⟩))
    refine (rX rfl (rX rfl (rT t 1 rfl rfl (SqT.of ht) (zaj (j:=1) rfl) (rX rfl (rT t 2 rfl rfl (SqT.of ht) (zaj (j:=2) rfl) (rX rfl (rT t 3 rfl rfl (SqT.of ht) (zaj (j:=3) rfl) (rX rfl (rT t 4 rfl rfl (SqT.of ht) (zaj (j:=4) rfl) (rX rfl (rT t 5 rfl rfl (SqT.of ht) (zaj (j:=5) rfl) (rX rfl (rT t 6 rfl rfl (SqT.of ht) (zaj (j:=6) rfl) ?_)))))))))))))
    refine ⟨g,B,ow,zav b,pr,many,shows,way,rfl,R,ok,ps,by omega,Dd.small hdd,fun hb x H' s' => ⟨_,.bad hb,s',.inl ⟨rfl,rfl⟩⟩,fun hg hc hw x H' s' => ⟨_,.now hg hc hw,s',.inr (.inr ⟨rfl,rfl⟩)⟩,?_⟩
    intro hg hcw b' t' l ts evs H' B' hb' ht' hl' hev hlen hpl R' ok' ps' hca' hcl' fr'
    have hbb : b' = b:=by
     cases b <;> cases b' <;> first | rfl | exact absurd hb' (by decide +kernel)
    subst hbb
    exact (rX rfl (rX rfl (iteT (rX rfl (q _ (.placed B.came evs) B' H' (.pl hg hcw hpl) ⟨t',l,ts,rfl,ht',hl',hev,hlen⟩ R' ok' ps' (by omega) fr')))))
   | ca k j =>
    refine (rX rfl (rT t 0 rfl rfl (SqT.of ht) (zaj (j:=0) rfl) ⟨rfl,rX rfl (zar rfl ?_)⟩))
    refine (rX rfl (rT t 0 rfl rfl (SqT.of ht) (zaj (j:=0) rfl) ⟨rfl,rX rfl (zaD rfl ?_)⟩))
    obtain ⟨h1,h2,_,_⟩:=hdd
    refine (rX rfl (rX rfl (rT t 1 rfl rfl (SqT.of ht) (zaj (j:=1) rfl) ⟨g,B,k,rfl,R,ok,by omega,fun x hx hn H' R' f' => ?_,fun hno x => ⟨_,.caNo hno,Same.refl _,.inr (.inl ⟨rfl,rfl⟩)⟩⟩)))
    obtain ⟨q1,_⟩:=zaT B x.buy (remE x (B.at x.buy))
    have q1 : (B.out x).came = B.came:=q1
    exact (rX rfl (rX rfl (iteT (rX rfl (q _ (.num x.left) (B.out x) H' (.ca hx hn) rfl R' (ok.out x) (ps.out x) (by omega) ⟨f',fun y f => .inl (zbD (ok.so _) hx f)⟩)))))
   | ch k j =>
    refine (rX rfl (rT t 0 rfl rfl (SqT.of ht) (zaj (j:=0) rfl) ⟨rfl,rX rfl (zar rfl ?_)⟩))
    refine (rX rfl (rT t 0 rfl rfl (SqT.of ht) (zaj (j:=0) rfl) ⟨rfl,rX rfl (zar rfl ?_)⟩))
    refine (rX rfl (rT t 0 rfl rfl (SqT.of ht) (zaj (j:=0) rfl) ⟨rfl,rX rfl (zaD rfl ?_)⟩))
    obtain ⟨h1,h2,h3,h4⟩:=hdd
    refine (rX rfl (rX rfl (rT t 1 rfl rfl (SqT.of ht) (zaj (j:=1) rfl) (rX rfl (rT t 2 rfl rfl (SqT.of ht) (zaj (j:=2) rfl) ⟨g,B,k,j,rfl,R,ok,by omega,by omega,fun x hx hn hm r H' R' f' => ?_,fun x hx hn hm y => ⟨_,.chBad hx hn hm,Same.refl _,.inl ⟨rfl,rfl⟩⟩,fun hno x => ⟨_,.chNo hno,Same.refl _,.inr (.inl ⟨rfl,rfl⟩)⟩⟩)))))
    obtain ⟨c1,c2,_,c4,_⟩:=zhv ok ps hx hm r
    exact (rX rfl (rX rfl (iteT (rX rfl (q _ .non (B.chg x j r) H' (.ch hx hn hm) rfl R' c1 c2 (by omega) ⟨f',fun y f => .inl (foot_chg ok hx f)⟩)))))
   | cl vs =>
    refine (rX rfl (rT t 0 rfl rfl (SqT.of ht) (zaj (j:=0) rfl) ⟨rfl,rX rfl (zar rfl ?_)⟩))
    refine (rX rfl (rT t 0 rfl rfl (SqT.of ht) (zaj (j:=0) rfl) ⟨rfl,rX rfl (zar rfl ?_)⟩))
    refine (rX rfl (rT t 0 rfl rfl (SqT.of ht) (zaj (j:=0) rfl) ⟨rfl,rX rfl (zar rfl ?_)⟩))
    refine (rX rfl (rT t 0 rfl rfl (SqT.of ht) (zaj (j:=0) rfl) ⟨rfl,rX rfl (zaD rfl ?_)⟩))
    refine (rX rfl ⟨g,B,rfl,R,fun hc x => ⟨_,.clNow hc,Same.refl _,.inr (.inr ⟨rfl,rfl⟩)⟩,fun hc H' R' f' => ?_⟩)
    exact (rX rfl (rX rfl (iteT (rX rfl (q _ .non _ H' (.cl hc) rfl R' ⟨ok.so,ok.sd,ok.nd,ok.nx,ok.lt,ok.pl,ok.ct,ok.cm⟩ ⟨ps.ps⟩ (by show B.came ≤ B.came + 1; omega) ⟨fun x o hx nf => by rw [f' x fun z => nf (.inl z)]; exact hx,fun x f => .inl f⟩)))))
   | un k j =>
    refine (rX rfl (rT t 0 rfl rfl (SqT.of ht) (zaj (j:=0) rfl) ⟨rfl,rX rfl (zar rfl ?_)⟩))
    refine (rX rfl (rT t 0 rfl rfl (SqT.of ht) (zaj (j:=0) rfl) ⟨rfl,rX rfl (zar rfl ?_)⟩))
    refine (rX rfl (rT t 0 rfl rfl (SqT.of ht) (zaj (j:=0) rfl) ⟨rfl,rX rfl (zar rfl ?_)⟩))
    refine (rX rfl (rT t 0 rfl rfl (SqT.of ht) (zaj (j:=0) rfl) ⟨rfl,rX rfl (zar rfl ?_)⟩))
    refine (rX rfl ⟨g,B,rfl,R,ok,ps,by omega,fun hc x => ⟨_,.unNow hc,Same.refl _,.inr (.inr ⟨rfl,rfl⟩)⟩,fun hc p ts B' l tv H' hu R' hl' tvk fr' => ?_⟩)
    have gd:=hu.good ok ps (by omega)
    have:=gd.ca
    exact (rX rfl (rX rfl (iteT (rX rfl (q _ (.trades p ts) B' H' (.un hc hu) ⟨l,tv,rfl,hl',tvk,gd.ln⟩ R' gd.ok gd.ps (by omega) fr')))))
  ·intro C' x H' ⟨ans,hdo,s',hC⟩ hx
   have ex : upd H' x (excO x C') x = some (excO x C'):=zab
   have s1 : Same H (upd H' x (excO x C')):=s'.trans (zai hx)
   obtain ⟨xC,xL,k1,k2,k3,j,h1,h2,h3,h4,hcnt,hj,hjn,ha⟩ : XCl K C' ∧ XLook K C' ∧ ∃ (k1 k2 k3 : Bool) (j : Nat),W.kitOne K (.ref C') (.ref bo) = some k1 ∧ W.kitOne K (.ref C') (.ref nt) = some k2 ∧ W.kitOne K (.ref C') (.ref nn) = some k3 ∧ W.kitOne K (.ref C') (.type "ValueError") = some true ∧
     [k1,k2,k3].countP id = 1 ∧ [k1,k2,k3][j]? = some true ∧ (∀ i,i < j → [k1,k2,k3][i]? = some false) ∧ ([.str "bad",.str "none",.str "now"] : List V)[j]? = some (.str ans):=by
    rcases hC with ⟨h,rfl⟩ | ⟨h,rfl⟩ | ⟨h,rfl⟩
    ·cases h
     exact ⟨T.xBO,L.xlB,true,false,false,0,L.iBB,L.iBT,L.iBN,L.vB,rfl,rfl,fun i hi => absurd hi (Nat.not_lt_zero _),rfl⟩
    ·cases h
     exact ⟨T.xNT,L.xlT,false,true,false,1,L.iTB,L.iTT,L.iTN,L.vT,rfl,rfl,fun i (hi : i < 1) => (by rw [show i = 0 by omega]; rfl),rfl⟩
    ·cases h
     exact ⟨T.xNN,L.xlN,false,false,true,2,L.iNB,L.iNT,L.iNN,L.vN,rfl,rfl,fun i (hi : i < 2) => (by rcases (show i = 0 ∨ i = 1 by omega) with rfl | rfl <;> rfl),rfl⟩
   refine (rX rfl (rX rfl (iteF ?_)))
   refine (rX rfl ⟨_,_,k1,rfl,rfl,.inr ⟨x,C',rfl,ex,xC,xL,h1⟩,rX rfl ⟨_,_,k2,rfl,rfl,.inr ⟨x,C',rfl,ex,xC,xL,h2⟩,rX rfl ⟨_,_,k3,rfl,rfl,.inr ⟨x,C',rfl,ex,xC,xL,h3⟩,zbY 3 rfl,fun p hp => ?_⟩⟩⟩)
   have ex2:=zai (o:=.lst [.bl k1,.bl k2,.bl k3]) hp _ _ ex
   have lp : upd (upd H' x (excO x C')) p (.lst [.bl k1,.bl k2,.bl k3]) p = some (.lst ([k1,k2,k3].map V.bl)):=zab
   have s2:=s1.trans (zai (o:=.lst [.bl k1,.bl k2,.bl k3]) hp)
   generalize upd (upd H' x (excO x C')) p (.lst [.bl k1,.bl k2,.bl k3]) = H2 at *
   refine (rX rfl ⟨.inl ⟨rfl,_,SqL.of lp⟩,p,rX rfl ⟨rfl,lp,rfl,rX rfl ?_⟩⟩)
   rw [hcnt]
   refine zar (by simp) (rX rfl ⟨_,_,true,rfl,rfl,.inr ⟨x,C',rfl,ex2,xC,xL,h4⟩,rX rfl (iteF ?_)⟩)
   refine ⟨zbY 3 rfl,fun p2 hp2 => ?_⟩
   have lp2:=zai (o:=.lst [.str "bad",.str "none",.str "now"]) hp2 _ _ lp
   refine ⟨_,rfl,.inl ⟨rfl,_,SqL.of lp2⟩,p,_,j,rfl,rfl,lp2,hj,hjn,p2,_,_,_,rfl,rfl,SqL.of zab,zaj ha,?_⟩
   have s3:=s2.trans (zai (o:=.lst [.str "bad",.str "none",.str "now"]) hp2)
   exact q _ (.str ans) B _ hdo rfl (Same.rep s3 R) ok ps (by omega) ⟨fun y o hy _ => s3 _ _ hy,fun y f => .inl f⟩
end
end Fb
namespace Fb
open PySem L2
structure Rw where
 ow : Int
 b : Bool
 pr : Option Int
 left : Int
 way : Str
noncomputable def Rw.dat (r : Rw) : List (Key × V):=[(Sum.inr "owner",.int r.ow),(Sum.inr "side",.str (zav r.b)),(Sum.inr "price",oV r.pr),(Sum.inr "left",.int r.left),(Sum.inr "way",.str r.way)]
noncomputable abbrev Rs:=Int → Option Rw
noncomputable def setR (rs : Rs) (n : Int) (r : Rw) : Rs:=fun k => if k = n then some r else rs k
noncomputable def zfK (rs : Rs) : Dd → Ans → Rs
 | .pl ow b pr many _ way,.placed n _ => setR rs n ⟨ow,b,pr,many,way⟩
 | .ch k j,.non => match rs k with
  | some r => setR rs k { r with left:=j }
  | none => rs
 | .ca k _,.num _ => match rs k with
  | some r => setR rs k { r with left:=0 }
  | none => rs
 | _,_ => rs
structure RecOk (H : Hp) (ra : Addr) (rs : Rs) (ad : Int → Addr) (len : Nat) : Prop where
 kv : ∃ kvs,H ra = some (.dK kvs) ∧ kvs.length ≤ len ∧ ∀ n r,rs n = some r → valV kvs (Sum.inl n) = some (.ref (ad n))
 rw : ∀ n r,rs n = some r → H (ad n) = some (.dK r.dat) ∧ ad n ≠ ra
 nj : ∀ n m r r',rs n = some r → rs m = some r' → ad n = ad m → n = m
noncomputable def OwnR (ra : Addr) (rs : Rs) (ad : Int → Addr) (x : Addr) : Prop:=x = ra ∨ ∃ n r,rs n = some r ∧ x = ad n
theorem RecOk.same {H H' : Hp} {ra : Addr} {rs : Rs} {ad : Int → Addr} {len : Nat} (h : RecOk H ra rs ad len) (k : ∀ x o,H x = some o → OwnR ra rs ad x → H' x = some o) : RecOk H' ra rs ad len:=by
 obtain ⟨⟨kvs,h1,h2,h3⟩,h4,h5⟩:=h
 exact ⟨⟨kvs,k _ _ h1 (.inl rfl),h2,h3⟩,fun n r hr => ⟨k _ _ (h4 n r hr).1 (.inr ⟨n,r,hr,rfl⟩),(h4 n r hr).2⟩,h5⟩
theorem RecOk.own_some {H : Hp} {ra : Addr} {rs : Rs} {ad : Int → Addr} {len : Nat} (h : RecOk H ra rs ad len) {x : Addr} (o : OwnR ra rs ad x) : ∃ u,H x = some u ∧ kd u = 6:=by
 rcases o with rfl | ⟨n,r,hr,rfl⟩
 ·obtain ⟨kvs,h1,_⟩:=h.kv
  exact ⟨_,h1,rfl⟩
 ·exact ⟨_,(h.rw n r hr).1,rfl⟩
theorem len_put {kvs : List (Key × V)} (k : Key) (v : V) : (putK kvs k v).length ≤ kvs.length + 1:=by
 unfold putK
 split
 ·rw [List.length_map]
  exact Nat.le_succ _
 ·rw [List.length_append]
  exact Nat.le_refl _
theorem zjd (r : Rw) : zdH [] r.dat = r.dat:=rfl
theorem zg1 (r : Rw) (k : Int) : putK r.dat (Sum.inr "left") (.int k) = Rw.dat { r with left:=k }:=rfl
theorem RecOk.add {H H2 : Hp} {ra : Addr} {rs : Rs} {ad : Int → Addr} {len : Nat} (h : RecOk H ra rs ad len) {n : Int} {r : Rw} {p : Addr} {kvs : List (Key × V)} (hp : H p = none) (hk : H ra = some (.dK kvs)) (h2 : H2 p = some (.dK r.dat)) (h3 : H2 ra = some (.dK (putK kvs (Sum.inl n) (.ref p)))) (h4 : ∀ x o,H x = some o → x ≠ ra → H2 x = some o) :
  RecOk H2 ra (setR rs n r) (fun k => if k = n then p else ad k) (len + 1):=by
 obtain ⟨⟨kvs',e1,e2,e3⟩,e4,e5⟩:=h
 rw [hk] at e1
 obtain rfl : kvs = kvs':=by injection e1 with e1; injection e1
 have np : p ≠ ra:=fun z => by rw [z,hk] at hp; cases hp
 have nd : ∀ m x,rs m = some x → ad m ≠ p:=fun m x hm z => by
  have:=(e4 m x hm).1
  rw [z,hp] at this
  cases this
 refine ⟨⟨_,h3,Nat.le_trans (len_put _ _) (by omega),fun m x hm => ?_⟩,fun m x hm => ?_,fun m m' x x' hm hm' hz => ?_⟩
 ·rw [zek]
  unfold setR at hm
  by_cases z : m = n
  ·subst z
   rw [if_pos rfl,if_pos rfl]
  ·rw [if_neg z] at hm
   rw [if_neg (fun w => z (Sum.inl.inj w)),if_neg z]
   exact e3 m x hm
 ·unfold setR at hm
  by_cases z : m = n
  ·rw [if_pos z] at hm
   obtain rfl:=Option.some.inj hm
   rw [if_pos z]
   exact ⟨h2,np⟩
  ·rw [if_neg z] at hm
   rw [if_neg z]
   exact ⟨h4 _ _ (e4 m x hm).1 (e4 m x hm).2,(e4 m x hm).2⟩
 ·unfold setR at hm hm'
  by_cases z : m = n
  ·by_cases z' : m' = n
   ·rw [z,z']
   ·rw [if_neg z'] at hm'
    have hz : p = ad m':=by simpa [z,z'] using hz
    exact absurd hz.symm (nd m' x' hm')
  ·rw [if_neg z] at hm
   by_cases z' : m' = n
   ·have hz : ad m = p:=by simpa [z,z'] using hz
    exact absurd hz (nd m x hm)
   ·rw [if_neg z'] at hm'
    have hz : ad m = ad m':=by simpa [z,z'] using hz
    exact e5 m m' x x' hm hm' hz
theorem RecOk.mod {H : Hp} {ra : Addr} {rs : Rs} {ad : Int → Addr} {len : Nat} (h : RecOk H ra rs ad len) {n : Int} {r r' : Rw} (hr : rs n = some r) : RecOk (upd H (ad n) (.dK r'.dat)) ra (setR rs n r') ad len:=by
 obtain ⟨⟨kvs,e1,e2,e3⟩,e4,e5⟩:=h
 have nra:=(e4 n r hr).2
 have old : ∀ m x,setR rs n r' m = some x → ∃ y,rs m = some y:=fun m x hm => by
  unfold setR at hm
  by_cases z : m = n
  ·rw [z]
   exact ⟨r,hr⟩
  ·rw [if_neg z] at hm
   exact ⟨x,hm⟩
 refine ⟨⟨kvs,(zad nra.symm).trans e1,e2,fun m x hm => ?_⟩,fun m x hm => ?_,fun m m' x x' hm hm' hz => ?_⟩
 ·obtain ⟨y,hy⟩:=old m x hm
  exact e3 m y hy
 ·obtain ⟨y,hy⟩:=old m x hm
  refine ⟨?_,(e4 m y hy).2⟩
  unfold setR at hm
  by_cases z : m = n
  ·subst z
   rw [if_pos rfl] at hm
   obtain rfl:=Option.some.inj hm
   exact zab
  ·rw [if_neg z] at hm
   rw [zad fun w => z (e5 m n y r hy hr w)]
   exact (e4 m x hm).1
 ·obtain ⟨y,hy⟩:=old m x hm
  obtain ⟨y',hy'⟩:=old m' x' hm'
  exact e5 m m' y y' hy hy' hz
section
variable {P : Program} {w : World} {K : W.Frag} {mg : Str → Option Value} {base : Heap} {bo nt nn be sides ways : Addr} {c : Cs} {a : Ads} {d : Pds} {m : Mds} {n : Nds} {u : Uds} {e : Eds}
theorem scKe : FnScope ["_law_record","_law_deed_here","_law_found"] ["_law_record","_law_deed_here","_law_found"] (zak zev):=fsc
noncomputable def spKeep : Sp:=fun vs H Q _ => ∃ (ra : Addr) (rs : Rs) (ad : Int → Addr) (len : Nat) (t : Addr) (dd : Dd) (v : V) (ans : Ans) (B B' : Bk),vs = [.ref ra,.ref t,v] ∧ RecOk H ra rs ad len ∧ len ≤ 500 ∧ H t = some (.tup dd.vals) ∧ AnsV H v ans ∧ Doing B dd ans B' ∧ (∀ b,∀ x ∈ B.at b,∃ r,rs x.num = some r) ∧
 ∀ (ad' : Int → Addr) (H' : Hp),RecOk H' ra (zfK rs dd ans) ad' (len + 1) → (∀ x o,H x = some o → ¬ OwnR ra rs ad x → H' x = some o) → (∀ x,OwnR ra (zfK rs dd ans) ad' x → OwnR ra rs ad x ∨ H x = none) → Q .non H'
theorem kKeep (L : ETxt K mg bo nt nn be e) : Kp P w K mg base 1 e.keep ["_law_record","_law_deed_here","_law_found"] spKeep:=L.keep.kp fun fd G => by
 refine G.okN scKe (fun vs H Q E h => ?_) (fun cdv A outer s H vs Q E hr h => ?_)
 ·obtain ⟨_,_,_,_,_,_,_,_,_,_,rfl,_⟩:=h
  rfl
 ·obtain ⟨ra,rs,ad,len,t,dd,v,ans,B,B',rfl,rec,hlen,ht,hv,hdo,hrs,q⟩:=h
  have hu:=zdd hr
  refine ⟨_,zac (zaJ (PW.pt (zbf (zao za3 (zaB zax (pv 1) zah (fun _ _ => rfl)) zam (zat _)) (za2 (zbv (zaE za5 (by rfl) L.gi (by decide +kernel) (zaa (pv 2) (zaa (zeM (v:=.ty "tuple") (by rfl) L.gtuple (by decide +kernel) rfl) zag)))))))
    (zaf (zdA hu (pv 0) (zaB zax (pv 2) zah (fun _ _ => rfl)) (ziT (zbP zam (zaB zax (pv 1) zah (fun _ _ => rfl)) (zbP zam (zaB zax (pv 1) zah (fun _ _ => rfl)) (zbP zam (zaB zax (pv 1) zah (fun _ _ => rfl)) (zbP zam (zaB zax (pv 1) zah (fun _ _ => rfl)) (zbP zam (zaB zax (pv 1) zah (fun _ _ => rfl)) ziK))))) rfl rfl (by simp) (by decide)) rfl)) zau)
   (zac (zaJ (PW.pt (zbf (zao za3 (zaB zax (pv 1) zah (fun _ _ => rfl)) zam (zat _)) (za2 (zbB (zcE (pv 2))))))
    (zaf (zdA hu (zbm hu (pv 0) (zaB zax (pv 1) zah (fun _ _ => rfl)) (fun _ _ => rfl)) zam (zaB zax (pv 1) zah (fun _ _ => rfl)) rfl)) zau)
   (zaf (zaJ (PW.pt (zbf (zao za3 (zaB zax (pv 1) zah (fun _ _ => rfl)) zam (zat _)) (za2 (zcD (zbv (zaE za5 (by rfl) L.gi (by decide +kernel) (zaa (pv 2) (zaa (zeM (v:=.ty "str") (by rfl) L.gstr (by decide +kernel) rfl) zag))))))))
    (zaf (zdA hu (zbm hu (pv 0) (zaB zax (pv 1) zah (fun _ _ => rfl)) (fun _ _ => rfl)) zam zah rfl)) zau))),?_⟩
  have still : zfK rs dd ans = rs → Q .non H:=fun z => q ad H (by rw [z]; exact ⟨by obtain ⟨kvs,h1,h2,h3⟩:=rec.kv; exact ⟨kvs,h1,by omega,h3⟩,rec.rw,rec.nj⟩) (fun x o hx _ => hx) (fun x hx => .inl (by rw [z] at hx; exact hx))
  obtain ⟨kvs,hk,hkl,hkv⟩:=id rec.kv
  have modded : ∀ {k : Int} {r r' : Rw} (hr : rs k = some r) (H' : Hp),zfK rs dd ans = setR rs k r' → H' = upd H (ad k) (.dK r'.dat) → Q .non H':=fun {k r r'} hr H' hz hH => by
   subst hH
   refine q ad _ ?_ (fun x o hx no => ?_) (fun x hx => .inl ?_)
   ·rw [hz]
    obtain ⟨⟨kvs,h1,h2,h3⟩,h4,h5⟩:=rec.mod (r':=r') hr
    exact ⟨⟨kvs,h1,by omega,h3⟩,h4,h5⟩
   ·rw [zad fun z => no (.inr ⟨k,r,hr,z⟩)]
    exact hx
   ·rw [hz] at hx
    rcases hx with hx | ⟨k',x',hx',z⟩
    ·exact .inl hx
    ·refine .inr ?_
     unfold setR at hx'
     by_cases y : k' = k
     ·exact ⟨k,r,hr,by rw [z,y]⟩
     ·rw [if_neg y] at hx'
      exact ⟨k',x',hx',z⟩
  cases dd with
  | pl ow b pr many shows way =>
   cases hdo with
   | bad hb =>
    obtain rfl : v = .str "bad":=hv
    exact (rX rfl (rT t 0 rfl rfl (SqT.of ht) (zaj (j:=0) rfl) ⟨rfl,rX rfl (zaD rfl (rX rfl ⟨_,_,false,rfl,rfl,.inl ⟨_,.str _,L.tST⟩,rX rfl (zar rfl (rX rfl (rT t 0 rfl rfl (SqT.of ht) (zaj (j:=0) rfl) ⟨rfl,rX rfl (zar rfl (iteF (rX rfl (rT t 0 rfl rfl (SqT.of ht) (zaj (j:=0) rfl) ⟨rfl,rX rfl (zar rfl (iteF (still rfl)))⟩))))⟩)))⟩))⟩))
   | now hb hc hw =>
    obtain rfl : v = .str "now":=hv
    exact (rX rfl (rT t 0 rfl rfl (SqT.of ht) (zaj (j:=0) rfl) ⟨rfl,rX rfl (zaD rfl (rX rfl ⟨_,_,false,rfl,rfl,.inl ⟨_,.str _,L.tST⟩,rX rfl (zar rfl (rX rfl (rT t 0 rfl rfl (SqT.of ht) (zaj (j:=0) rfl) ⟨rfl,rX rfl (zar rfl (iteF (rX rfl (rT t 0 rfl rfl (SqT.of ht) (zaj (j:=0) rfl) ⟨rfl,rX rfl (zar rfl (iteF (still rfl)))⟩))))⟩)))⟩))⟩))
   | @pl _ _ _ _ _ _ evs _ hg hcw hpl =>
    obtain ⟨t',l,ts,rfl,ht',hl',hev,_⟩:=hv
    refine (rX rfl (rT t 0 rfl rfl (SqT.of ht) (zaj (j:=0) rfl) ⟨rfl,rX rfl (zaD rfl (rX rfl ⟨_,_,true,rfl,rfl,.inl ⟨_,.tup ht',L.tTT⟩,rX rfl (zaD rfl fun p hp => ?_)⟩))⟩))
    have ht2:=zai (o:=.dK []) hp _ _ ht
    refine (rX rfl (rT t 1 rfl rfl (SqT.of ht2) (zaj (j:=1) rfl) (rX rfl (rT t 2 rfl rfl (SqT.of ht2) (zaj (j:=2) rfl) (rX rfl (rT t 3 rfl rfl (SqT.of ht2) (zaj (j:=3) rfl) (rX rfl (rT t 4 rfl rfl (SqT.of ht2) (zaj (j:=4) rfl) (rX rfl (rT t 6 rfl rfl (SqT.of ht2) (zaj (j:=6) rfl) ⟨zab,Rw.dat ⟨ow,b,pr,many,way⟩,rfl,(by show 5 ≤ 15; decide),?_⟩))))))))))
    rw [zaR,zjd]
    have s3:=zai (o:=.dK (Rw.dat ⟨ow,b,pr,many,way⟩)) hp
    have p3 : upd H p (.dK (Rw.dat ⟨ow,b,pr,many,way⟩)) p = some (.dK (Rw.dat ⟨ow,b,pr,many,way⟩)):=zab
    generalize upd H p (.dK (Rw.dat ⟨ow,b,pr,many,way⟩)) = H3 at *
    refine (rX rfl (rX rfl (rT t' 0 rfl rfl (SqT.of (s3 _ _ ht')) (zaj (j:=0) rfl) ⟨ra,rX rfl ⟨DPut.k (k:=Sum.inl B.came) (s3 _ _ hk) (by rw [sizeLine_eq]; omega),?_⟩⟩)))
    have npr : p ≠ ra:=(zae hk hp).symm
    have k4 : ∀ x o,H x = some o → x ≠ ra → upd H3 ra (.dK (putK kvs (Sum.inl B.came) (.ref p))) x = some o:=fun x o hx n => (zad n).trans (s3 _ _ hx)
    have ht4:=k4 _ _ ht (zan 7 6 ht hk)
    refine (rX rfl (rT t 0 rfl rfl (SqT.of ht4) (zaj (j:=0) rfl) ⟨rfl,rX rfl (zar rfl (iteF (rX rfl (rT t 0 rfl rfl (SqT.of ht4) (zaj (j:=0) rfl) ⟨rfl,rX rfl (zar rfl (iteF ?_))⟩))))⟩))
    refine q (fun k => if k = B.came then p else ad k) _ (rec.add hp hk ((zad npr).trans p3) zab k4) (fun x o hx n => k4 x o hx fun z => n (.inl z)) (fun x hx => ?_)
    rcases hx with hx | ⟨k,r,hr,z⟩
    ·exact .inl (.inl hx)
    ·have hr : setR rs B.came ⟨ow,b,pr,many,way⟩ k = some r:=hr
     have z : x = if k = B.came then p else ad k:=z
     unfold setR at hr
     by_cases y : k = B.came
     ·rw [if_pos y] at z
      exact .inr (by rw [z]; exact hp)
     ·rw [if_neg y] at hr z
      exact .inl (.inr ⟨k,r,hr,z⟩)
  | ca k j =>
   refine (rX rfl (rT t 0 rfl rfl (SqT.of ht) (zaj (j:=0) rfl) ⟨rfl,rX rfl (zar rfl (iteF (rX rfl (rT t 0 rfl rfl (SqT.of ht) (zaj (j:=0) rfl) ⟨rfl,rX rfl (zar rfl (iteF (rX rfl (rT t 0 rfl rfl (SqT.of ht) (zaj (j:=0) rfl) ⟨rfl,rX rfl (zaD rfl ?_)⟩))))⟩))))⟩))
   cases hdo with
   | @ca _ _ x hx hn =>
    obtain rfl : v = .int x.left:=hv
    obtain ⟨r,hr⟩:=hrs _ x hx
    rw [hn] at hr
    obtain ⟨hd,hdn⟩:=rec.rw k r hr
    refine (rX rfl ⟨_,_,false,rfl,rfl,.inl ⟨_,.int _,L.tIS⟩,rX rfl (zaD rfl ?_)⟩)
    refine (rX rfl (rX rfl (rT t 1 rfl rfl (SqT.of ht) (zaj (j:=1) rfl) ⟨ra,rX rfl ⟨.inl ⟨kvs,Sum.inl k,.inl hk,rfl,(hkv k r hr).symm⟩,ad k,rX rfl ⟨DPut.k (k:=Sum.inr "left") hd (by rw [sizeLine_eq]; show 5 < 16777216; decide),?_⟩⟩⟩)))
    refine modded (r':={ r with left:=0 }) hr _ ?_ (by rw [zg1])
    show (match rs k with | some r => setR rs k { r with left:=0 } | none => rs) = _
    rw [hr]
   | caNo hno =>
    obtain rfl : v = .str "none":=hv
    exact (rX rfl ⟨_,_,true,rfl,rfl,.inl ⟨_,.str _,L.tSS⟩,rX rfl (zar rfl (still rfl))⟩)
  | ch k j =>
   refine (rX rfl (rT t 0 rfl rfl (SqT.of ht) (zaj (j:=0) rfl) ⟨rfl,rX rfl (zar rfl (iteF (rX rfl (rT t 0 rfl rfl (SqT.of ht) (zaj (j:=0) rfl) ⟨rfl,rX rfl (zaD rfl ?_)⟩))))⟩))
   cases hdo with
   | @ch _ _ x r0 hx hn hm =>
    obtain rfl : v = .non:=hv
    obtain ⟨r,hr⟩:=hrs _ x hx
    rw [hn] at hr
    obtain ⟨hd,hdn⟩:=rec.rw k r hr
    refine (rX rfl (rX rfl (zaD rfl ?_)))
    refine (rX rfl (rT t 2 rfl rfl (SqT.of ht) (zaj (j:=2) rfl) (rX rfl (rX rfl (rT t 1 rfl rfl (SqT.of ht) (zaj (j:=1) rfl) ⟨ra,rX rfl ⟨.inl ⟨kvs,Sum.inl k,.inl hk,rfl,(hkv k r hr).symm⟩,ad k,rX rfl ⟨DPut.k (k:=Sum.inr "left") hd (by rw [sizeLine_eq]; show 5 < 16777216; decide),?_⟩⟩⟩)))))
    have ht4 : upd H (ad k) (.dK (putK r.dat (Sum.inr "left") (.int j))) t = some (.tup (Dd.ch k j).vals):=(zad (zan 7 6 ht hd)).trans ht
    refine (rX rfl (rT t 0 rfl rfl (SqT.of ht4) (zaj (j:=0) rfl) ⟨rfl,rX rfl (zar rfl (iteF ?_))⟩))
    refine modded (r':={ r with left:=j }) hr _ ?_ (by rw [zg1])
    show (match rs k with | some r => setR rs k { r with left:=j } | none => rs) = _
    rw [hr]
   | chBad hx hn hm =>
    obtain rfl : v = .str "bad":=hv
    exact (rX rfl (rX rfl (zar rfl (rX rfl (rT t 0 rfl rfl (SqT.of ht) (zaj (j:=0) rfl) ⟨rfl,rX rfl (zar rfl (iteF (still rfl)))⟩)))))
   | chNo hno =>
    obtain rfl : v = .str "none":=hv
    exact (rX rfl (rX rfl (zar rfl (rX rfl (rT t 0 rfl rfl (SqT.of ht) (zaj (j:=0) rfl) ⟨rfl,rX rfl (zar rfl (iteF (still rfl)))⟩)))))
  | cl vs =>
   refine (rX rfl (rT t 0 rfl rfl (SqT.of ht) (zaj (j:=0) rfl) ⟨rfl,rX rfl (zar rfl (iteF (rX rfl (rT t 0 rfl rfl (SqT.of ht) (zaj (j:=0) rfl) ⟨rfl,rX rfl (zar rfl (iteF (rX rfl (rT t 0 rfl rfl (SqT.of ht) (zaj (j:=0) rfl) ⟨rfl,rX rfl (zar rfl (iteF (still ?_)))⟩))))⟩))))⟩))
   cases ans <;> rfl
  | un k j =>
   refine (rX rfl (rT t 0 rfl rfl (SqT.of ht) (zaj (j:=0) rfl) ⟨rfl,rX rfl (zar rfl (iteF (rX rfl (rT t 0 rfl rfl (SqT.of ht) (zaj (j:=0) rfl) ⟨rfl,rX rfl (zar rfl (iteF (rX rfl (rT t 0 rfl rfl (SqT.of ht) (zaj (j:=0) rfl) ⟨rfl,rX rfl (zar rfl (iteF (still ?_)))⟩))))⟩))))⟩))
   cases ans <;> rfl
end
end Fb
namespace L2
open PySem PySem.Spec PyProof.Rows
theorem caps1 {P : Str × Nat → Prop} {q : Str × Nat} (h : P q) : ∀ p ∈ [q],P p:=fun p hp => by
 rw [List.mem_singleton.mp hp]
 exact h
theorem caps2 {P : Str × Nat → Prop} {q r : Str × Nat} (h : P q) (h' : P r) : ∀ p ∈ [q,r],P p:=fun p hp => by
 rcases List.mem_cons.mp hp with e | e
 ·rw [e]
  exact h
 ·rw [List.mem_singleton.mp e]
  exact h'
theorem capv1 {σ : St} {y : Str} {iy : Nat} {v : V} (h : σ[iy]? = some (some v)) : ∀ (j : Nat) p,[(y,iy)][j]? = some p → ∃ v',σ[p.2]? = some (some v') ∧ [v][j]? = some v':=fun j p hp => by
 cases j with
 | zero =>
  obtain rfl : (y,iy) = p:=by simpa using hp
  exact ⟨v,h,rfl⟩
 | succ j => simp at hp
theorem capv2 {σ : St} {y z : Str} {iy iz : Nat} {v w : V} (h : σ[iy]? = some (some v)) (h' : σ[iz]? = some (some w)) : ∀ (j : Nat) p,[(y,iy),(z,iz)][j]? = some p → ∃ v',σ[p.2]? = some (some v') ∧ [v,w][j]? = some v':=fun j p hp => by
 rcases j with _ | _ | j
 ·obtain rfl : (y,iy) = p:=by simpa using hp
  exact ⟨v,h,rfl⟩
 ·obtain rfl : (z,iz) = p:=by simpa using hp
  exact ⟨w,h',rfl⟩
 ·simp at hp
theorem zco {K : W.Frag} {σ0 : St} {a : Addr} {xs ys : List V} {g : TG} {te : TE} {G : Addr → List V → Hp → Prop} {H : Hp} (hS : SqL K H a xs) (hlen : xs.length = ys.length) (hl : ys.length ≤ sizeLine)
  (hs : ∀ (i : Nat) (x y : V),xs[i]? = some x → ys[i]? = some y → ∀ R1 : V → Hp → Prop,R1 y H → g x σ0 H fun σ2 H2 => te σ2 H2 R1)
  (hg : ∀ x σ H (R R' : St → Hp → Prop),(∀ σ H,R σ H → R' σ H) → g x σ H R → g x σ H R') (hq : ∀ p,H p = none → G p ys H) :
  ∃ W : Nat → Nat → List V → Hp → Prop,(∃ m,W 0 m [] H) ∧ ∀ i m ys H,W i m ys H → ys.length ≤ sizeLine ∧
   (((Itl K a).stop i H ∧ ∀ p,H p = none → G p ys H) ∨
    ((Itl K a).go i H ∧ ∀ x H',(Itl K a).yld i H x H' → g x σ0 H' fun σ2 H2 => tYes σ2 H2 fun b H3 => if b = true then te σ2 H3 fun y H4 => ∃ m',m' < m ∧ W (i + 1) m' (ys ++ [y]) H4 else ∃ m',m' < m ∧ W (i + 1) m' ys H3)):=by
 refine ⟨fun i m zs H' => H' = H ∧ i ≤ xs.length ∧ m = xs.length - i ∧ zs = ys.take i,(rX rfl ⟨Nat.zero_le _,rfl,by simp⟩),?_⟩
 rintro i m zs H' ⟨rfl,hi,rfl,rfl⟩
 refine ⟨Nat.le_trans (by rw [List.length_take]; omega) hl,?_⟩
 by_cases hlt : i < xs.length
 ·refine .inr ⟨⟨xs,xs[i],hS,by simp [hlt]⟩,fun x H'' hy => ?_⟩
  obtain ⟨e,hx⟩:=hy
  subst e
  have hx:=hx xs hS
  have hiy : i < ys.length:=by omega
  have ey : ys[i]? = some ys[i]:=List.getElem?_eq_getElem hiy
  refine hg _ _ _ _ _ (fun σ2 H2 h => ?_) (hs i x ys[i] hx ey (fun y H4 => ∃ m',m' < xs.length - i ∧ H4 = H'' ∧ i + 1 ≤ xs.length ∧ m' = xs.length - (i + 1) ∧ ys.take i ++ [y] = ys.take (i + 1)) ⟨_,by omega,rfl,hlt,rfl,?_⟩)
  ·dsimp only [tYes]
   rw [if_pos rfl]
   exact h
  ·rw [List.take_add_one,ey]
   rfl
 ·have e : i = xs.length:=by omega
  subst e
  refine .inl ⟨⟨xs,hS,Nat.le_refl _⟩,fun p hp => ?_⟩
  rw [hlen,List.take_length]
  exact hq p hp
end L2
namespace Fb
open PySem L2
open PySem.W (Dat kqdOk)
noncomputable def Ev.dat : Ev → Dat
 | .out n => .tuple [.str "out",.int n]
 | .trade n p k => .tuple [.str "trade",.int n,.int p,.int k]
noncomputable def trDat (p : Int) (t : Int × Int × Int) : Dat:=.tuple [.str "trade",.int t.1,.int t.2.1,.int p,.int t.2.2]
theorem zjJ {K : W.Frag} {H : Hp} : ∀ {ts : List V} {evs : List Ev},zgf H ts evs → DatVs K H ts (evs.map Ev.dat)
 | _,_,.nil => .nil
 | _,_,.cons (b:=ev) ⟨t,ht,h⟩ r => by
  subst ht
  refine .cons ?_ (zjJ r)
  cases ev with
  | out n => exact .tup (SqT.of h) (.cons (.str _) (.cons (.int _) .nil))
  | trade n p k => exact .tup (SqT.of h) (.cons (.str _) (.cons (.int _) (.cons (.int _) (.cons (.int _) .nil))))
theorem zh8 {K : W.Frag} {H : Hp} {p : Int} : ∀ {tv : List V} {ts : List (Int × Int × Int)},TvOk p H tv ts → DatVs K H tv (ts.map (trDat p))
 | _,_,.nil => .nil
 | _,_,.cons ⟨t,ht,h⟩ r => by
  subst ht
  exact .cons (.tup (SqT.of h) (.cons (.str _) (.cons (.int _) (.cons (.int _) (.cons (.int _) (.cons (.int _) .nil)))))) (zh8 r)
theorem zdn {K : W.Frag} {H : Hp} : ∀ ns : List Int,DatVs K H (ns.map V.int) (ns.map Dat.int)
 | [] => .nil
 | n :: r => .cons (.int n) (zdn r)
theorem zdF : PyData.strOk ("out" : Str) = true ∧ PyData.strOk ("trade" : Str) = true ∧ PyData.strOk ("bad" : Str) = true ∧ PyData.strOk ("none" : Str) = true ∧ PyData.strOk ("now" : Str) = true ∧ PyData.strOk ("wrong" : Str) = true:=by decide +kernel
theorem ev_ok (n : Nat) (ev : Ev) : kqdOk (n + 1) ev.dat = true:=by
 cases ev with
 | out k => simp [Ev.dat,kqdOk,zdF]
 | trade k p j => simp [Ev.dat,kqdOk,zdF]
theorem tr_ok (n : Nat) (p : Int) (t : Int × Int × Int) : kqdOk (n + 1) (trDat p t) = true:=by
 simp [trDat,kqdOk,zdF]
theorem zdK {ds : List Dat} (n : Nat) (h : ∀ x ∈ ds,kqdOk n x = true) : kqdOk (n + 1) (.list ds) = true:=by
 show ds.all (kqdOk n) = true
 exact List.all_eq_true.mpr h
theorem zgG (n : Nat) (ns : List Int) : kqdOk (n + 1) (.list (ns.map Dat.int)) = true:=zdK n fun x hx => by
 obtain ⟨i,_,rfl⟩:=List.mem_map.mp hx
 cases n <;> rfl
theorem ans_dat {K : W.Frag} {H : Hp} {v : V} {ans : Ans} {B B' : Bk} {dd : Dd} (h : AnsV H v ans) (hd : Doing B dd ans B') : ∃ d,DatV K H v d ∧ kqdOk 9 d = true ∧ d ≠ .str "wrong":=by
 have hst : ∀ x : Str,(x = "bad" ∨ x = "none" ∨ x = "now") → ∃ d,DatV K H (.str x) d ∧ kqdOk 9 d = true ∧ d ≠ .str "wrong":=fun x hx => by
  refine ⟨.str x,.str x,?_,?_⟩
  ·rcases hx with rfl | rfl | rfl
   ·exact zdF.2.2.1
   ·exact zdF.2.2.2.1
   ·exact zdF.2.2.2.2.1
  ·intro z
   injection z with z
   rcases hx with rfl | rfl | rfl <;> exact absurd z (by decide +kernel)
 cases ans with
 | str x =>
  obtain rfl : v = .str x:=h
  cases hd <;> exact hst _ (by simp)
 | num k =>
  obtain rfl : v = .int k:=h
  exact ⟨_,.int k,rfl,fun z => by cases z⟩
 | non =>
  obtain rfl : v = .non:=h
  exact ⟨_,.non,rfl,fun z => by cases z⟩
 | placed k evs =>
  obtain ⟨t,l,ts,rfl,h1,h2,h3,_⟩:=h
  refine ⟨.tuple [.int k,.list (evs.map Ev.dat)],.tup (SqT.of h1) (.cons (.int k) (.cons (.lst (SqL.of h2) (zjJ h3)) .nil)),?_,fun z => by cases z⟩
  have : kqdOk 8 (.list (evs.map Ev.dat)) = true:=zdK 7 fun x hx => by
   obtain ⟨ev,_,rfl⟩:=List.mem_map.mp hx
   exact ev_ok 6 ev
  show [Dat.int k,.list (evs.map Ev.dat)].all (kqdOk 8) = true
  rw [List.all_cons,List.all_cons,this]
  rfl
 | trades p ts =>
  obtain ⟨l,tv,rfl,h1,h2,_⟩:=h
  exact ⟨.list (ts.map (trDat p)),.lst (SqL.of h1) (zh8 h2),zdK 8 fun x hx => by
   obtain ⟨t,_,rfl⟩:=List.mem_map.mp hx
   exact tr_ok 7 p t,fun z => by cases z⟩
theorem Rep.off {c : Cs} {H H' : Hp} {g : Ga} {B : Bk} (R : Rep c H g B) {O : Addr → Prop} (hO : ∀ x,O x → (∃ u,H x = some u ∧ kd u = 6) ∧ ¬ Foot g B x ∧ x ≠ g.ds) (k : ∀ x o,H x = some o → ¬ O x → H' x = some o) : Rep c H' g B:=by
 have nk : ∀ {x : Addr} {o : HO} (i : Nat),H x = some o → kd o = i → i ≠ 6 → H' x = some o:=fun {x o} i hx hi h6 => k x o hx fun z => by
  obtain ⟨⟨u,hu,h6'⟩,_⟩:=hO x z
  rw [hx] at hu
  obtain rfl:=Option.some.inj hu
  omega
 obtain ⟨⟨d1,r1⟩,⟨d2,r2⟩,r3,r4,r5,r6,⟨kvs,r7,r8,r9,ra,rb⟩,rc⟩:=R
 refine ⟨⟨d1,nk 3 r1 rfl (by decide)⟩,⟨d2,nk 4 r2 rfl (by decide)⟩,k _ _ r3 fun z => (hO _ z).2.2 rfl,fun b => nk 5 (r4 b) rfl (by decide),r5,r6,⟨kvs,k _ _ r7 fun z => (hO _ z).2.1 (.inr (.inr (.inr (.inr (.inl rfl))))),r8,r9,ra,rb⟩,fun b x hx => ?_⟩
 obtain ⟨⟨dx,en⟩,⟨dy,od⟩,rk⟩:=rc b x hx
 exact ⟨⟨dx,nk 1 en rfl (by decide)⟩,⟨dy,nk 2 od rfl (by decide)⟩,nk 7 rk rfl (by decide)⟩
theorem zdT (r : Rw) : valV r.dat (Sum.inr "price") = some (oV r.pr):=rfl
theorem RecOk.get {H : Hp} {ra : Addr} {rs : Rs} {ad : Int → Addr} {len : Nat} (h : RecOk H ra rs ad len) {n : Int} {r : Rw} (hr : rs n = some r) : DGet H ra (.int n) (some (.ref (ad n))):=by
 obtain ⟨kvs,h1,_,h3⟩:=h.kv
 exact .inl ⟨kvs,Sum.inl n,.inl h1,rfl,(h3 n r hr).symm⟩
theorem RecOk.fld {H : Hp} {ra : Addr} {rs : Rs} {ad : Int → Addr} {len : Nat} (h : RecOk H ra rs ad len) {n : Int} {r : Rw} (hr : rs n = some r) {x : Str} {v : V} (hv : valV r.dat (Sum.inr x) = some v) : DGet H (ad n) (.str x) (some v) :=
 .inl ⟨_,Sum.inr x,.inl (h.rw n r hr).1,rfl,hv.symm⟩
structure Lp (K : W.Frag) (c : Cs) (H0 : Hp) (sa : Addr) (g : Ga) (B : Bk) (ra : Addr) (rs : Rs) (ad : Int → Addr) (len : Nat) (H : Hp) : Prop where
 R : Rep c H g B
 ok : B.Ok
 ps : B.Pos
 rk : RecOk H ra rs ad len
 rn : ∀ b,∀ x ∈ B.at b,∃ r,rs x.num = some r ∧ r.b = b ∧ r.pr = some x.price ∧ r.way = "rest"
 ow : ∀ x,OwnR ra rs ad x → ¬ Foot g B x ∧ x ≠ g.ds
 kp : ∀ o,H0 sa = some o → H sa = some o ∧ ¬ Foot g B sa ∧ ¬ OwnR ra rs ad sa
section
variable {K : W.Frag} {c : Cs} {H0 : Hp} {sa : Addr} {g : Ga} {B : Bk} {ra : Addr} {rs : Rs} {ad : Int → Addr} {len : Nat} {H H' : Hp}
theorem Lp.same (l : Lp K c H0 sa g B ra rs ad len H) (s : Same H H') : Lp K c H0 sa g B ra rs ad len H' :=
 ⟨Same.rep s l.R,l.ok,l.ps,l.rk.same fun x o hx _ => s _ _ hx,l.rn,l.ow,fun o ho => ⟨s _ _ (l.kp o ho).1,(l.kp o ho).2⟩⟩
theorem Lp.seq {xs : List V} (l : Lp K c H0 sa g B ra rs ad len H) (h : SqL K H0 sa xs) : SqL K H sa xs:=h.keep fun o ho => (l.kp o ho).1
theorem Doing.nums {B B' : Bk} {dd : Dd} {ans : Ans} (h : Doing B dd ans B') (ok : B.Ok) (ps : B.Pos) (hc : B.came ≤ 30) :
  ∀ b',∀ x ∈ B'.at b',(∃ y ∈ B.at b',y.num = x.num ∧ y.price = x.price) ∨ ∃ ow pr many shows way evs,dd = .pl ow b' pr many shows way ∧ ans = .placed B.came evs ∧ x.num = B.came ∧ pr = some x.price ∧ way = "rest":=by
 have ct : ((B.buys.length + B.sells.length : Nat) : Int) ≤ B.came:=ok.ct
 cases h with
 | pl hg hw hp =>
  intro b' x hx
  rcases hp.nums ok (by omega) b' x hx with h | ⟨rfl,h1,h2,h3⟩
  ·exact .inl h
  ·exact .inr ⟨_,_,_,_,_,_,rfl,rfl,h1,h2,h3⟩
 | ca he hn => exact fun b' x hx => .inl ⟨x,(zcv (ok.so _) he hx).1,rfl,rfl⟩
 | ch he hn hm => exact fun b' x hx => .inl ((zhv ok ps he hm _).2.2.1 b' x hx)
 | un hcl hu => exact fun b' x hx => .inl (by
   obtain ⟨y,hy,h1,h2,_⟩:=(hu.good ok ps (by omega)).nm b' x hx
   exact ⟨y,hy,h1,h2⟩)
 | _ => exact fun b' x hx => .inl ⟨x,hx,rfl,rfl⟩
theorem Lp.next {B' : Bk} {dd : Dd} {ans : Ans} {ad' : Int → Addr} {H1 H2 : Hp} (l : Lp K c H0 sa g B ra rs ad len H) (hdo : Doing B dd ans B') (hc : B.came ≤ 30) (R' : Rep c H1 g B') (ok' : B'.Ok) (ps' : B'.Pos) (fr : Fr H g B H1 B')
  (rec' : RecOk H2 ra (zfK rs dd ans) ad' (len + 1)) (k2 : ∀ x o,H1 x = some o → ¬ OwnR ra rs ad x → H2 x = some o) (f2 : ∀ x,OwnR ra (zfK rs dd ans) ad' x → OwnR ra rs ad x ∨ H1 x = none) :
  Lp K c H0 sa g B' ra (zfK rs dd ans) ad' (len + 1) H2:=by
 have own1 : ∀ x,OwnR ra rs ad x → (∃ u,H1 x = some u ∧ kd u = 6) ∧ ¬ Foot g B' x ∧ x ≠ g.ds:=fun x o => by
  obtain ⟨u,hu,h6⟩:=l.rk.own_some o
  obtain ⟨nf,nd⟩:=l.ow x o
  refine ⟨⟨u,fr.kp x u hu nf,h6⟩,fun f => ?_,nd⟩
  rcases fr.ft x f with z | z
  ·exact nf z
  ·rw [hu] at z
   cases z
 have old : ∀ n r,rs n = some r → ∃ r',zfK rs dd ans n = some r' ∧ (n ≠ B.came ∨ (∀ ow b pr many shows way,dd ≠ .pl ow b pr many shows way) ∨ (∀ k evs,ans ≠ .placed k evs) → r'.b = r.b ∧ r'.pr = r.pr ∧ r'.way = r.way):=fun n r hr => by
  have keep0 : ∃ r',rs n = some r' ∧ (n ≠ B.came ∨ (∀ ow b pr many shows way,dd ≠ .pl ow b pr many shows way) ∨ (∀ k evs,ans ≠ .placed k evs) → r'.b = r.b ∧ r'.pr = r.pr ∧ r'.way = r.way):=⟨r,hr,fun _ => ⟨rfl,rfl,rfl⟩⟩
  have modk : ∀ k j,∃ r',(match rs k with | some r => setR rs k { r with left:=j } | none => rs) n = some r' ∧ (n ≠ B.came ∨ (∀ ow b pr many shows way,dd ≠ .pl ow b pr many shows way) ∨ (∀ k evs,ans ≠ .placed k evs) → r'.b = r.b ∧ r'.pr = r.pr ∧ r'.way = r.way):=fun k j => by
   cases e : rs k with
   | none => exact keep0
   | some r0 =>
    show ∃ r',setR rs k { r0 with left:=j } n = some r' ∧ _
    unfold setR
    by_cases z : n = k
    ·rw [if_pos z]
     subst z
     rw [hr] at e
     obtain rfl:=Option.some.inj e
     exact (rX rfl (fun _ => ⟨rfl,rfl,rfl⟩))
    ·rw [if_neg z]
     exact keep0
  cases hdo with
  | @pl ow b pr many shows way evs _ hg hw hp =>
   show ∃ r',setR rs B.came ⟨ow,b,pr,many,way⟩ n = some r' ∧ _
   unfold setR
   by_cases z : n = B.came
   ·rw [if_pos z]
    refine (rX rfl (fun w => ?_))
    rcases w with w | w | w
    ·exact absurd z w
    ·exact absurd rfl (w _ _ _ _ _ _)
    ·exact absurd rfl (w _ _)
   ·rw [if_neg z]
    exact keep0
  | ca he hn => exact modk _ _
  | ch he hn hm => exact modk _ _
  | bad _ => exact keep0
  | now _ _ _ => exact keep0
  | caNo _ => exact keep0
  | chBad _ _ _ => exact keep0
  | chNo _ => exact keep0
  | cl _ => exact keep0
  | clNow _ => exact keep0
  | un _ _ => exact keep0
  | unNow _ => exact keep0
 refine ⟨Rep.off R' own1 k2,ok',ps',rec',fun b x hx => ?_,fun x o => ?_,fun o ho => ?_⟩
 ·rcases hdo.nums l.ok l.ps hc b x hx with ⟨y,hy,h1,h2⟩ | ⟨ow,pr,many,shows,way,evs,rfl,rfl,h1,h2,h3⟩
  ·obtain ⟨r,hr,e1,e2,e3⟩:=l.rn b y hy
   obtain ⟨r',hr',h⟩:=old _ r hr
   have lt:=(l.ok.lt b y hy).2
   obtain ⟨q1,q2,q3⟩:=h (.inl (by omega))
   refine ⟨r',by rw [← h1]; exact hr',q1.trans e1,?_,q3.trans e3⟩
   rw [q2,e2,h2]
  ·refine ⟨⟨ow,b,pr,many,way⟩,?_,rfl,h2,h3⟩
   show setR rs B.came _ _ = _
   unfold setR
   rw [if_pos h1]
 ·rcases f2 x o with z | z
  ·exact (own1 x z).2
  ·refine ⟨fun f => ?_,fun e => ?_⟩
   ·obtain ⟨v,hv⟩:=zbl R' f
    rw [z] at hv
    cases hv
   ·rw [e] at z
    rw [R'.ds] at z
    cases z
 ·obtain ⟨k1,k2',k3⟩:=l.kp o ho
  have h1:=fr.kp sa o k1 k2'
  refine ⟨k2 sa o h1 k3,fun f => ?_,fun w => ?_⟩
  ·rcases fr.ft sa f with z | z
   ·exact k2' z
   ·rw [k1] at z
    cases z
  ·rcases f2 sa w with z | z
   ·exact k3 z
   ·rw [h1] at z
    cases z
end
end Fb
namespace Fb
open PySem L2
structure Best (B : Bk) (b : Bool) (pr : Option Int) (many : Int) (way : Str) (evs : List Ev) (B' : Bk) : Prop where
 ys : ∃ ys : List Ent,Paired (fun y x => y.num = x.num ∧ ∀ n p k,x = Ev.trade n p k → p = y.price) ys evs ∧ (∀ y ∈ ys,y ∈ B.at (!b)) ∧ (if b = true then (ys.map (·.price)).Pairwise (· ≤ ·) else (ys.map (·.price)).Pairwise (· ≥ ·))
 fi : ∀ x r,evs = x :: r → ∃ y t,B.at (!b) = y :: t ∧ x.num = y.num
 wh : way = "whole" → zbS evs = 0 ∨ zbS evs = many
 w0 : way = "whole" → zbS evs = 0 → evs = [] ∧ ∀ b',B'.at b' = B.at b'
 le : way ≠ "whole" → zbS evs ≠ many → ∀ y ∈ B'.at (!b),za0 y.price (zav b) pr = false
theorem zei.best {B : Bk} {ow : Int} {b : Bool} {pr : Option Int} {many : Int} {shows : Option Int} {way : Str} {evs : List Ev} {B' : Bk} (h : zei B ow b pr many shows way evs B') (ok : B.Ok) (ps : B.Pos) (hc : B.came ≤ 30) (cal : B.calling = false) (hm : 1 ≤ many) : Best B b pr many way evs B':=by
 obtain ⟨B2,l,hcm,h0,h1,h2⟩:=h
 rcases hcm with ⟨hn,rfl,rfl,rfl⟩ | ⟨_,hmay,met,hnx⟩
 ·have hmay : mayB B ow b pr l way = false:=by
   rcases hn with z | z
   ·rw [cal] at z
    cases z
   ·exact z
  have hw : way = "whole":=by
   by_cases z : way = "whole"
   ·exact z
   ·unfold mayB at hmay
    rw [decide_eq_false z] at hmay
    cases hmay
  have e : B' = B.adm:=by
   rcases h2 with ⟨hr,_⟩ | ⟨_,e⟩
   ·rw [hw] at hr
    exact absurd hr (by decide +kernel)
   ·exact e
  subst e
  exact ⟨⟨[],.nil,fun _ h => absurd h (by simp),by cases b <;> exact List.Pairwise.nil⟩,(fun x r h => by cases h),fun _ => .inl rfl,fun _ _ => ⟨rfl,fun b' => by cases b' <;> rfl⟩,fun z => absurd hw z⟩
 ·have okA : B.adm.Ok:=ok.admit (by omega)
  have psA : B.adm.Pos:=⟨ps.ps⟩
  have g:=met.good okA psA (by omega)
  have hat : B.adm.at (!b) = B.at (!b):=by cases b <;> rfl
  obtain ⟨ys,py,my,so,_⟩:=g.ys
  rw [hat] at my
  have all : way = "whole" → l = 0:=fun z => by
   unfold mayB at hmay
   rw [decide_eq_true z] at hmay
   refine zh2 g ?_ hnx
   rw [hat]
   simpa using hmay
  have sm:=g.sm
  refine ⟨⟨ys,Paired.mapP py fun y x hx => ⟨Ev.of_num hx,fun n p k e => ?_⟩,fun y hy => (my y hy).1,?_⟩,fun x r e => ?_,fun z => .inr ?_,fun z e => ?_,fun z e y hy => ?_⟩
  ·subst e
   exact hx.2.2.1
  ·have sd : ∀ y ∈ ys,y.buy = !b:=fun y hy => ok.sd _ y (my y hy).1
   cases b with
   | true =>
    rw [if_pos rfl]
    refine List.pairwise_map.mpr (so.imp_of_mem fun {y z} hy hz hyz => ?_)
    have e1:=sd y hy
    have e2:=sd z hz
    unfold Ent.k1 at hyz
    rw [e1,e2] at hyz
    exact hyz
   | false =>
    rw [if_neg Bool.false_ne_true]
    refine List.pairwise_map.mpr (so.imp_of_mem fun {y z} hy hz hyz => ?_)
    have e1:=sd y hy
    have e2:=sd z hz
    unfold Ent.k1 at hyz
    rw [e1,e2] at hyz
    have hyz : -y.price ≤ -z.price:=hyz
    show z.price ≤ y.price
    omega
  ·obtain ⟨y,t,h3,h4⟩:=g.fi x r e
   exact ⟨y,t,hat.symm.trans h3,h4⟩
  ·have:=all z
   omega
  ·have:=all z
   omega
  ·have hl : l ≠ 0:=fun w => e (by omega)
   have nn:=zfy g.ok hl hnx
   rcases h2 with ⟨_,_,ce,o,p,r,_,rfl⟩ | ⟨_,rfl⟩
   ·rcases zbd hy with ⟨hb,_⟩ | hy
    ·have hb : (!b) = b:=hb
     cases b <;> cases hb
    ·exact nn y hy
   ·exact nn y hy
end Fb
namespace Sx
open PySem PySem.Spec PyProof.Rows
section
variable {prog : Program} {w : World} {A : Around} {E : Value → Shared → Prop} {s : Shared} {a₀ : Array Keyed} {st : SortSt}
theorem run_all {Q : Option Nat → SortSt → Prop} (h0 : IntKeys a₀) (hB : SBase a₀ st) (h1 : 1 ≤ a₀.size) (hs : SortedTo (arrOf st) a₀.size) (h : Q (some a₀.size) st) : wpS (model prog w) A E s (countRun' 0 a₀.size) Q st:=by
 rw [countRun0_eq]
 refine wpS_bind (wpS_ascLoop h0 (Nat.le_refl _) (Nat.le_refl 1) h1 hB (fun i j a b => hs i j a (Nat.lt_of_lt_of_le b h1)) fun n n1 n2 _ hor => ?_)
 have e : n = a₀.size:=by
  rcases hor with z | z
  ·exact z
  ·rcases Nat.lt_or_ge n a₀.size with y | y
   ·exact absurd (hs (n - 1) n (Nat.sub_le _ _) y) (Int.not_le.mpr z)
   ·exact Nat.le_antisymm n2 y
 rw [e]
 dsimp only
 rw [if_pos (beq_self_eq_true _)]
 exact wpS_pure h
theorem zfD : ∀ (f n r : Nat),r ≤ 1 → minRun' f n r ≤ n + r
 | 0,n,r,_ => Nat.le_refl _
 | f + 1,n,r,hr => by
  rw [minRun'_succ]
  split
  ·exact Nat.le_refl _
  ·have:=zfD f (n / 2) (max r (n % 2)) (by omega)
   omega
theorem runs_all {Q : Unit → SortSt → Prop} (h0 : IntKeys a₀) (hB : SBase a₀ st) (h2 : 2 ≤ a₀.size) (hs : SortedTo (arrOf st) a₀.size) (h : ∀ st',arrOf st' = arrOf st → failedOf st' = none → Q () st') : wpS (model prog w) A E s sortRuns' Q st:=by
 rw [sortRuns'_eq]
 refine wpS_bind (wpS_get ?_)
 have hmr : ¬ a₀.size < minRun' a₀.size a₀.size 0:=Nat.not_lt.mpr (zfD _ _ 0 (Nat.zero_le _))
 obtain ⟨mr,emr⟩ : ∃ mr,mr = minRun' a₀.size a₀.size 0:=⟨_,rfl⟩
 rw [← emr] at hmr
 simp only [hB.size]
 rw [← emr]
 refine wpS_bind (wpS_mono (wpS_forRange (I:=fun x c z => (x = 0 ∧ c = (none,0) ∧ z = st) ∨ (1 ≤ x ∧ c = (none,a₀.size) ∧ arrOf z = arrOf st ∧ failedOf z = none ∧ pendingOf z = #[(0,a₀.size,0)]))
  (Q:=fun c z => c = (none,a₀.size) ∧ arrOf z = arrOf st ∧ failedOf z = none ∧ pendingOf z = #[(0,a₀.size,0)]) (fun x c z hx1 hx2 hI => ?_) (fun c z hI => ?_) (.inl ⟨rfl,rfl,rfl⟩)) fun c z hz => ?_)
 ·rcases hI with ⟨rfl,rfl,rfl⟩ | ⟨_,rfl,hI⟩
  ·dsimp only
   rw [if_neg (by omega)]
   simp only [Nat.sub_zero,Nat.zero_add]
   refine wpS_bind (run_all h0 hB (by omega) hs ?_)
   dsimp only
   rw [if_neg hmr]
   refine wpS_bind (wpS_get ?_)
   rw [show (pendingOf z).back? = none by rw [hB.pend]; rfl]
   dsimp only
   refine wpS_bind (wpS_modify (wpS_pure (.inr ⟨by omega,rfl,rfl,hB.failed,?_⟩)))
   show (pendingOf z).push _ = _
   rw [hB.pend]
   rfl
  ·dsimp only
   rw [if_pos (Nat.le_refl _)]
   exact wpS_pure ⟨rfl,hI⟩
 ·rcases hI with ⟨hx,_,_⟩ | ⟨_,hc,hI⟩
  ·omega
  ·exact ⟨hc,hI⟩
 ·obtain ⟨rfl,z1,z2,z3⟩:=hz
  dsimp only
  refine wpS_bind (wpS_mono (wpS_forRange (I:=fun _ c y => y = z ∧ c = (none,())) (Q:=fun c y => y = z ∧ c = (none,())) (fun x c y _ _ hI => ?_) (fun _ _ hI => hI) ⟨rfl,rfl⟩) fun c y hy => ?_)
  ·obtain ⟨rfl,rfl⟩:=hI
   refine wpS_bind (wpS_get ?_)
   rw [if_pos (by rw [z3]; exact Nat.le_refl 1)]
   exact wpS_pure ⟨rfl,rfl⟩
  ·obtain ⟨rfl,rfl⟩:=hy
   exact wpS_pure (h _ z1 z2)
end
noncomputable def zbW (b : Bool) (vs : List Value) : Array Keyed:=if b = true then (pairsOf vs).reverse else pairsOf vs
theorem zhI (b : Bool) (vs : List Value) : (if b = true then ((zbW b vs).map (·.2)).reverse else (zbW b vs).map (·.2)) = vs.toArray:=by
 have e : (pairsOf vs).map (·.2) = vs.toArray:=by
  apply Array.toList_inj.mp
  rw [Array.toList_map,pairsOf_toList]
  exact List.map_snd_zip (Nat.le_refl _)
 cases b with
 | false => exact e
 | true =>
  show ((pairsOf vs).reverse.map (·.2)).reverse = _
  rw [Array.map_reverse,Array.reverse_reverse,e]
theorem ze1 : ∀ {vs : List Value} {ns : List Int},IntsAre vs ns → ∀ i,K (pairsOf vs) i = ns.getD i 0:=fun {vs ns} hI i => by
 unfold K
 rw [← Array.getElem?_toList,pairsOf_toList]
 induction hI generalizing i with
 | nil => simp
 | cons n t r ih =>
  cases i with
  | zero => rfl
  | succ i => simpa using ih i
theorem zft {b : Bool} {vs : List Value} {ns : List Int} (hI : IntsAre vs ns) (hs : if b = true then ns.Pairwise (· ≥ ·) else ns.Pairwise (· ≤ ·)) : SortedTo (zbW b vs) vs.length:=by
 have hl : ns.length = vs.length:=(IntsAre.length hI).symm
 have le_of : ∀ {ms : List Int},ms.Pairwise (· ≤ ·) → ∀ i j,i ≤ j → j < ms.length → ms.getD i 0 ≤ ms.getD j 0:=fun {ms} hp i j h1 h2 => sorted_getD_le hp h1 h2
 cases b with
 | false =>
  intro i j h1 h2
  show K (pairsOf vs) i ≤ K (pairsOf vs) j
  rw [ze1 hI,ze1 hI]
  exact le_of hs i j h1 (by omega)
 | true =>
  have e : (pairsOf vs).reverse = pairsOf vs.reverse:=by
   apply Array.toList_inj.mp
   rw [Array.toList_reverse,pairsOf_toList,pairsOf_toList]
   have : ∀ l : List Value,l.zip l = l.map fun v => (v,v):=fun l => by
    induction l with
    | nil => rfl
    | cons x r ih => simp [ih]
   rw [this,this,List.map_reverse]
  have hR : IntsAre vs.reverse ns.reverse:=hI.reverse
  have hs' : ns.reverse.Pairwise (· ≤ ·):=by
   rw [List.pairwise_reverse]
   exact hs
  intro i j h1 h2
  show K (pairsOf vs).reverse i ≤ K (pairsOf vs).reverse j
  rw [e,ze1 hR,ze1 hR]
  exact le_of hs' i j h1 (by rw [List.length_reverse]; omega)
theorem emptied {h : Heap} {a : Addr} {vs : List Value} {n : Nat} (ho : h.get? a = some (seqObj "list" vs.toArray n)) : ∃ e,(h.update a (Obj.mapSeq fun _ => #[])).get? a = some (seqObj "list" #[] e):=⟨_,get?_update_seq ho _⟩
noncomputable def zhz (h : Heap) (a : Addr) (vs : List Value) : Heap:=Heap.push (Heap.push (h.update a (Obj.mapSeq fun _ => #[])) (seqObj "tuple" vs.toArray 0)) (seqObj "list" #[] 0)
theorem zj8 {h : Heap} {a : Addr} {vs : List Value} {e : Nat} (lt : a < h.objs.size) (he : (h.update a (Obj.mapSeq fun _ => #[])).get? a = some (seqObj "list" #[] e)) : (zhz h a vs).get? a = some (seqObj "list" #[] e):=by
 unfold zhz
 rw [Heap.get?_push_ne,Heap.get?_push_ne,he]
 ·rw [Heap.size_update]
  exact Nat.ne_of_lt lt
 ·rw [size_push',Heap.size_update]
  exact Nat.ne_of_lt (Nat.lt_succ_of_lt lt)
section
variable {s : Shared} {w : World} {prog : Program} {E : Value → Shared → Prop} {A : Around}
theorem zhy {a : Addr} {vs : List Value} {ns : List Int} {n : Nat} {b : Bool} {P : Fin → Shared → Prop} (ho : s.heap.get? a = some (seqObj "list" vs.toArray n)) (hI : IntsAre vs ns) (hs : if b = true then ns.Pairwise (· ≥ ·) else ns.Pairwise (· ≤ ·)) (hz : vs.length ≤ sizeLine)
  (h : P (.done (.ret .none)) { s with heap:=sortedHeap s.heap a vs vs.toArray }) : wpAny (model prog w) A (Builtin.«list.sort» ⟨[.ref a],[(Str.ofString "reverse",.bool b)]⟩) P E s:=by
 obtain ⟨ep,at1⟩:=emptied ho
 have at2:=zj8 (vs:=vs) (Heap.lt_size ho) at1
 have hout:=zhI b vs
 have hln : (zbW b vs).size = vs.length:=by
  unfold zbW
  split
  ·rw [Array.size_reverse,pairsOf_size]
  ·rw [pairsOf_size]
 have fin : ∀ {m : Sem Fin},wpAny (model prog w) A m P E { s with heap:=zhz s.heap a vs } → wpAny (model prog w) A (if b = true then (do let _ ← rule "list.sort.reverse"; m) else m) P E { s with heap:=zhz s.heap a vs }:=fun hm => by
  split
  ·exact wpAny_bind (wpAny_rule hm)
  ·exact hm
 rw [list_sort_rev]
 refine wpAny_bind (listItems_at ho rfl (wpAny_bind (listUpdate_at ho rfl (wpAny_bind (seqEpoch_at at1 rfl (wpAny_bind (wpAny_newTuple (wpAny_bind (wpAny_newList (wpAny_holding (fin ?_)))))))))))
 cases Nat.decLt vs.toArray.size 2 with
 | isTrue few =>
  rw [if_pos few,if_pos few]
  refine wpAny_bind (wpAny_pure (wpAny_bind (wpAny_pure ?_)))
  generalize is : SortSt.mk' general' _ #[] 7 none = z
  have z1 : arrOf z = zbW b vs:=is ▸ rfl
  have z2 : failedOf z = none:=is ▸ rfl
  refine wpAny_bind (seqEpoch_at at2 rfl (wpAny_bind (listUpdate_at at2 rfl ?_ (hsz2:=?_))))
  ·dsimp only
   rw [z2,z1,hout,bne_self_eq_false]
   exact wpAny_pure h
  ·rw [z1,hout,List.size_toArray]
   omega
 | isFalse many =>
  rw [if_neg many,if_neg many]
  have hk : keyKind' vs.toArray = pure oneType':=by
   match vs,hI,many with
   | [],_,z => exact absurd z (by simp)
   | [_],_,z => exact absurd z (by simp)
   | v :: u :: r,hI,_ => exact keyKind_ints hI
  rw [hk]
  have two : 2 ≤ (zbW b vs).size:=by rw [List.size_toArray] at many; omega
  have ik : IntKeys (zbW b vs):=fun p hp => hI.intKeys p (by
   unfold zbW at hp
   split at hp
   ·rw [Array.toList_reverse] at hp
    exact List.mem_reverse.mp hp
   ·exact hp)
  refine wpAny_bind (wpAny_pure (wpAny_bind (wpAny_mono (runs_all (a₀:=zbW b vs) (st:=SortSt.mk' oneType' (zbW b vs) #[] 7 none) (Q:=fun _ z => arrOf z = zbW b vs ∧ failedOf z = none) ik ⟨Array.Perm.refl _,rfl,rfl,rfl⟩ two (by rw [hln]; exact zft hI hs) fun z z1 z2 => ⟨z1,z2⟩) ?_ fun _ _ e => e)))
  rintro ⟨⟨⟩,z⟩ s' ⟨rfl,z1,z2⟩
  refine wpAny_bind (seqEpoch_at at2 rfl (wpAny_bind (listUpdate_at at2 rfl ?_ (hsz2:=?_))))
  ·dsimp only
   rw [z2,z1,hout,bne_self_eq_false]
   exact wpAny_pure h
  ·rw [z1,hout,List.size_toArray]
   omega
theorem ziM (a : Addr) : Builtin.«list.sort» ⟨[.ref a],[]⟩ = Builtin.«list.sort» ⟨[.ref a],[(Str.ofString "reverse",.bool false)]⟩:=by
 rw [list_sort_plain,list_sort_rev]
 rfl
theorem all_new {h : Heap} {vs : List Value} : (∀ b o,h.get? b = some o → (sortedAll h vs vs.toArray).get? b = some o) ∧ ∃ e,(sortedAll h vs vs.toArray).get? (h.objs.size + 1) = some { cls:=.type "list",data:=.seq vs.toArray e }:=⟨fun _ _ => sortedAll_old,sortedAll_at h vs vs.toArray⟩
noncomputable def zfX (h : Heap) (vs : List Value) : Heap:=Heap.update (h.push (seqObj "list" #[] 0)) h.objs.size (Obj.mapSeq (· ++ vs.toArray))
theorem zcx (h : Heap) (vs : List Value) : (zfX h vs).objs.size = h.objs.size + 1:=by
 unfold zfX
 rw [Heap.size_update,size_push']
theorem zfW (h : Heap) (vs : List Value) : ((zfX h vs).push (seqObj "list" vs.toArray 0)).get? (h.objs.size + 1) = some (seqObj "list" vs.toArray 0):=zcx h vs ▸ Heap.get?_push_size _ rfl
theorem call_all {l : Addr} {vs : List Value} {ns : List Int} {Q : Value → Shared → Prop} (hl : s.heap.IsList l vs.toArray) (hI : IntsAre vs ns) (hs : ns.Pairwise (· ≤ ·)) (hz : vs.length ≤ sizeLine) (h : Q (.ref (s.heap.objs.size + 1)) { s with heap:=sortedAll s.heap vs vs.toArray }) : wpAny (model prog w) A (call (.builtin "sorted") [.ref l]) Q E s:=by
 have size:=zcx s.heap vs
 have at3:=zfW s.heap vs
 refine Calls.call_function_entry kind_sorted plain_sorted entry_sorted (args_sorted1 _) (show wpAny _ _ (checkCount _ _ _ _ >>= _) _ _ _ from wpAny_bind (wpAny_pure (wpAny_bind (collect_list hl (wpAny_bind (wpAny_newList (hsz:=by omega) ?_)) hz))))
 show wpAny _ _ _ _ _ { s with heap:=(zfX s.heap vs).push (seqObj "list" vs.toArray 0) }
 change wpAny _ _ (_ >>= _) _ _ _
 refine wpAny_bind (wpAny_holding (wpAny_call_entry slot_list_sort ⟨_,size.symm ▸ at3,rfl⟩ entry_list_sort (ziM _ ▸ zhy (b:=false) (size.symm ▸ at3) hI hs hz ⟨_,rfl,wpAny_pure ⟨_,rfl,?_⟩⟩) (args_list_sort _)))
 exact size.symm ▸ h
theorem call_all_rev {l : Addr} {vs : List Value} {ns : List Int} {b : Bool} {Q : Value → Shared → Prop} (hl : s.heap.IsList l vs.toArray) (hI : IntsAre vs ns) (hs : if b = true then ns.Pairwise (· ≥ ·) else ns.Pairwise (· ≤ ·)) (hz : vs.length ≤ sizeLine) (h : Q (.ref (s.heap.objs.size + 1)) { s with heap:=sortedAll s.heap vs vs.toArray }) : wpAny (model prog w) A (call (.builtin "sorted") [.ref l] [(Str.ofString "reverse",.bool b)]) Q E s:=by
 have size:=zcx s.heap vs
 have at3:=zfW s.heap vs
 refine call_function_entry_kw kind_sorted plain_sorted entry_sorted (args_sorted_rev _ _) (show wpAny _ _ (checkCount _ _ _ _ >>= _) _ _ _ from wpAny_bind (wpAny_pure (wpAny_bind (collect_list hl (wpAny_bind (wpAny_newList (hsz:=by omega) ?_)) hz))))
 show wpAny _ _ _ _ _ { s with heap:=(zfX s.heap vs).push (seqObj "list" vs.toArray 0) }
 change wpAny _ _ (_ >>= _) _ _ _
 refine wpAny_bind (wpAny_holding (wpAny_call_entry_kw slot_list_sort ⟨_,size.symm ▸ at3,rfl⟩ entry_list_sort (zhy (size.symm ▸ at3) hI hs hz ⟨_,rfl,wpAny_pure ⟨_,rfl,?_⟩⟩) (args_list_sort_rev _ _)))
 exact size.symm ▸ h
end
end Sx
namespace L2
open PySem PySem.Spec PyProof.Rows
section
variable {X : Cx}
theorem zf5 : zce X (.builtin "sorted") (fun xs H Q => ∃ (l : Addr) (ns : List Int),xs = [.ref l] ∧ SqL X.K H l (ns.map V.int) ∧ ns.Pairwise (· ≤ ·) ∧ ∀ p,H p = none → Q (.ref p) (upd H p (.lst (ns.map V.int)))):=by
 intro pins s σ H xs us Q I r h
 obtain ⟨l,ns,rfl,hl,hs,q⟩:=h
 obtain ⟨u,rfl,rx⟩:=zbZ r
 cases rx
 obtain ⟨its,rv,pl,hz⟩:=I.list hl
 obtain ⟨e,he⟩:=(Sx.all_new (h:=s.heap) (vs:=its)).2
 have hz' : its.length ≤ sizeLine:=by rw [← rv.length]; exact hz
 exact Sx.call_all pl.isList (zbr rv) hs hz' ⟨.ref (s.heap.objs.size + 1),_,I.laid (t':=s.toks) (o:=.lst (ns.map V.int)) Sx.all_new.1 (Nat.le_succ _) ⟨hz,its,e,rv,he⟩,rfl,q _ (I.hok.fresh (Nat.le_succ _))⟩
theorem zf4 : CallK X (.builtin "sorted") (Str.ofString "reverse") (fun xs d H Q => ∃ (l : Addr) (ns : List Int),xs = [.ref l] ∧ d = .bl true ∧ SqL X.K H l (ns.map V.int) ∧ ns.Pairwise (· ≥ ·) ∧ ∀ p,H p = none → Q (.ref p) (upd H p (.lst (ns.map V.int)))):=by
 intro pins s σ H xs us d dv Q I r rd h
 obtain ⟨l,ns,rfl,rfl,hl,hs,q⟩:=h
 obtain ⟨u,rfl,rx⟩:=zbZ r
 cases rx
 cases rd
 obtain ⟨its,rv,pl,hz⟩:=I.list hl
 obtain ⟨e,he⟩:=(Sx.all_new (h:=s.heap) (vs:=its)).2
 have hz' : its.length ≤ sizeLine:=by rw [← rv.length]; exact hz
 exact Sx.call_all_rev (b:=true) pl.isList (zbr rv) hs hz' ⟨.ref (s.heap.objs.size + 1),_,I.laid (t':=s.toks) (o:=.lst (ns.map V.int)) Sx.all_new.1 (Nat.le_succ _) ⟨hz,its,e,rv,he⟩,rfl,q _ (I.hok.fresh (Nat.le_succ _))⟩
theorem Inv.grow {pins : List (Addr × Obj)} {σ : St} {H H' : Hp} {s : Shared} {h' : Heap} {t' : Nat} (I : Inv X pins σ H s) (k : ∀ b u,s.heap.get? b = some u → h'.get? b = some u) (old : ∀ b,b < s.heap.objs.size → H' b = H b) (hok : HOk X.prog X.w H' h') : Inv X pins σ H' { s with heap:=h',toks:=t' }:=by
 have o2 : ∀ b u,H b = some u → H' b = some u:=fun b u e => (old b (I.hok.lt e)).trans e
 exact I.un ⟨fun b o e _ _ _ => k b o e,fun b o e _ _ _ => ⟨o.slots,k b o e⟩,fun b o e n _ => (old b (Heap.lt_size e)).trans n,fun b o e _ => ⟨o,k b o e⟩,fun b xs e => o2 b _ e,fun b o u e => o2 b _ e,fun b ps e => ⟨#[],by rw [Array.append_empty]; exact o2 b _ e⟩⟩ hok
noncomputable def ivO (v d : Addr) : HO:=.ext fun h => h.IsItemsView v d
theorem iv_ok {P : Program} {w : World} {H : Hp} {h : Heap} {v d : Addr} (g : h.IsItemsView v d) : zaY P w H h v (ivO v d):=by
 obtain ⟨o,e,c⟩:=id g
 exact ⟨g,⟨o,e⟩,fun _ _ ⟨o,e,c⟩ k => ⟨o,k o e,c⟩⟩
noncomputable def rItems : V → List V → Hp → VK → Prop:=fun x vs H Q => ∃ (d : Addr) (kvs : List (Key × V)),x = .ref d ∧ vs = [] ∧ H d = some (.dK kvs) ∧ ∀ p,H p = none → Q (.ref p) (upd H p (ivO p d))
theorem mt_items : MtR X "dict.items" rItems:=by
 intro pins s σ H x vs v us Q I rx rv h
 obtain ⟨d,kvs,rfl,rfl,hH,q⟩:=h
 cases rx
 cases rv
 obtain ⟨z,hd,ws,rel,dd⟩:=zfV I.hok hH
 refine call_meetsIn F.slot_dict_items dd.typeIs F.entry_dict_items (F.args_dict_items_1 _) (meets_dict_items (zaI X.prog X.w) d hd) ⟨⟨ws,dd⟩,?_⟩
 exact ⟨.ref s.heap.objs.size,_,I.laid (t':=s.toks) (fun _ _ e => Heap.get?_push_of_some _ e) (Nat.le_refl _) (iv_ok ⟨_,Heap.get?_push_size _ rfl,rfl,rfl⟩),rfl,q _ (I.hok.fresh (Nat.le_refl _))⟩
noncomputable def KvOk (H : Hp) : List V → List (Key × V) → Prop:=Paired fun t kv => ∃ a,t = .ref a ∧ H a = some (.tup [kV kv.1,kv.2])
noncomputable def zc9 (kvs : List (Key × V)) (j : Nat) : List V:=match kvs[j]? with
 | some kv => [kV kv.1,kv.2]
 | none => []
theorem kv_rel {κ : Type} : ∀ {kvs : List (κ × V)} {vs : List (κ × Value)} {i : Nat} {q : κ × Value},KV kvs vs → vs[i]? = some q → ∃ p,kvs[i]? = some p ∧ p.1 = q.1 ∧ RelV p.2 q.2
 | _,_,i,q,.nil,h => by simp at h
 | _,_,0,q,.cons (a:=p) r t,h => by
  obtain rfl:=Option.some.inj h
  exact ⟨p,rfl,r⟩
 | _,_,i + 1,q,.cons r t,h => by
  obtain ⟨p,h1,h2⟩:=kv_rel (i:=i) t h
  exact ⟨p,h1,h2⟩
theorem key_rel {P : Program} {w : World} {k : Key} {v : Value} (h : (zaI P w).is k v = true) : RelV (kV k) v:=by
 rcases zaM h with ⟨i,t,rfl,rfl⟩ | ⟨x,t,rfl,rfl⟩
 ·exact ⟨t,rfl⟩
 ·exact ⟨t,rfl⟩
theorem zfv {α β : Type} {F : α → β → Prop} : ∀ {xs : List α} {ys : List β},xs.length = ys.length → (∀ (j : Nat) x y,xs[j]? = some x → ys[j]? = some y → F x y) → Paired F xs ys
 | [],[],_,_ => .nil
 | [],_ :: _,h,_ => by simp at h
 | _ :: _,[],h,_ => by simp at h
 | x :: r,y :: t,h,g => .cons (g 0 x y rfl rfl) (zfv (by simpa using h) fun j a b h1 h2 => g (j + 1) a b h1 h2)
theorem zhp : ∀ {as : List Addr},as.Pairwise (· < ·) → ∀ {j : Nat} {a : Addr},as[j]? = some a → as.idxOf a = j
 | [],_,j,a,h => by simp at h
 | b :: r,hp,0,a,h => by
  obtain rfl:=Option.some.inj h
  simp
 | b :: r,hp,j + 1,a,h => by
  obtain ⟨h1,h2⟩:=List.pairwise_cons.mp hp
  have h : r[j]? = some a:=h
  have hne : b ≠ a:=Nat.ne_of_lt (h1 a (List.mem_of_getElem? h))
  rw [List.idxOf_cons,beq_eq_false_iff_ne.mpr hne,cond_false,zhp h2 h]
theorem zgP : ∀ as : List Addr,Vals (as.map V.ref) (as.map Value.ref)
 | [] => .nil
 | a :: r => .cons rfl (zgP r)
theorem zhY (hc : X.calm = true) : zce X (.type "list") (fun xs H Q => ∃ (v d : Addr) (kvs : List (Key × V)),xs = [.ref v] ∧ H v = some (ivO v d) ∧ H d = some (.dK kvs) ∧ ∀ p tv H',Same H H' → H p = none → H' p = some (.lst tv) → KvOk H' tv kvs → Q (.ref p) H'):=by
 intro pins s σ H xs us Q I r h
 obtain ⟨v,d,kvs,rfl,hv,hd,q⟩:=h
 obtain ⟨u,rfl,rx⟩:=zbZ r
 cases rx
 obtain ⟨z,hS,ws,rel,o,es,ep,ho,hcl,hdat,hks,hp,hnd⟩:=zfV I.hok hd
 have hvw : s.heap.IsItemsView v d:=(show zaY X.prog X.w H s.heap v (ivO v d) from I.hok v _ hv).1
 have hm : s.heap.DictAt (zaI X.prog X.w) d ws ep:=⟨o,es,ho,hcl,hdat,hks,hp,hnd⟩
 have hlw : kvs.length = ws.length:=rel.length
 refine W.kdx_call (knd:=zaI X.prog X.w) (I.ok.hd hc) hvw hm (by omega) fun h' tk acc c as kept hL hlen hG hacc => ?_
 have eacc : acc = (as.map Value.ref).toArray:=by rw [← hacc]
 subst eacc
 have hnew : ∀ a ∈ as,s.heap.objs.size < a:=hG.above
 have tup : ∀ (j : Nat) (a : Addr),as[j]? = some a → ∃ (its : List Value),Vals (zc9 kvs j) its ∧ IsTup h' a its.toArray:=fun j a hj => by
  obtain ⟨key,k,x,h1,h2,h3⟩:=hG.pairs j a hj
  obtain ⟨p,hp1,hp2,hp3⟩:=kv_rel rel h1
  refine ⟨[key,x],?_,_,h3,rfl,_,rfl⟩
  unfold zc9
  rw [hp1]
  refine .cons ?_ (.cons hp3 .nil)
  rw [hp2]
  exact key_rel h2
 obtain ⟨H',hH'⟩ : ∃ H' : Hp,H' = fun b => if b = s.heap.objs.size then some (.lst (as.map V.ref)) else if b ∈ as then some (.tup (zc9 kvs (as.idxOf b))) else H b:=⟨_,rfl⟩
 have old : ∀ b,b < s.heap.objs.size → H' b = H b:=fun b hb => by
  rw [hH']
  show (if b = _ then _ else if b ∈ as then _ else H b) = H b
  rw [if_neg (Nat.ne_of_lt hb),if_neg fun hm => absurd (hnew b hm) (Nat.not_lt.mpr (Nat.le_of_lt hb))]
 have same : Same H H':=fun b u e => (old b (I.hok.lt e)).trans e
 have atL : H' s.heap.objs.size = some (.lst (as.map V.ref)):=by
  rw [hH']
  exact if_pos rfl
 have atT : ∀ (j : Nat) (a : Addr),as[j]? = some a → H' a = some (.tup (zc9 kvs j)):=fun j a hj => by
  have ha:=List.mem_of_getElem? hj
  rw [hH']
  show (if a = _ then _ else if a ∈ as then some (HO.tup (zc9 kvs (as.idxOf a))) else H a) = _
  rw [if_neg (Nat.ne_of_gt (hnew a ha)),if_pos ha,zhp hG.rise hj]
 have hok : HOk X.prog X.w H' h':=fun b u e => by
  by_cases e1 : b = s.heap.objs.size
  ·subst e1
   rw [atL] at e
   obtain rfl:=Option.some.inj e
   exact ⟨by rw [List.length_map,hlen,← hlw]; exact z,_,c,zgP as,hL⟩
  ·by_cases e2 : b ∈ as
   ·obtain ⟨j,hj⟩:=List.mem_iff_getElem?.mp e2
    rw [atT j b hj] at e
    obtain rfl:=Option.some.inj e
    obtain ⟨its,h1,h2⟩:=tup j b hj
    refine ⟨?_,its,h1,h2⟩
    unfold zc9
    split
    ·rw [sizeLine_eq]; show 2 ≤ 16777216; decide
    ·exact Nat.zero_le _
   ·have eb : H b = some u:=by
     rw [hH'] at e
     have e : (if b = s.heap.objs.size then some (HO.lst (as.map V.ref)) else if b ∈ as then some (HO.tup (zc9 kvs (as.idxOf b))) else H b) = some u:=e
     rw [if_neg e1,if_neg e2] at e
     exact e
    exact (I.hok b u eb).stay (fun c v _ q => kept c v q) (fun c q => same _ _ q) fun c xs q => same _ _ q
 refine ⟨.ref s.heap.objs.size,H',I.grow kept old hok,rfl,q _ _ _ same (I.hok.fresh (Nat.le_refl _)) atL (zfv ?_ fun j x kv hx hkv => ?_)⟩
 ·rw [List.length_map,hlen,hlw]
 ·rw [List.getElem?_map] at hx
  cases ea : as[j]? with
  | none =>
   rw [ea] at hx
   cases hx
  | some a =>
   rw [ea] at hx
   refine ⟨a,(Option.some.inj hx).symm,?_⟩
   rw [atT j a ea]
   unfold zc9
   rw [hkv]
end
end L2
namespace L2
open PySem PySem.Spec PyProof.Rows
theorem zjV {K : W.Frag} {σ0 : St} {a : Addr} {xs : List V} {g : TG} {te : TE} {G : Addr → List V → Hp → Prop} {H : Hp} (Pv : Nat → List V → Hp → Prop) (h0 : Pv 0 [] H) (hl : ∀ i ys H,i ≤ xs.length → Pv i ys H → SqT K H a xs ∧ ys.length ≤ sizeLine)
  (hs : ∀ (i : Nat) (x : V) ys H,xs[i]? = some x → Pv i ys H → ∀ Rt : V → Hp → Prop,(∀ y H4,Pv (i + 1) (ys ++ [y]) H4 → Rt y H4) → g x σ0 H fun σ2 H2 => te σ2 H2 Rt)
  (hg : ∀ x σ H (R R' : St → Hp → Prop),(∀ σ H,R σ H → R' σ H) → g x σ H R → g x σ H R') (hq : ∀ ys H,Pv xs.length ys H → ∀ p,H p = none → G p ys H) :
  ∃ W : Nat → Nat → List V → Hp → Prop,(∃ m,W 0 m [] H) ∧ ∀ i m ys H,W i m ys H → ys.length ≤ sizeLine ∧
   (((Itt K a).stop i H ∧ ∀ p,H p = none → G p ys H) ∨
    ((Itt K a).go i H ∧ ∀ x H',(Itt K a).yld i H x H' → g x σ0 H' fun σ2 H2 => tYes σ2 H2 fun b H3 => if b = true then te σ2 H3 fun y H4 => ∃ m',m' < m ∧ W (i + 1) m' (ys ++ [y]) H4 else ∃ m',m' < m ∧ W (i + 1) m' ys H3)):=by
 refine ⟨fun i m ys H => m = xs.length - i ∧ i ≤ xs.length ∧ Pv i ys H,⟨xs.length,by simp,Nat.zero_le _,h0⟩,?_⟩
 rintro i m ys H ⟨rfl,hi,p⟩
 obtain ⟨q1,q2⟩:=hl i ys H hi p
 refine ⟨q2,?_⟩
 by_cases hlt : i < xs.length
 ·refine .inr ⟨⟨xs,xs[i],q1,by simp [hlt]⟩,fun x H' y => ?_⟩
  obtain ⟨e,y⟩:=y
  subst e
  refine hg _ _ _ _ _ (fun σ2 H2 h => ?_) (hs i x ys _ (y xs q1) p (fun y H4 => ∃ m',m' < xs.length - i ∧ m' = xs.length - (i + 1) ∧ i + 1 ≤ xs.length ∧ Pv (i + 1) (ys ++ [y]) H4) fun y H4 h4 => ⟨_,by omega,rfl,hlt,h4⟩)
  dsimp only [tYes]
  rw [if_pos rfl]
  exact h
 ·have e : i = xs.length:=by omega
  subst e
  exact .inl ⟨⟨xs,q1,Nat.le_refl _⟩,hq ys H p⟩
theorem zef {K : W.Frag} {σ0 : St} {a : Addr} {xs : List V} {g : TG} {tc : TT} {te : TE} {G : Addr → List V → Hp → Prop} {H : Hp} (Pv : Nat → List V → Hp → Prop) (h0 : Pv 0 [] H) (hl : ∀ i ys H,i ≤ xs.length → Pv i ys H → SqL K H a xs ∧ ys.length ≤ sizeLine)
  (hs : ∀ (i : Nat) (x : V) ys H,xs[i]? = some x → Pv i ys H → ∀ (Rt : V → Hp → Prop) (Rf : Hp → Prop),(∀ y H4,Pv (i + 1) (ys ++ [y]) H4 → Rt y H4) → (∀ H3,Pv (i + 1) ys H3 → Rf H3) → g x σ0 H fun σ2 H2 => tc σ2 H2 fun b H3 => if b = true then te σ2 H3 Rt else Rf H3)
  (hq : ∀ ys H,Pv xs.length ys H → ∀ p,H p = none → G p ys H) :
  ∃ W : Nat → Nat → List V → Hp → Prop,(∃ m,W 0 m [] H) ∧ ∀ i m ys H,W i m ys H → ys.length ≤ sizeLine ∧
   (((Itl K a).stop i H ∧ ∀ p,H p = none → G p ys H) ∨
    ((Itl K a).go i H ∧ ∀ x H',(Itl K a).yld i H x H' → g x σ0 H' fun σ2 H2 => tc σ2 H2 fun b H3 => if b = true then te σ2 H3 fun y H4 => ∃ m',m' < m ∧ W (i + 1) m' (ys ++ [y]) H4 else ∃ m',m' < m ∧ W (i + 1) m' ys H3)):=by
 refine ⟨fun i m ys H => m = xs.length - i ∧ i ≤ xs.length ∧ Pv i ys H,⟨xs.length,by simp,Nat.zero_le _,h0⟩,?_⟩
 rintro i m ys H ⟨rfl,hi,p⟩
 obtain ⟨q1,q2⟩:=hl i ys H hi p
 refine ⟨q2,?_⟩
 by_cases hlt : i < xs.length
 ·refine .inr ⟨⟨xs,xs[i],q1,by simp [hlt]⟩,fun x H' y => ?_⟩
  obtain ⟨e,y⟩:=y
  subst e
  exact hs i x ys _ (y xs q1) p _ _ (fun y H4 h4 => ⟨_,by omega,rfl,hlt,h4⟩) (fun H3 h3 => ⟨_,by omega,rfl,hlt,h3⟩)
 ·have e : i = xs.length:=by omega
  subst e
  exact .inl ⟨⟨xs,q1,Nat.le_refl _⟩,hq ys H p⟩
end L2
namespace Fb
open PySem L2
open PySem.W (Dat kqdOk)
structure Des where
 depth : Addr
 shown : Addr
 suits : Addr
 good : Addr
structure DeTxt (K : W.Frag) (mg : Str → Option Value) (c : Cs) (r : Des) : Prop where
 depth : Dn K "depth" "Book.depth" ziD r.depth ["self","side"]
 mDepth : Meth K c.B "depth" r.depth
 shown : Dn K "_law_shown" "_law_shown" zdt r.shown ["_law_book"]
 gShown : mg "_law_shown" = some (.ref r.shown)
 suits : Dn K "_law_suits" "_law_suits" zds r.suits ["_law_side","_law_limit","_law_price_here"]
 gSuits : mg "_law_suits" = some (.ref r.suits)
 good : Dn K "_law_good" "_law_good" zew r.good ["_law_book","_law_record","_law_deed_here","_law_found","_law_before"]
 gGood : mg "_law_good" = some (.ref r.good)
noncomputable def shP (xs : List Ent) : List (Int × Int):=xs.map fun e => (e.price,e.shown)
noncomputable def ShwS (N : Addr → Prop) (H : Hp) (t : Addr) (b : Bool) (B : Bk) : Prop :=
 ∃ l1 d1 tv,H t = some (.tup [.str (zav b),.ref l1,.ref d1]) ∧ H l1 = some (.lst (zeP (B.at b))) ∧ N l1 ∧ H d1 = some (.lst tv) ∧ N d1 ∧ zcy H tv (sumT (shP (B.at b)))
noncomputable def zgM (N : Addr → Prop) (H : Hp) (l : Addr) (B : Bk) : Prop:=∃ t1 t2,H l = some (.lst [.ref t1,.ref t2]) ∧ N l ∧ ShwS N H t1 true B ∧ ShwS N H t2 false B
theorem ShwS.keep {N N' : Addr → Prop} {H H' : Hp} {t : Addr} {b : Bool} {B : Bk} (h : ShwS N H t b B) (k : ∀ x o,H x = some o → (kd o = 7 ∨ N x) → H' x = some o) (n : ∀ x,N x → N' x) : ShwS N' H' t b B:=by
 obtain ⟨l1,d1,tv,h1,h2,h3,h4,h5,h6⟩:=h
 exact ⟨l1,d1,tv,k _ _ h1 (.inl rfl),k _ _ h2 (.inr h3),n _ h3,k _ _ h4 (.inr h5),n _ h5,Paired.mapP h6 fun v t ⟨a,e1,e2⟩ => ⟨a,e1,k _ _ e2 (.inl rfl)⟩⟩
theorem zgM.keep {N N' : Addr → Prop} {H H' : Hp} {l : Addr} {B : Bk} (h : zgM N H l B) (k : ∀ x o,H x = some o → (kd o = 7 ∨ N x) → H' x = some o) (n : ∀ x,N x → N' x) : zgM N' H' l B:=by
 obtain ⟨t1,t2,h1,h2,h3,h4⟩:=h
 exact ⟨t1,t2,k _ _ h1 (.inr h2),n _ h2,h3.keep k n,h4.keep k n⟩
noncomputable def pDat (t : Int × Int) : Dat:=.tuple [.int t.1,.int t.2]
noncomputable def sDat (B : Bk) (b : Bool) : Dat:=.tuple [.str (zav b),.list (((B.at b).map (·.num)).map Dat.int),.list ((sumT (shP (B.at b))).map pDat)]
theorem zfu {K : W.Frag} {H : Hp} : ∀ {tv : List V} {ps : List (Int × Int)},zcy H tv ps → DatVs K H tv (ps.map pDat)
 | _,_,.nil => .nil
 | _,_,.cons ⟨a,e,h⟩ r => by
  subst e
  exact .cons (.tup (SqT.of h) (.cons (.int _) (.cons (.int _) .nil))) (zfu r)
theorem ShwS.dat {K : W.Frag} {N : Addr → Prop} {H : Hp} {t : Addr} {b : Bool} {B : Bk} (h : ShwS N H t b B) : DatV K H (.ref t) (sDat B b):=by
 obtain ⟨l1,d1,tv,h1,h2,_,h4,_,h6⟩:=h
 refine .tup (SqT.of h1) (.cons (.str _) (.cons (.lst (SqL.of h2) ?_) (.cons (.lst (SqL.of h4) (zfu h6)) .nil)))
 have e : zeP (B.at b) = ((B.at b).map (·.num)).map V.int:=by rw [List.map_map]; rfl
 rw [e]
 exact zdn _
theorem zgM.dat {K : W.Frag} {N : Addr → Prop} {H : Hp} {l : Addr} {B : Bk} (h : zgM N H l B) : DatV K H (.ref l) (.list [sDat B true,sDat B false]):=by
 obtain ⟨t1,t2,h1,_,h3,h4⟩:=h
 exact .lst (SqL.of h1) (.cons h3.dat (.cons h4.dat .nil))
theorem ok_side (b : Bool) : PyData.strOk (zav b) = true:=by cases b <;> decide +kernel
theorem ziy (B : Bk) (b : Bool) : kqdOk 8 (sDat B b) = true:=by
 have h1 : kqdOk 7 (.list (((B.at b).map (·.num)).map Dat.int)) = true:=zgG 6 _
 have h2 : kqdOk 7 (.list ((sumT (shP (B.at b))).map pDat)) = true:=zdK 6 fun x hx => by
  obtain ⟨t,_,rfl⟩:=List.mem_map.mp hx
  rfl
 have h3 : kqdOk 7 (.str (zav b)) = true:=ok_side b
 show [Dat.str (zav b),.list (((B.at b).map (·.num)).map Dat.int),.list ((sumT (shP (B.at b))).map pDat)].all (kqdOk 7) = true
 rw [List.all_cons,List.all_cons,List.all_cons,h1,h2,h3]
 rfl
theorem shw_ok (B : Bk) : kqdOk 9 (.list [sDat B true,sDat B false]) = true:=zdK 8 fun x hx => by
 rcases List.mem_cons.mp hx with rfl | hx
 ·exact ziy B true
 ·rw [List.mem_singleton.mp hx]
  exact ziy B false
noncomputable def teDe (K : W.Frag) : TE:=tTup (zba (tFld K (tFld K (tVar 0) "order") "price") (zba (tFld K (tVar 0) "showing") tNil))
section
variable {P : Program} {w : World} {K : W.Frag} {mg : Str → Option Value} {base : Heap} {bo nt nn be sides ways : Addr} {c : Cs} {a : Ads} {d : Pds} {m : Mds} {n : Nds} {u : Uds} {e : Eds} {r : Des}
theorem scDp : FnScope ["self","side","pairs"] ["self","side"] (zak ziD):=fsc
noncomputable def zis (c : Cs) : Sp:=fun vs H Q _ => ∃ (g : Ga) (B : Bk) (b : Bool),vs = [.ref g.b,.str (zav b)] ∧ Rep c H g B ∧ (B.at b).length ≤ 1000 ∧ ∀ p tv H',Same H H' → H p = none → H' p = some (.lst tv) → zcy H' tv (sumT (shP (B.at b))) → Q (.ref p) H'
theorem kDepth (C : CTxt K mg c) (F : FTxt K mg a c) (U : UTxt K mg u) (Rt : DeTxt K mg c r) : Kp P w K mg base 2 r.depth ["self","side"] (zis c):=Rt.depth.kp fun fd G => by
 obtain ⟨fd1,G1,b1,k1⟩:=zcm (P:=P) (w:=w) (base:=base) C F
 obtain ⟨fd2,G2,b2,k2⟩:=kSumBy (P:=P) (w:=w) (base:=base) U
 refine G.okN scDp (fun vs H Q E h => ?_) (fun cdv A outer s H vs Q E hr h => ?_)
 ·obtain ⟨_,_,_,rfl,_⟩:=h
  rfl
 ·obtain ⟨g,B,b,rfl,R,hlen,q⟩:=h
  obtain ⟨dx,hb⟩:=R.ob
  refine ⟨_,zac (zgw (i:=2) (own:=["entry"]) (caps:=[]) (g:=zbF 0) (tc:=tYes) (te:=teDe K) scDp.nd rfl (Or.inl rfl) rfl (by decide +kernel) (fun p hp => absurd hp (by simp)) (by decide +kernel) rfl (by decide +kernel) (zbx (zaK (pv 0) C.clB F.mEntriesOf G1 hr b1 .nil zaq (zaa (pv 1) zag)))
    (fun _ _ _ _ _ => zbc (i:=0) (show (["entry"] : List Str).Nodup by decide +kernel) rfl (Or.inl (lookup_relabel_local rfl)) (Or.inr (lookup_relabel_local rfl))) (fun _ _ _ _ _ => zc8)
    (fun _ _ _ _ _ => zby (zaa (zal (zal (pv 0 rfl (.inl (lookup_relabel_local rfl))) rfl) rfl) (zaa (zal (pv 0 rfl (.inl (lookup_relabel_local rfl))) rfl) zag))))
   (zaf (zaw (zb5 (zhY rfl) (by rfl) C.list (by decide +kernel) (zaa (pe_bm0 PySem.F.plainAttrs_dict PySem.F.slot_dict_items PySem.F.type_dict_items mt_items (zas G2 hr rfl U.gSumBy k2 b2 .nil zaq (zaa (pv 2) zag))) zag)))),?_⟩
  refine ⟨[],rfl,fun j p hp => absurd hp (by simp),_,rfl,g.b,dx,_,rfl,hb,rfl,_,rfl,g,B,b,rfl,R,fun l0 l h0 h1 => ⟨l,rfl,⟨_,SqL.of zab⟩,?_⟩⟩
  have s2 : Same H (upd (upd H l0 (.lst [])) l (.lst (refs (B.at b)))):=(zai h0).trans (zai h1)
  have hl : upd (upd H l0 (.lst [])) l (.lst (refs (B.at b))) l = some (.lst (refs (B.at b))):=zab
  generalize upd (upd H l0 (.lst [])) l (.lst (refs (B.at b))) = Hx at *
  have lsh : (shP (B.at b)).length = (B.at b).length:=List.length_map _
  refine zef (K:=K) (σ0:=List.replicate 1 none ++ []) (g:=zbF 0) (tc:=tYes) (te:=teDe K) (xs:=refs (B.at b)) (fun i ys H' => Same Hx H' ∧ zcy H' ys ((shP (B.at b)).take i)) ⟨Same.refl _,.nil⟩ (fun i ys H' hi h => ⟨SqL.of (h.1 _ _ hl),?_⟩) (fun i x ys H' hx h Rt Rf hRt _ => ?_) (fun ys H' h p hp => ?_)
  ·have:=Paired.len h.2
   rw [this,List.length_take,sizeLine_eq]
   omega
  ·rw [List.getElem?_map] at hx
   cases ex : (B.at b)[i]? with
   | none =>
    rw [ex] at hx
    cases hx
   | some e =>
    rw [ex] at hx
    obtain rfl : V.ref e.ea = x:=Option.some.inj hx
    have ek:=(Same.rep (s2.trans h.1) R).en b e (List.mem_of_getElem? ex)
    obtain ⟨de,he⟩:=ek.en
    obtain ⟨do',ho⟩:=ek.od
    dsimp only [zbF,tYes]
    rw [if_pos rfl]
    refine (rX rfl (rA e.ea c.E de rfl he C.clE C.e1 rfl (rA e.oa c.O do' rfl ho C.clO C.o3 rfl (rX rfl (rA e.ea c.E de rfl he C.clE C.e3 rfl ⟨(by rw [sizeLine_eq]; show 2 ≤ 16777216; decide),fun tp htp => hRt _ _ ⟨h.1.trans (zai htp),?_⟩⟩)))))
    have hpi : (shP (B.at b))[i]? = some (e.price,e.shown):=by
     show ((B.at b).map _)[i]? = _
     rw [List.getElem?_map,ex]
     rfl
    rw [zb1 hpi]
    exact Paired.snoc ⟨tp,rfl,zab⟩ (Paired.mapP h.2 fun v t ⟨z,h1,h2⟩ => ⟨z,h1,zai htp _ _ h2⟩)
  ·obtain ⟨s3,hp3⟩:=h
   have e : (refs (B.at b)).length = (shP (B.at b)).length:=by rw [List.length_map,lsh]
   rw [e,List.take_length] at hp3
   have s4:=zai (o:=.lst ys) hp
   refine (rX rfl ⟨p,ys,shP (B.at b),rfl,zab,Paired.mapP hp3 fun v t ⟨z,h1,h2⟩ => ⟨z,h1,s4 _ _ h2⟩,by omega,fun dd H5 s5 hdd hd5 => ?_⟩)
   refine ⟨.inr (.inr (.inl ⟨rfl,.inl ⟨_,hd5⟩⟩)),dd,_,rfl,rfl,hd5,fun v hv => ⟨v,dd,_,rfl,zab,zai hv _ _ hd5,fun p2 tv H6 s6 hp2 hl6 hkv => ?_⟩⟩
   have sA:=(s2.trans s3).trans (s4.trans s5)
   refine q p2 tv H6 (sA.trans ((zai hv).trans s6)) ((sA.trans (zai hv)).free hp2) hl6 ?_
   have conv : ∀ {tv : List V} {ps : List (Int × Int)},KvOk H6 tv (ps.map fT) → zcy H6 tv ps:=fun {tv ps} hk => by
    induction ps generalizing tv with
    | nil => cases hk; exact .nil
    | cons t r ih =>
     cases hk with
     | cons h1 h2 => exact .cons h1 (ih h2)
   exact conv hkv
theorem scSh2 : FnScope ["_law_book"] ["_law_book"] (zak zdt):=fsc
noncomputable def spShw (c : Cs) : Sp:=fun vs H Q _ => ∃ (g : Ga) (B : Bk),vs = [.ref g.b] ∧ Rep c H g B ∧ (∀ b,(B.at b).length ≤ 1000) ∧ ∀ l H',Same H H' → zgM (fun x => H x = none) H' l B → Q (.ref l) H'
noncomputable def teSh (c : Cs) : TE:=tTup (zba (tVar 0) (zba (zid c.B "resting" (zfl c) [] E0 (tVar 1) (zba (tVar 0) tNil)) (zba (zid c.B "depth" (zis c) [] E0 (tVar 1) (zba (tVar 0) tNil)) tNil)))
theorem kShw (C : CTxt K mg c) (F : FTxt K mg a c) (U : UTxt K mg u) (Rt : DeTxt K mg c r) : Kp P w K mg base 3 r.shown ["_law_book"] (spShw c):=Rt.shown.kp fun fd G => by
 obtain ⟨fd1,G1,b1,k1⟩:=zhk (P:=P) (w:=w) (base:=base) C F
 obtain ⟨fd2,G2,b2,k2⟩:=kDepth (P:=P) (w:=w) (base:=base) C F U Rt
 refine G.okN scSh2 (fun vs H Q E h => ?_) (fun cdv A outer s H vs Q E hr h => ?_)
 ·obtain ⟨_,_,rfl,_⟩:=h
  rfl
 ·obtain ⟨g,B,rfl,R,hlen,q⟩:=h
  refine ⟨_,zaf (zaw (zch (own:=["_law_side"]) (caps:=[("_law_book",0)]) (g:=zbF 0) (tc:=tYes) (te:=teSh c) rfl (by decide +kernel) (caps1 ⟨rfl,rfl,rfl⟩) (by decide +kernel) rfl (by decide +kernel) (pi_tup (zby (zaa zam (zaa zam zag))))
   (fun _ _ _ _ _ => zbc (i:=0) (show (["_law_side","_law_book"] : List Str).Nodup by decide +kernel) rfl (Or.inl (lookup_relabel_local rfl)) (Or.inr (lookup_relabel_local rfl))) (fun _ _ _ _ _ => zc8)
   (fun _ _ _ _ _ => zby (zaa (pv 0 rfl (.inl (lookup_relabel_local rfl))) (zaa (zaK (pv 1 rfl (.inr (zaV rfl))) C.clB F.mResting G1 hr b1 .nil zaq (zaa (pv 0 rfl (.inl (lookup_relabel_local rfl))) zag)) (zaa (zaK (pv 1 rfl (.inr (zaV rfl))) C.clB Rt.mDepth G2 hr b2 .nil zaq (zaa (pv 0 rfl (.inl (lookup_relabel_local rfl))) zag)) zag)))))),?_⟩
  refine ⟨[.ref g.b],rfl,capv1 rfl,zbY 2 rfl,fun pt hpt => ⟨pt,rfl,⟨_,SqT.of zab⟩,?_⟩⟩
  have s1:=zai (o:=.tup [.str "buy",.str "sell"]) hpt
  have hpt1 : upd H pt (.tup [.str "buy",.str "sell"]) pt = some (.tup [.str "buy",.str "sell"]):=zab
  generalize upd H pt (.tup [.str "buy",.str "sell"]) = H1 at *
  refine zjV (K:=K) (σ0:=List.replicate 1 none ++ [some (.ref g.b)]) (g:=zbF 0) (te:=teSh c) (xs:=[.str "buy",.str "sell"]) (fun j ys H' => Same H1 H' ∧ ((j = 0 ∧ ys = []) ∨ (j = 1 ∧ ∃ t1,ys = [.ref t1] ∧ ShwS (fun x => H x = none) H' t1 true B) ∨ (j = 2 ∧ ∃ t1 t2,ys = [.ref t1,.ref t2] ∧ ShwS (fun x => H x = none) H' t1 true B ∧ ShwS (fun x => H x = none) H' t2 false B)))
   ⟨Same.refl _,.inl ⟨rfl,rfl⟩⟩ (fun j ys H' hj h => ⟨SqT.of (h.1 _ _ hpt1),?_⟩) (fun j x ys H' hx h Rt hRt => ?_) (fun x σ H R R' hi h => hi _ _ h) fun ys H' h p hp => ?_
  ·rcases h.2 with ⟨_,rfl⟩ | ⟨_,_,rfl,_⟩ | ⟨_,_,_,rfl,_⟩
   ·exact zbY 0 rfl
   ·exact zbY 1 rfl
   ·exact zbY 2 rfl
  ·obtain ⟨s2,hj⟩:=h
   obtain ⟨b,rfl,hb⟩ : ∃ b,x = .str (zav b) ∧ j = if b = true then 0 else 1:=by
    rcases j with _ | _ | j
    ·exact ⟨true,(Option.some.inj hx).symm,rfl⟩
    ·exact ⟨false,(Option.some.inj hx).symm,rfl⟩
    ·simp at hx
   have R2:=Same.rep (s1.trans s2) R
   obtain ⟨dx2,hb2⟩:=id R2.ob
   refine (rX rfl (rX rfl (rM g.b dx2 rfl hb2 rfl (rX rfl ⟨g,B,b,rfl,R2,hlen b,fun l3 H3 s3 hf3 hl3 => ?_⟩))))
   have R3:=Same.rep s3 R2
   obtain ⟨dx3,hb3⟩:=id R3.ob
   refine (rX rfl (rM g.b dx3 rfl hb3 rfl (rX rfl ⟨g,B,b,rfl,R3,hlen b,fun p4 tv4 H4 s4 hf4 hl4 hp4 => ⟨zbY 3 rfl,fun t5 ht5 => hRt _ _ ⟨s2.trans (s3.trans (s4.trans (zai ht5))),?_⟩⟩⟩)))
   have s5:=zai (o:=.tup [.str (zav b),.ref l3,.ref p4]) ht5
   have new : ShwS (fun x => H x = none) (upd H4 t5 (.tup [.str (zav b),.ref l3,.ref p4])) t5 b B :=
    ⟨l3,p4,tv4,zab,s5 _ _ (s4 _ _ hl3),(s1.trans s2).free hf3,s5 _ _ hl4,(s1.trans (s2.trans s3)).free hf4,Paired.mapP hp4 fun v t ⟨z,h1,h2⟩ => ⟨z,h1,s5 _ _ h2⟩⟩
   rcases hj with ⟨rfl,rfl⟩ | ⟨rfl,t1,rfl,h1⟩ | ⟨rfl,_⟩
   ·have : b = true:=by cases b with | true => rfl | false => exact absurd hb (by decide)
    subst this
    exact .inr (.inl ⟨rfl,t5,rfl,new⟩)
   ·have : b = false:=by cases b with | false => rfl | true => exact absurd hb (by decide)
    subst this
    exact .inr (.inr ⟨rfl,t1,t5,rfl,h1.keep (fun x o hx _ => s5 _ _ (s4 _ _ (s3 _ _ hx))) (fun _ z => z),new⟩)
   ·cases b <;> simp at hb
  ·obtain ⟨s2,hj⟩:=h
   have s6:=zai (o:=.lst ys) hp
   rcases hj with ⟨hz,_⟩ | ⟨hz,_⟩ | ⟨_,t1,t2,rfl,h1,h2⟩
   ·simp at hz
   ·simp at hz
   ·exact q p _ (s1.trans (s2.trans s6)) ⟨t1,t2,zab,(s1.trans s2).free hp,h1.keep (fun x o hx _ => s6 _ _ hx) (fun _ z => z),h2.keep (fun x o hx _ => s6 _ _ hx) (fun _ z => z)⟩
theorem scSl : FnScope ["_law_side","_law_limit","_law_price_here"] ["_law_side","_law_limit","_law_price_here"] (zak zds):=fsc
noncomputable def zgV : Sp:=fun vs H Q _ => ∃ (b : Bool) (pr : Option Int) (x : Int),vs = [.str (zav b),oV pr,.int x] ∧ Q (.bl (za0 x (zav b) pr)) H
theorem kSuitsL (Rt : DeTxt K mg c r) : Kp P w K mg base 1 r.suits ["_law_side","_law_limit","_law_price_here"] zgV:=Rt.suits.kp fun fd G => by
 refine G.okN scSl (fun vs H Q E h => ?_) (fun cdv A outer s H vs Q E hr h => ?_)
 ·obtain ⟨_,_,_,rfl,_⟩:=h
  rfl
 ·obtain ⟨b,pr,x,rfl,q⟩:=h
  refine ⟨_,zaf (zaw (pe_or (pe_cmp (zcE (pv 1))) (zfr (zg8 (zao za3 (pv 0) zam (zat _)) (zbn op_le (pv 2) (pv 1) (zat _)) (zbn op_ge (pv 2) (pv 1) (zat _)))))),?_⟩
  cases pr with
  | none => exact ⟨_,rfl,true,rfl,iteT q⟩
  | some y =>
   refine (rX rfl ⟨false,rfl,iteF (rX rfl ⟨rfl,rX rfl ?_⟩)⟩)
   cases b with
   | true => exact zaD rfl ⟨_,rfl,_,rfl,_,_,rfl,rfl,q⟩
   | false => exact zar rfl ⟨_,rfl,_,rfl,_,_,rfl,rfl,q⟩
end
end Fb
namespace L2
open PySem PySem.Spec PyProof.Rows
section
variable {X : Cx}
theorem zj4 (hc : X.calm = true) : zce X (.builtin "any") (fun xs H Q => ∃ (l : Addr) (bs : List Bool),xs = [.ref l] ∧ SqL X.K H l (bs.map V.bl) ∧ (∀ b ∈ bs,b = false) ∧ Q (.bl false) H):=by
 intro pins s σ H xs us Q I r h
 obtain ⟨l,bs,rfl,hl,hno,q⟩:=h
 obtain ⟨u,rfl,rx⟩:=zbZ r
 cases rx
 obtain ⟨its,rv,pl,_⟩:=I.list hl
 have ei:=zf8 rv
 have hls:=pl.isList
 obtain ⟨o,ho,_⟩:=id hls
 have hll : l < s.heap.objs.size:=Heap.lt_size ho
 refine call_any_walk (wpAny_pyIter_list hls ?_)
 refine ⟨s.heap.objs.size,_,_,_,_,_,(fun _ => false),rfl,Walks.list (A:=X.A.in1) (I.ok.hd hc) s.heap.objs.size l (Nat.ne_of_lt hll) its.toArray,⟨⟨_,Heap.get?_push_size _ rfl,rfl,rfl⟩,hls.at fun o e => Heap.get?_push_of_some _ e⟩,fun i v s' Q' E' hv hq => ?_,fun h' tk k => ?_⟩
 ·have hv : its[i]? = some v:=by simpa using hv
  rw [ei,List.getElem?_map] at hv
  cases eb : bs[i]? with
  | none =>
   rw [eb] at hv
   cases hv
  | some b =>
   rw [eb] at hv
   obtain rfl : Value.bool b = v:=Option.some.inj hv
   rw [hno b (List.mem_of_getElem? eb)]
   exact wpAny_truthy_bool hq
 ·have ea : (List.range its.toArray.size).any (fun _ => false) = false:=by simp
  rw [ea]
  refine ⟨.bl _,H,I.kept fun b o e => k b o (fun hb => ?_) (Heap.get?_push_of_some _ e),rfl,q⟩
  rw [List.mem_singleton.mp hb] at e
  exact absurd (Heap.lt_size e) (Nat.lt_irrefl _)
end
end L2
namespace Fb
open PySem L2
open PySem.W (Dat kqdOk)
theorem zjq (x : Ev) : atI x.vals 1 = some (.int x.num):=by cases x <;> exact zaj (j:=1) rfl
theorem zfj (k : Int) : ∀ ks : List Int,sumI (ks ++ [k]) = sumI ks + k
 | [] => by show k + 0 = 0 + k; omega
 | x :: r => by
  show x + sumI (r ++ [k]) = x + sumI r + k
  rw [zfj k r]
  omega
theorem zbO {α β : Type} {f : α → β} {xs : List α} {i : Nat} {y : β} (h : (xs.map f)[i]? = some y) : ∃ x,xs[i]? = some x ∧ y = f x:=by
 rw [List.getElem?_map] at h
 cases e : xs[i]? with
 | none =>
  rw [e] at h
  cases h
 | some x =>
  rw [e] at h
  exact ⟨x,rfl,(Option.some.inj h).symm⟩
theorem ze3 (x : Int) : ∀ ks : List Int,inV (.int x) (ks.map V.int) = decide (x ∈ ks)
 | [] => rfl
 | k :: r => by
  have ih:=ze3 x r
  unfold inV at ih ⊢
  rw [List.map_cons,List.any_cons,ih]
  show ((k == x) || decide (x ∈ r)) = _
  by_cases h : k = x
  ·subst h
   simp
  ·have h2 : x ≠ k:=fun z => h z.symm
   rw [beq_eq_false_iff_ne.mpr h]
   simp [h2]
theorem zfR : ∀ ks : List Int,(ks.map V.int).all ze6 = true
 | [] => rfl
 | k :: r => by
  rw [List.map_cons,List.all_cons,zfR r]
  rfl
theorem zcF {α β : Type} {F : α → β → Prop} : ∀ {xs : List α} {ys : List β} {i : Nat} {x : α},Paired F xs ys → xs[i]? = some x → ∃ y,ys[i]? = some y ∧ F x y
 | _,_,i,x,.nil,h => by simp at h
 | _,_,0,x,.cons (b:=y) r t,h => by
  obtain rfl:=Option.some.inj h
  exact ⟨y,rfl,r⟩
 | _,_,i + 1,x,.cons r t,h => by
  obtain ⟨y,h1,h2⟩:=zcF (i:=i) t h
  exact ⟨y,h1,h2⟩
theorem zea {α β : Type} {F : α → β → Prop} : ∀ {xs : List α} {ys : List β} {i : Nat} {y : β},Paired F xs ys → ys[i]? = some y → ∃ x,xs[i]? = some x ∧ F x y
 | _,_,i,y,.nil,h => by simp at h
 | _,_,0,y,.cons (a:=x) r t,h => by
  obtain rfl:=Option.some.inj h
  exact ⟨x,rfl,r⟩
 | _,_,i + 1,y,.cons r t,h => by
  obtain ⟨x,h1,h2⟩:=zea (i:=i) t h
  exact ⟨x,h1,h2⟩
structure YTxt (mg : Str → Option Value) : Prop where
 int : mg "int" = none
 all : mg "all" = none
 any : mg "any" = none
noncomputable def tIx (K : W.Frag) (i : Nat) (j : Int) : TE:=tOp (rIxT K) (tVar i) (tC (.int j))
noncomputable def teA (K : W.Frag) : TE:=zem (zem (tVar 1) (tIx K 0 1)) (tC (.str "price"))
noncomputable def rLen (K : W.Frag) : List V → Hp → VK → Prop:=fun xs H Q => ∃ p ys,xs = [.ref p] ∧ (SqL K H p ys ∨ SqT K H p ys) ∧ Q (.int ys.length) H
noncomputable def teB (K : W.Frag) : TE:=tAndV (tOp (rIn K false) (tIx K 0 1) (tVar 1)) (tOrV (tOp rEq (tCB (rLen K) (zba (tVar 0) tNil)) (tC (.int 2))) (tOp rEq (tIx K 0 2) (zem (zem (tVar 2) (tIx K 0 1)) (tC (.str "price")))))
noncomputable def teC (K : W.Frag) : TE:=tCall zgV [] E0 (zba (tIx K 1 2) (zba (tIx K 1 3) (zba (tVar 0) tNil)))
section
variable {P : Program} {w : World} {K : W.Frag} {mg : Str → Option Value} {base : Heap} {bo nt nn be sides ways : Addr} {c : Cs} {a : Ads} {d : Pds} {m : Mds} {n : Nds} {u : Uds} {e : Eds} {r : Des}
theorem scGd : FnScope ["_law_book","_law_record","_law_deed_here","_law_found","_law_before","_law_events","_law_other","_law_rested","_law_prices","_law_due","_law_many","_law_left"] ["_law_book","_law_record","_law_deed_here","_law_found","_law_before"] (zak zew):=fsc
noncomputable def spGood (c : Cs) : Sp:=fun vs H Q _ => ∃ (g : Ga) (B B' : Bk) (ra : Addr) (rs : Rs) (ad : Int → Addr) (len : Nat) (t ft l lb : Addr) (ow : Int) (b : Bool) (pr : Option Int) (many : Int) (shows : Option Int) (way : Str) (k : Int) (ts : List V) (evs : List Ev) (N : Addr → Prop),
 vs = [.ref g.b,.ref ra,.ref t,.ref ft,.ref lb] ∧ Rep c H g B' ∧ RecOk H ra rs ad len ∧ H t = some (.tup (Dd.pl ow b pr many shows way).vals) ∧ H ft = some (.tup [.int k,.ref l]) ∧ H l = some (.lst ts) ∧ zgf H ts evs ∧ evs.length ≤ 11000 ∧ zgM N H lb B ∧ Best B b pr many way evs B' ∧
 (∀ x,(B.at x).length ≤ 1000) ∧ (∀ x,(B'.at x).length ≤ 1000) ∧ (∀ x ∈ B.at (!b),∃ r,rs x.num = some r ∧ r.pr = some x.price) ∧ (∀ x ∈ B'.at (!b),∃ r,rs x.num = some r ∧ r.pr = some x.price) ∧ ∀ H',Same H H' → Q (.bl true) H'
theorem kGood (C : CTxt K mg c) (F : FTxt K mg a c) (U : UTxt K mg u) (Z : ZTxt mg) (Y : YTxt mg) (Rt : DeTxt K mg c r) : Kp P w K mg base 4 r.good ["_law_book","_law_record","_law_deed_here","_law_found","_law_before"] (spGood c):=Rt.good.kp fun fd G => by
 obtain ⟨fd1,G1,b1,k1⟩:=zhk (P:=P) (w:=w) (base:=base) C F
 obtain ⟨fd2,G2,b2,k2⟩:=kShw (P:=P) (w:=w) (base:=base) C F U Rt
 obtain ⟨fd3,G3,b3,k3⟩:=kSuitsL (P:=P) (w:=w) (base:=base) Rt
 refine G.okN scGd (fun vs H Q E h => ?_) (fun cdv A outer s H vs Q E hr h => ?_)
 ·obtain ⟨_,_,_,_,_,_,_,_,_,_,_,_,_,_,_,_,_,_,_,_,_,rfl,_⟩:=h
  rfl
 ·obtain ⟨g,B,B',ra,rs,ad,len,t,ft,l,lb,ow,b,pr,many,shows,way,k,ts,evs,Nx,rfl,R,rec,ht,hft,hl,hev,hel,shw,best,hlB,hlB',rn,rn',q⟩:=h
  have hr2 : Room 2 _:=hr.mono (by decide)
  have hr1 : Room 1 _:=hr.mono (by decide)
  have hu:=zdd hr
  have hu64:=hr.units
  refine ⟨_,zac (zap (i:=5) scGd.nd rfl (Or.inl rfl) (zaB zax (pv 3) zah (fun _ _ => rfl)))
   (zac (zap (i:=6) scGd.nd rfl (Or.inl rfl) (zb5 zj3 (by rfl) Y.int (by decide +kernel) (zaa (zbn za3 (zaB zax (pv 2) zah (fun _ _ => rfl)) zam (zat _)) zag)))
   (zac (zap (i:=7) scGd.nd rfl (Or.inr rfl) (zaB zax (zaB zbe (pv 4) (pv 6) (fun _ _ => rfl)) zah (fun _ _ => rfl)))
   (zac (zdB (zaJ (PW.pt (zbf (zeI (pv 5) (fun _ => rfl)) (za2 (PW.pt (zgv (zcD (zeI (pv 7) (fun _ => rfl))) (zdy (zao zfw (zaB zax (zaB zbe (pv 5) zah (fun _ _ => rfl)) zah (fun _ _ => rfl)) (zaB zbe (pv 7) zah (fun _ _ => rfl)) (zat _)))))))) (zaf (zaw zcu)) zau))
   (zac (zgw (i:=8) (own:=["_law_event"]) (caps:=[("_law_record",1)]) (g:=zbF 0) (tc:=tYes) (te:=teA K) scGd.nd rfl (Or.inl rfl) rfl (by decide +kernel) (caps1 ⟨rfl,rfl,rfl⟩) (by decide +kernel) rfl (by decide +kernel)
    (zbx (pv 5)) (fun _ _ _ _ _ => zbc (i:=0) (show (["_law_event","_law_record"] : List Str).Nodup by decide +kernel) rfl (Or.inl (lookup_relabel_local rfl)) (Or.inr (lookup_relabel_local rfl))) (fun _ _ _ _ _ => zc8)
    (fun _ _ _ _ _ => zbm hu (zbm hu (pv 1 rfl (.inr (zaV rfl))) (zaB (r:=rIxT K) zax (pv 0 rfl (.inl (lookup_relabel_local rfl))) zah (fun _ _ => rfl)) (fun _ _ => rfl)) zam (fun _ _ => rfl)))
   (zac (zdB (zap (i:=9) scGd.nd rfl (Or.inl rfl) (zg8 (zao za3 (zaB zax (pv 2) zah (fun _ _ => rfl)) zam (zat _)) (zfs zf4 (by rfl) Z.sorted (by decide +kernel) (zaa (pv 8) zag) zcu) (zaE zf5 (by rfl) Z.sorted (by decide +kernel) (zaa (pv 8) zag)))))
   (zac (zaJ (zao (op_neD hu64) (pv 8) (pv 9) (zat _)) (zaf (zaw zcu)) zau)
   (zac (zaJ (zcD (zbv (zaE (zj5 rfl) (by rfl) Y.all (by decide +kernel) (zaa
    (zch (own:=["_law_event"]) (caps:=[("_law_rested",7),("_law_record",1)]) (g:=zbF 0) (tc:=tYes) (te:=teB K) rfl (by decide +kernel) (caps2 ⟨rfl,rfl,rfl⟩ ⟨rfl,rfl,rfl⟩) (by decide +kernel) rfl (by decide +kernel)
     (zbx (pv 5)) (fun _ _ _ _ _ => zbc (i:=0) (show (["_law_event","_law_rested","_law_record"] : List Str).Nodup by decide +kernel) rfl (Or.inl (lookup_relabel_local rfl)) (Or.inr (lookup_relabel_local rfl))) (fun _ _ _ _ _ => zc8)
     (fun _ _ _ _ _ => pe_and (zbn ziW (zaB (r:=rIxT K) zax (pv 0 rfl (.inl (lookup_relabel_local rfl))) zah (fun _ _ => rfl)) (pv 1 rfl (.inr (zaV rfl))) (by with_unfolding_all rfl))
      (zfr (pe_or (zbn za3 (zaE (r:=rLen K) zbE (by rfl) C.len (by decide +kernel) (zaa (pv 0 rfl (.inl (lookup_relabel_local rfl))) zag)) zah (zat _)) (zfr (zbn za3 (zaB (r:=rIxT K) zax (pv 0 rfl (.inl (lookup_relabel_local rfl))) zah (fun _ _ => rfl)) (zbm hu (zbm hu (pv 2 rfl (.inr (zaV rfl))) (zaB (r:=rIxT K) zax (pv 0 rfl (.inl (lookup_relabel_local rfl))) zah (fun _ _ => rfl)) (fun _ _ => rfl)) zam (fun _ _ => rfl)) (zat _))))))) zag)))) (zaf (zaw zcu)) zau)
   (zac (zap (i:=10) scGd.nd rfl (Or.inl rfl) (zaE (zjZ rfl) (by rfl) Z.sum (by decide +kernel) (zaa
    (zch (own:=["_law_event"]) (caps:=[]) (g:=zbF 0) (tc:=zib (tOp rEq (tIx K 0 0) (tC (.str "trade")))) (te:=tIx K 0 3) rfl (by decide +kernel) (fun p hp => absurd hp (by simp)) (by decide +kernel) rfl (by decide +kernel)
     (zbx (pv 5)) (fun _ _ _ _ _ => zbc (i:=0) (show (["_law_event"] : List Str).Nodup by decide +kernel) rfl (Or.inl (lookup_relabel_local rfl)) (Or.inr (lookup_relabel_local rfl)))
     (fun _ _ _ _ _ => pf_one (zao za3 (zaB (r:=rIxT K) zax (pv 0 rfl (.inl (lookup_relabel_local rfl))) zah (fun _ _ => rfl)) zam (zat _)))
     (fun _ _ _ _ _ => zaB (r:=rIxT K) zax (pv 0 rfl (.inl (lookup_relabel_local rfl))) zah (fun _ _ => rfl))) zag)))
   (zac (zdB (zaJ (PW.pt (zbf (zao za3 (zaB zax (pv 2) zah (fun _ _ => rfl)) zam (zat _)) (za2 (zao zb6 (pv 10) (zby (zaa zah (zaa (zaB zax (pv 2) zah (fun _ _ => rfl)) zag))) (by with_unfolding_all rfl))))) (zaf (zaw zcu)) zau))
   (zac (zdB (zaJ (PW.pt (zbf (zao za3 (zaB zax (pv 2) zah (fun _ _ => rfl)) zam (zat _)) (za2 (zao za3 (pv 10) zah (zat _))))) (zaf (zaw (pe_and (zbn (ziY hu64) (pv 5) (zbg zag) (zat _)) (zfr (zbn (ziY hu64) (zas G2 hr rfl Rt.gShown k2 b2 .nil zaq (zaa (pv 0) zag)) (pv 4) (zat _)))))) zau))
   (zac (zaJ (zao za3 (pv 10) (zaB zax (pv 2) zah (fun _ _ => rfl)) (zat _)) (zaf (zaw zcu)) zau)
   (zac (zgw (i:=11) (own:=["_law_number"]) (caps:=[("_law_record",1)]) (g:=zbF 0) (tc:=tYes) (te:=zem (zem (tVar 1) (tVar 0)) (tC (.str "price"))) scGd.nd rfl (Or.inl rfl) rfl (by decide +kernel) (caps1 ⟨rfl,rfl,rfl⟩) (by decide +kernel) rfl (by decide +kernel)
    (zbx (zaK (pv 0) C.clB F.mResting G1 hr2 b1 .nil zaq (zaa (zaB zbe (zbg (zaa zam (zaa zam zag))) (pv 6) (fun _ _ => rfl)) zag)))
    (fun _ _ _ _ _ => zbc (i:=0) (show (["_law_number","_law_record"] : List Str).Nodup by decide +kernel) rfl (Or.inl (lookup_relabel_local rfl)) (Or.inr (lookup_relabel_local rfl))) (fun _ _ _ _ _ => zc8)
    (fun _ _ _ _ _ => zbm hu (zbm hu (pv 1 rfl (.inr (zaV rfl))) (pv 0 rfl (.inl (lookup_relabel_local rfl))) (fun _ _ => rfl)) zam (fun _ _ => rfl)))
   (zaf (zaw (pe_not (zaE (zj4 rfl) (by rfl) Y.any (by decide +kernel) (zaa
    (zch (own:=["_law_price_here"]) (caps:=[("_law_deed_here",2)]) (g:=zbF 0) (tc:=tYes) (te:=teC K) rfl (by decide +kernel) (caps1 ⟨rfl,rfl,rfl⟩) (by decide +kernel) rfl (by decide +kernel)
     (zbx (pv 11)) (fun _ _ _ _ _ => zbc (i:=0) (show (["_law_price_here","_law_deed_here"] : List Str).Nodup by decide +kernel) rfl (Or.inl (lookup_relabel_local rfl)) (Or.inr (lookup_relabel_local rfl))) (fun _ _ _ _ _ => zc8)
     (fun _ _ _ _ _ => zas G3 hr1 rfl Rt.gSuits k3 b3 .nil zaq (zaa (zaB (r:=rIxT K) zax (pv 1 rfl (.inr (zaV rfl))) zah (fun _ _ => rfl)) (zaa (zaB (r:=rIxT K) zax (pv 1 rfl (.inr (zaV rfl))) zah (fun _ _ => rfl)) (zaa (pv 0 rfl (.inl (lookup_relabel_local rfl))) zag))))) zag))))))))))))))))),?_⟩
  have hbk : decide (V.str (zav b) = V.str "buy") = b:=by cases b <;> decide +kernel
  obtain ⟨t1,t2,hlb,_,hS1,hS2⟩:=id shw
  obtain ⟨tq,hix,hS⟩ : ∃ tq,atI ([.ref t1,.ref t2] : List V) (if b = true then 1 else 0) = some (.ref tq) ∧ ShwS Nx H tq (!b) B:=by
   cases b with
   | true => exact ⟨t2,zaj (j:=1) rfl,hS2⟩
   | false => exact ⟨t1,zaj (j:=0) rfl,hS1⟩
  obtain ⟨lr,d1,tv,htq,hlr,_,_,_,_⟩:=hS
  obtain ⟨ys,py,my,so⟩:=best.ys
  have row : ∀ {j : Nat} {ev : Ev},evs[j]? = some ev → ∃ y rr,ys[j]? = some y ∧ y ∈ B.at (!b) ∧ (∀ n p k,ev = Ev.trade n p k → p = y.price) ∧ y.num = ev.num ∧ rs ev.num = some rr ∧ rr.pr = some y.price:=fun {j ev} hj => by
   obtain ⟨y,hy,h1,h2⟩:=zea py hj
   have hm:=my y (List.mem_of_getElem? hy)
   obtain ⟨rr,h3,h4⟩:=rn y hm
   exact ⟨y,rr,hy,hm,h2,h1,by rw [← h1]; exact h3,h4⟩
  have lts : ts.length = evs.length:=hev.length
  have lys : ys.length = evs.length:=py.length
  refine (rX rfl (rT ft 1 rfl rfl (SqT.of hft) (zaj (j:=1) rfl) (rX rfl (rT t 2 rfl rfl (SqT.of ht) (zaj (j:=2) rfl) ⟨rfl,.inr (rX rfl ?_)⟩))))
  rw [hbk]
  refine ⟨_,rfl,_,rfl,lb,_,_,_,rfl,rfl,SqL.of hlb,hix,tq,_,1,_,rfl,rfl,SqT.of htq,zaj (j:=1) rfl,?_⟩
  refine ⟨fun σ' H' => σ' = [some (.ref g.b),some (.ref ra),some (.ref t),some (.ref ft),some (.ref lb),some (.ref l),some (.int (if b = true then 1 else 0)),some (.ref lr),none,none,none,none] ∧ H' = H,?_,?_⟩
  ·refine (rX rfl ⟨_,.inl ⟨ts,SqL.of hl,rfl⟩,?_⟩)
   cases hev with
   | nil => exact iteF (iteF ⟨rfl,rfl⟩)
   | @cons v ev tr er h1 h2 =>
    obtain ⟨ta,rfl,hta⟩:=h1
    obtain ⟨y,tt,hy,hyn⟩:=best.fi ev er rfl
    have hlr' : H lr = some (.lst (.int y.num :: zeP tt)):=by rw [hlr,hy]; rfl
    refine iteT (rX rfl ⟨_,.inl ⟨_,SqL.of hlr',rfl⟩,iteF (rX rfl ⟨l,_,0,rX rfl ⟨rfl,SqL.of hl,zaj (j:=0) rfl,ta,_,1,rX rfl ⟨rfl,SqT.of hta,zjq ev,rX rfl ⟨lr,_,0,rX rfl ⟨rfl,SqL.of hlr',zaj (j:=0) rfl,rfl,rX rfl (zar ?_ ⟨rfl,rfl⟩)⟩⟩⟩⟩⟩)⟩)
    rw [hyn]
    simp
  rintro σ H' ⟨rfl,rfl⟩
  have psl : (ys.map (·.price)).length ≤ 11000:=by rw [List.length_map]; omega
  refine ⟨[.ref ra],rfl,capv1 rfl,_,rfl,l,rfl,⟨_,SqL.of hl⟩,?_⟩
  refine zco (K:=K) (σ0:=List.replicate 1 none ++ [some (.ref ra)]) (g:=zbF 0) (te:=teA K) (xs:=ts) (ys:=(ys.map (·.price)).map V.int) (SqL.of hl) (by rw [List.length_map,List.length_map]; omega) (by rw [List.length_map,sizeLine_eq]; omega) (fun j x y hx hy R1 hR1 => ?_) (fun x σ H R R' hi h => hi _ _ h) fun p8 hp8 => ?_
  ·obtain ⟨ev,hev',ta,rfl,hta⟩:=zcF hev hx
   obtain ⟨ye,rr,hye,_,_,_,hrr,hpr⟩:=row hev'
   obtain ⟨pp,hpp,rfl⟩:=zbO hy
   obtain ⟨y2,hy2,rfl⟩:=zbO hpp
   rw [hye] at hy2
   obtain rfl:=Option.some.inj hy2
   exact (rX rfl (rX rfl ⟨ta,_,1,rX rfl ⟨rfl,SqT.of hta,zjq ev,ra,rX rfl ⟨rec.get hrr,_,rX rfl ⟨rec.fld hrr ((zdT rr).trans (by rw [hpr]; rfl)),hR1⟩⟩⟩⟩))
  have s8:=zai (o:=.lst ((ys.map (·.price)).map V.int)) hp8
  have hp88 : upd H' p8 (.lst ((ys.map (·.price)).map V.int)) p8 = some (.lst ((ys.map (·.price)).map V.int)):=zab
  generalize upd H' p8 (.lst ((ys.map (·.price)).map V.int)) = H8 at *
  refine ⟨fun σ' H9 => ∃ p9,σ' = [some (.ref g.b),some (.ref ra),some (.ref t),some (.ref ft),some (.ref lb),some (.ref l),some (.int (if b = true then 1 else 0)),some (.ref lr),some (.ref p8),some (.ref p9),none,none] ∧ Same H8 H9 ∧ H9 p9 = some (.lst ((ys.map (·.price)).map V.int)),?_,?_⟩
  ·refine (rX rfl (rT t 2 rfl rfl (SqT.of (s8 _ _ ht)) (zaj (j:=2) rfl) ⟨rfl,rX rfl ?_⟩))
   cases b with
   | true => exact zar rfl ⟨_,rfl,p8,_,rfl,SqL.of hp88,so,fun p9 hp9 => ⟨p9,rfl,zai hp9,zab⟩⟩
   | false => exact zaD rfl ⟨_,rfl,p8,_,rfl,rfl,SqL.of hp88,so,fun p9 hp9 => ⟨p9,rfl,zai hp9,zab⟩⟩
  rintro σ H9 ⟨p9,rfl,s9',hp9⟩
  have s9:=s8.trans s9'
  refine (rX rfl (rX rfl ⟨.list ((ys.map (·.price)).map Dat.int),.list ((ys.map (·.price)).map Dat.int),.lst (SqL.of (s9' _ _ hp88)) (zdn _),.lst (SqL.of hp9) (zdn _),zgG 8 _,zgG 8 _,fun k' hk => ?_⟩))
  have hk2 : k' = true:=hk.mpr rfl
  subst hk2
  refine (rX rfl (iteF ?_))
  have rec9 : RecOk H9 ra rs ad len:=rec.same fun x o hx _ => s9 _ _ hx
  have nI : zeP (B.at (!b)) = ((B.at (!b)).map (·.num)).map V.int:=by rw [List.map_map]; rfl
  have hlr9 : H9 lr = some (.lst (((B.at (!b)).map (·.num)).map V.int)):=by rw [← nI]; exact s9 _ _ hlr
  refine ⟨[.ref lr,.ref ra],rfl,capv2 rfl rfl,_,rfl,l,rfl,⟨_,SqL.of (s9 _ _ hl)⟩,?_⟩
  have tm : (evs.map fun _ => true).map V.bl = evs.map fun _ => V.bl true:=by rw [List.map_map]; rfl
  refine zco (K:=K) (σ0:=List.replicate 1 none ++ [some (.ref lr),some (.ref ra)]) (g:=zbF 0) (te:=teB K) (xs:=ts) (ys:=(evs.map fun _ => true).map V.bl) (SqL.of (s9 _ _ hl)) (by rw [List.length_map,List.length_map]; omega) (by rw [List.length_map,List.length_map,sizeLine_eq]; omega) (fun j x y hx hy R1 hR1 => ?_) (fun x σ H R R' hi h => hi _ _ h) fun p10 hp10 => ?_
  ·obtain ⟨ev,hev',ta,rfl,hta⟩:=zcF hev hx
   obtain ⟨ye,rr,hye,hym,htp,hyn,hrr,hpr⟩:=row hev'
   rw [tm] at hy
   obtain ⟨_,_,rfl⟩:=zbO hy
   have hta9:=s9 _ _ hta
   refine (rX rfl ⟨ta,_,1,rX rfl ⟨rfl,SqT.of hta9,zjq ev,rX rfl ⟨lr,rX rfl ⟨.inl (SqL.of hlr9),rfl,zfR _,rX rfl ?_⟩⟩⟩⟩)
   show if inV (.int ev.num) (((B.at (!b)).map (·.num)).map V.int) = true then _ else _
   refine zaD (by rw [ze3]; exact decide_eq_true (by rw [← hyn]; exact List.mem_map.mpr ⟨ye,hym,rfl⟩)) (rX rfl ⟨ta,rX rfl ⟨.inr (SqT.of hta9),rfl,rX rfl ?_⟩⟩)
   cases ev with
   | out n => exact zaD rfl hR1
   | trade n p kk =>
    refine zar rfl (rX rfl (rT ta 2 rfl rfl (SqT.of hta9) (zaj (j:=2) rfl) (rX rfl (rX rfl (rT ta 1 rfl rfl (SqT.of hta9) (zaj (j:=1) rfl) ⟨ra,rX rfl ⟨rec9.get hrr,_,rX rfl ⟨rec9.fld hrr (v:=.int ye.price) ((zdT rr).trans (by rw [hpr]; rfl)),rfl,?_⟩⟩⟩)))))
    rw [htp n p kk rfl,show decide (V.int ye.price = V.int ye.price) = true by simp]
    exact hR1
  have s10:=s9.trans (zai (o:=.lst ((evs.map fun _ => true).map V.bl)) hp10)
  refine ⟨p10,_,rfl,SqL.of zab,_,rfl,?_⟩
  rw [show (evs.map fun _ => true).all id = true from List.all_eq_true.mpr fun x hx => by obtain ⟨_,_,rfl⟩:=List.mem_map.mp hx; rfl]
  refine iteF ?_
  generalize upd H9 p10 (.lst ((evs.map fun _ => true).map V.bl)) = H10 at *
  refine ⟨[],rfl,(fun j p hp => by simp at hp),_,rfl,l,rfl,⟨_,SqL.of (s10 _ _ hl)⟩,?_⟩
  refine zef (K:=K) (σ0:=List.replicate 1 none ++ []) (g:=zbF 0) (tc:=zib (tOp rEq (tIx K 0 0) (tC (.str "trade")))) (te:=tIx K 0 3) (xs:=ts) (fun j zs Hz => Hz = H10 ∧ zs.length ≤ j ∧ ∃ ks : List Int,zs = ks.map V.int ∧ sumI ks = zbS (evs.take j)) ⟨rfl,Nat.le_refl _,[],rfl,rfl⟩ (fun j zs Hz hj h => ?_) (fun j x zs Hz hx h Rt Rf hRt hRf => ?_) fun zs Hz h p11 hp11 => ?_
  ·obtain ⟨rfl,h2,_⟩:=h
   exact ⟨SqL.of (s10 _ _ hl),by rw [sizeLine_eq]; omega⟩
  ·obtain ⟨rfl,h2,ks,rfl,h3⟩:=h
   obtain ⟨ev,hev',ta,rfl,hta⟩:=zcF hev hx
   have hta10:=s10 _ _ hta
   have e1 : evs.take (j + 1) = evs.take j ++ [ev]:=by rw [List.take_add_one,hev']; rfl
   cases ev with
   | out n =>
    refine (rX rfl (rT ta 0 rfl rfl (SqT.of hta10) (zaj (j:=0) rfl) ⟨rfl,rX rfl (zar rfl (hRf _ ⟨rfl,by omega,ks,rfl,?_⟩))⟩))
    rw [e1,zbK,h3]
    show _ = _ + 0
    omega
   | trade n p kk =>
    refine (rX rfl (rT ta 0 rfl rfl (SqT.of hta10) (zaj (j:=0) rfl) ⟨rfl,rX rfl (zaD rfl (rX rfl (rT ta 3 rfl rfl (SqT.of hta10) (zaj (j:=3) rfl) (hRt _ _ ⟨rfl,by rw [List.length_append]; exact Nat.add_le_add_right h2 1,ks ++ [kk],by rw [List.map_append]; rfl,?_⟩))))⟩))
    rw [e1,zbK,zfj,h3]
    rfl
  obtain ⟨rfl,_,ks,rfl,h3⟩:=h
  rw [lts,List.take_length] at h3
  have s11:=s10.trans (zai (o:=.lst (ks.map V.int)) hp11)
  refine ⟨p11,ks,rfl,SqL.of zab,?_⟩
  rw [h3]
  generalize upd Hz p11 (.lst (ks.map V.int)) = H11 at *
  refine ⟨fun σ' H' => σ' = [some (.ref g.b),some (.ref ra),some (.ref t),some (.ref ft),some (.ref lb),some (.ref l),some (.int (if b = true then 1 else 0)),some (.ref lr),some (.ref p8),some (.ref p9),some (.int (zbS evs)),none] ∧ Same H11 H',?_,?_⟩
  ·refine (rX rfl (rT t 6 rfl rfl (SqT.of (s11 _ _ ht)) (zaj (j:=6) rfl) ⟨rfl,rX rfl ?_⟩))
   by_cases hw : way = "whole"
   ·refine zaD (decide_eq_true (by rw [hw])) (rX rfl (rX rfl (rT t 4 rfl rfl (SqT.of (s11 _ _ ht)) (zaj (j:=4) rfl) ⟨zbY 2 rfl,fun p12 hp12 => ⟨p12,rX rfl ⟨.inr (SqT.of zab),rfl,rfl,rX rfl ?_⟩⟩⟩)))
    show if (!inV (.int (zbS evs)) ([0,many].map V.int)) = true then _ else _
    refine zar ?_ ⟨rfl,zai hp12⟩
    rw [ze3,decide_eq_true]
    ·rfl
    ·rcases best.wh hw with z | z <;> simp [z]
   ·exact zar (decide_eq_false fun z => hw (by injection z)) (iteF ⟨rfl,Same.refl _⟩)
  rintro σ H12 ⟨rfl,s12'⟩
  have s12:=s11.trans s12'
  refine ⟨fun σ' H' => σ' = [some (.ref g.b),some (.ref ra),some (.ref t),some (.ref ft),some (.ref lb),some (.ref l),some (.int (if b = true then 1 else 0)),some (.ref lr),some (.ref p8),some (.ref p9),some (.int (zbS evs)),none] ∧ H' = H12 ∧ (way = "whole" → zbS evs = many),?_,?_⟩
  ·refine (rX rfl (rT t 6 rfl rfl (SqT.of (s12 _ _ ht)) (zaj (j:=6) rfl) ⟨rfl,rX rfl ?_⟩))
   by_cases hw : way = "whole"
   ·refine zaD (decide_eq_true (by rw [hw])) (rX rfl ⟨rfl,rX rfl ?_⟩)
    by_cases h0 : zbS evs = 0
    ·obtain ⟨he,hB⟩:=best.w0 hw h0
     have hts : ts = []:=List.eq_nil_of_length_eq_zero (by rw [lts,he]; rfl)
     refine zaD (decide_eq_true (by rw [h0])) (rX rfl ⟨zbY 0 rfl,fun pz hpz => ⟨.list [],.list [],.lst (SqL.of (by rw [zai hpz _ _ (s12 _ _ hl),hts])) .nil,.lst (SqL.of zab) .nil,rfl,rfl,fun k1 hk1 => ?_⟩⟩)
     have : k1 = true:=hk1.mpr rfl
     subst this
     have s13:=s12.trans (zai (o:=.lst []) hpz)
     refine (rX rfl (iteT (rX rfl ⟨g,B',rfl,Same.rep s13 R,hlB',fun l2 H2 s2 shw2 => (rX rfl ⟨.list [sDat B' true,sDat B' false],.list [sDat B true,sDat B false],shw2.dat,(shw.keep (fun x o hx _ => s2 _ _ (s13 _ _ hx)) (fun _ z => z)).dat,shw_ok B',shw_ok B,fun k2 hk2 => ?_⟩)⟩)))
     have : k2 = true:=hk2.mpr (by unfold sDat; rw [hB true,hB false])
     subst this
     exact q _ (s13.trans s2)
    ·refine zar (decide_eq_false fun z => h0 (by injection z)) ⟨rfl,rfl,fun _ => ?_⟩
     rcases best.wh hw with z | z
     ·exact absurd z h0
     ·exact z
   ·exact zar (decide_eq_false fun z => hw (by injection z)) (iteF ⟨rfl,rfl,fun z => absurd z hw⟩)
  rintro σ Hq ⟨rfl,rfl,hwm⟩
  refine (rX rfl (rX rfl (rT t 4 rfl rfl (SqT.of (s12 _ _ ht)) (zaj (j:=4) rfl) ⟨rfl,rX rfl ?_⟩)))
  by_cases hem : zbS evs = many
  ·exact zaD (decide_eq_true (by rw [hem])) (q _ s12)
  refine zar (decide_eq_false fun z => hem (by injection z)) ?_
  have nos:=best.le (fun z => hem (hwm z)) hem
  have R12:=Same.rep s12 R
  obtain ⟨dx12,hb12⟩:=id R12.ob
  have hix2 : atI ([.str "buy",.str "sell"] : List V) (if b = true then 1 else 0) = some (.str (zav (!b))):=by
   cases b with
   | true => exact zaj (j:=1) rfl
   | false => exact zaj (j:=0) rfl
  refine ⟨[.ref ra],rfl,capv1 rfl,_,rfl,g.b,dx12,_,rfl,hb12,rfl,zbY 2 rfl,fun l2 hl2 => ⟨_,rfl,l2,_,_,_,rfl,rfl,SqL.of zab,hix2,?_⟩⟩
  have s13:=s12.trans (zai (o:=.lst [.str "buy",.str "sell"]) hl2)
  generalize upd Hq l2 (.lst [.str "buy",.str "sell"]) = H13 at *
  refine ⟨g,B',!b,rfl,Same.rep s13 R,hlB' _,fun l3 H14 s14' _ hl3 => ⟨l3,rfl,⟨_,SqL.of hl3⟩,?_⟩⟩
  have s14:=s13.trans s14'
  have rec14 : RecOk H14 ra rs ad len:=rec.same fun x o hx _ => s14 _ _ hx
  have hlx:=hlB' (!b)
  refine zco (K:=K) (σ0:=List.replicate 1 none ++ [some (.ref ra)]) (g:=zbF 0) (te:=zem (zem (tVar 1) (tVar 0)) (tC (.str "price"))) (xs:=zeP (B'.at (!b))) (ys:=((B'.at (!b)).map (·.price)).map V.int) (SqL.of hl3) (by rw [List.length_map,List.length_map,List.length_map]) (by rw [List.length_map,List.length_map,sizeLine_eq]; omega) (fun j x y hx hy R1 hR1 => ?_) (fun x σ H R R' hi h => hi _ _ h) fun p15 hp15 => ?_
  ·obtain ⟨en,hen,rfl⟩:=zbO hx
   obtain ⟨pp,hpp,rfl⟩:=zbO hy
   obtain ⟨e2,he2,rfl⟩:=zbO hpp
   rw [hen] at he2
   obtain rfl:=Option.some.inj he2
   obtain ⟨rr,hrr,hpr⟩:=rn' en (List.mem_of_getElem? hen)
   exact (rX rfl (rX rfl ⟨ra,rX rfl ⟨rec14.get hrr,_,rX rfl ⟨rec14.fld hrr ((zdT rr).trans (by rw [hpr]; rfl)),hR1⟩⟩⟩))
  have s15:=s14.trans (zai (o:=.lst (((B'.at (!b)).map (·.price)).map V.int)) hp15)
  have hp15' : upd H14 p15 (.lst (((B'.at (!b)).map (·.price)).map V.int)) p15 = some (.lst (((B'.at (!b)).map (·.price)).map V.int)):=zab
  generalize upd H14 p15 (.lst (((B'.at (!b)).map (·.price)).map V.int)) = H15 at *
  refine ⟨[.ref t],rfl,capv1 rfl,_,rfl,p15,rfl,⟨_,SqL.of hp15'⟩,?_⟩
  have fm : ((B'.at (!b)).map fun _ => false).map V.bl = (B'.at (!b)).map fun _ => V.bl false:=by rw [List.map_map]; rfl
  refine zco (K:=K) (σ0:=List.replicate 1 none ++ [some (.ref t)]) (g:=zbF 0) (te:=teC K) (xs:=((B'.at (!b)).map (·.price)).map V.int) (ys:=((B'.at (!b)).map fun _ => false).map V.bl) (SqL.of hp15') (by rw [List.length_map,List.length_map,List.length_map,List.length_map]) (by rw [List.length_map,List.length_map,sizeLine_eq]; omega) (fun j x y hx hy R1 hR1 => ?_) (fun x σ H R R' hi h => hi _ _ h) fun p16 hp16 => ?_
  ·obtain ⟨pp,hpp,rfl⟩:=zbO hx
   obtain ⟨en,hen,rfl⟩:=zbO hpp
   rw [fm] at hy
   obtain ⟨_,_,rfl⟩:=zbO hy
   refine (rX rfl (rT t 2 rfl rfl (SqT.of (s15 _ _ ht)) (zaj (j:=2) rfl) (rX rfl (rT t 3 rfl rfl (SqT.of (s15 _ _ ht)) (zaj (j:=3) rfl) (rX rfl ⟨b,pr,en.price,rfl,?_⟩)))))
   rw [nos en (List.mem_of_getElem? hen)]
   exact hR1
  exact ⟨p16,_,rfl,SqL.of zab,(fun x hx => by obtain ⟨_,_,rfl⟩:=List.mem_map.mp hx; rfl),false,rfl,q _ (s15.trans (zai hp16))⟩
end
end Fb
namespace Fb
open PySem L2
open PySem.W (Dat kqdOk)
theorem b0_ok : B0.Ok:=by
 refine ⟨fun b => ?_,fun b e he => ?_,fun b => ?_,fun e he => ?_,fun b e he => ?_,fun b e he => ?_,by decide,by decide⟩
 ·cases b <;> exact List.Pairwise.nil
 ·cases b <;> exact absurd he (by simp [Bk.at,B0])
 ·cases b <;> exact List.nodup_nil
 ·exact absurd he (by simp [B0])
 ·cases b <;> exact absurd he (by simp [Bk.at,B0])
 ·cases b <;> exact absurd he (by simp [Bk.at,B0])
theorem b0_pos : B0.Pos:=⟨fun b e he => by cases b <;> exact absurd he (by simp [Bk.at,B0])⟩
theorem kd_t {xs : List V} : kd (.tup xs) ≠ 6:=by show (7 : Nat) ≠ 6; decide
theorem kd_l {xs : List V} : kd (.lst xs) ≠ 6:=by show (5 : Nat) ≠ 6; decide
theorem AnsV.keep {H H' : Hp} {v : V} {ans : Ans} (h : AnsV H v ans) (k : ∀ x o,H x = some o → kd o ≠ 6 → H' x = some o) : AnsV H' v ans:=by
 cases ans with
 | placed n evs =>
  obtain ⟨t,l,ts,h1,h2,h3,h4,h5⟩:=h
  exact ⟨t,l,ts,h1,k _ _ h2 kd_t,k _ _ h3 kd_l,Paired.mapP h4 fun v ev ⟨a,e1,e2⟩ => ⟨a,e1,k _ _ e2 kd_t⟩,h5⟩
 | trades p ts =>
  obtain ⟨l,tv,h1,h2,h3,h4⟩:=h
  exact ⟨l,tv,h1,k _ _ h2 kd_l,Paired.mapP h3 fun v ev ⟨a,e1,e2⟩ => ⟨a,e1,k _ _ e2 kd_t⟩,h4⟩
 | str x => exact h
 | num x => exact h
 | non => exact h
section
variable {P : Program} {w : World} {K : W.Frag} {mg : Str → Option Value} {base : Heap} {bo nt nn be sides ways : Addr} {c : Cs} {a : Ads} {d : Pds} {m : Mds} {n : Nds} {u : Uds} {e : Eds} {r : Des}
theorem sc22 : FnScope ["_law_script","_law_book","_law_record","_law_k","_law_deed_here","_law_before","_law_calling","_law_found"] ["_law_script"] (zak sLaw):=fsc
noncomputable def spLaw (K : W.Frag) : Sp:=fun vs H Q _ => ∃ (s : Addr) (ns : List Int),vs = [.ref s] ∧ SqL K H s (ns.map V.int) ∧ ns.length ≤ 63 ∧ ∀ H',Q (.bl true) H'
theorem kLaw (T : XTxt K mg bo nt nn be) (O : OTxt K mg sides ways) (C : CTxt K mg c) (F : FTxt K mg a c) (D : PTxt K mg d) (M : MTxt K mg m) (N : NTxt K mg c n) (U : UTxt K mg u) (Z : ZTxt mg) (Y : YTxt mg) (L : ETxt K mg bo nt nn be e) (Rt : DeTxt K mg c r) {f : Addr} {fd : FuncData} (G : Fun K "law" "law" sLaw f fd) :
  FnOk P w K mg base (CXF P w) 9 f fd ["_law_script"] (spLaw K):=by
 obtain ⟨fd1,G1,b1,k1⟩:=zjp (P:=P) (w:=w) (base:=base) C F
 obtain ⟨fd2,G2,b2,k2⟩:=kMix (P:=P) (w:=w) (base:=base) C L
 obtain ⟨fd3,G3,b3,k3⟩:=kDeed (P:=P) (w:=w) (base:=base) C L
 obtain ⟨fd4,G4,b4,k4⟩:=kAsked (P:=P) (w:=w) (base:=base) T O C F D M N U Z L
 obtain ⟨fd5,G5,b5,k5⟩:=kKeep (P:=P) (w:=w) (base:=base) L
 obtain ⟨fd6,G6,b6,k6⟩:=kShw (P:=P) (w:=w) (base:=base) C F U Rt
 obtain ⟨fd7,G7,b7,k7⟩:=zcl (P:=P) (w:=w) (base:=base) C F
 obtain ⟨fd8,G8,b8,k8⟩:=kGood (P:=P) (w:=w) (base:=base) C F U Z Y Rt
 refine G.okN sc22 (fun vs H Q E h => ?_) (fun cdv A outer s H vs Q E hr h => ?_)
 ·obtain ⟨_,_,rfl,_⟩:=h
  rfl
 ·obtain ⟨sa,ns,rfl,hS,hlen,q⟩:=h
  have hr4 : Room 4 _:=hr.mono (by decide)
  have hr3 : Room 3 _:=hr.mono (by decide)
  have hr2 : Room 2 _:=hr.mono (by decide)
  have hr1 : Room 1 _:=hr.mono (by decide)
  have hu:=zdd hr
  have hu64:=hr.units
  refine ⟨_,zac (zap (i:=1) sc22.nd rfl (Or.inl rfl) (zg7 F.mkBook G1 hr4 rfl C.mgB b1 .nil zaq))
   (zac (zap (i:=2) sc22.nd rfl (Or.inl rfl) zeL)
   (zac (zg4 PassesOwn.never rfl (ziO (by rfl) L.grange (zaa (zaA za1 (zas G2 hr2 rfl L.gMix k2 b2 .nil zaq (zaa (pv 0) (zaa zah zag))) zah) zag)) (zbc (i:=3) sc22.nd rfl (Or.inl rfl))
    (zac (zap (i:=4) sc22.nd rfl (Or.inl rfl) (zas G3 hr4 rfl L.gDeed k3 b3 .nil zaq (zaa (pv 0) (zaa (zaA zbz zah (zaA zhb zah (pv 3))) zag))))
    (zac (zap (i:=5) sc22.nd rfl (Or.inl rfl) (zas G6 hr3 rfl Rt.gShown k6 b6 .nil zaq (zaa (pv 1) zag)))
    (zac (zap (i:=6) sc22.nd rfl (Or.inl rfl) (zbC (pv 1) C.clB F.mIsCalling G7 hr1 b7 .nil zaq))
    (zac (zap (i:=7) sc22.nd rfl (Or.inl rfl) (zas G4 hr rfl L.gAsked k4 b4 .nil zaq (zaa (pv 1) (zaa (pv 4) zag))))
    (zac (zaJ (zao (ziY hu64) (pv 7) zam (zat _)) (zaf (zaw zcu)) zau)
    (zac (zaG (zas G5 hr1 rfl L.gKeep k5 b5 .nil zaq (zaa (pv 2) (zaa (pv 4) (zaa (pv 7) zag)))))
    (zaf (zaJ (PW.pt (zbf (zao za3 (zaB zax (pv 4) zah (fun _ _ => rfl)) zam (zat _)) (zbf (zbv (zaE za5 (by rfl) L.gi (by decide +kernel) (zaa (pv 7) (zaa (zeM (v:=.ty "tuple") (by rfl) L.gtuple (by decide +kernel) rfl) zag)))) (za2 (zcD (zbv (pv 6)))))))
     (zaf (zaJ (zcD (zbv (zas G8 hr4 rfl Rt.gGood k8 b8 .nil zaq (zaa (pv 1) (zaa (pv 2) (zaa (pv 4) (zaa (pv 7) (zaa (pv 5) zag)))))))) (zaf (zaw zcu)) zau)) zau)))))))))
   (zaf (zaw zcu)))),?_⟩
  intro p dx hp hdx hne
  refine ⟨p,dx,rfl,zab,fun g H1 hg R1 kp1 ft1 => ⟨rfl,?_⟩⟩
  subst hg
  refine fun ra hra => ?_
  have lp1 : Lp K c H sa g B0 ra (fun _ => none) (fun _ => 0) 0 (upd H1 ra (.dK [])):=by
   have s1:=zai (o:=.dK []) hra
   have nf : ¬ Foot g B0 ra:=fun f => by
    obtain ⟨v,hv⟩:=zbl R1 f
    rw [hra] at hv
    cases hv
   refine ⟨Same.rep s1 R1,b0_ok,b0_pos,⟨⟨[],zab,Nat.le_refl _,fun n r h => (by cases h)⟩,fun n r h => (by cases h),fun n k r r' h => (by cases h)⟩,fun b x hx => (by cases b <;> exact absurd hx (by simp [Bk.at,B0])),fun x o => ?_,fun o ho => ?_⟩
   ·rcases o with rfl | ⟨n,r,h,_⟩
    ·exact ⟨nf,zae R1.ds hra |>.symm⟩
    ·cases h
   ·have n1 : sa ≠ g.b:=zae ho hp
    have h1 : upd (upd H dx (.own g.b)) g.b (.ins c.B dx []) sa = some o:=by
     rw [zad n1,zad (zae ho hdx)]
     exact ho
    have h2:=kp1 sa o h1 n1
    refine ⟨s1 _ _ h2,fun f => ?_,fun w => ?_⟩
    ·rcases ft1 sa f with z | z
     ·exact n1 z
     ·rw [h1] at z
      cases z
    ·rcases w with w | ⟨n,r,h,_⟩
     ·rw [w,hra] at h2
      cases h2
     ·cases h
  generalize upd H1 ra (.dK []) = H2 at *
  refine (rX rfl ⟨sa,ns,0,rfl,lp1.seq hS,fun v h0 h1 => (r2 rfl rfl ⟨(by show (0 : Int) < 25; decide),rX rfl ⟨(by omega),(by omega),?_⟩⟩)⟩)
  have hv25 : (v % 25).toNat ≤ 24:=by omega
  refine zjF (lo:=0) (n:=(v % 25).toNat) (fun i σ H' => ∃ (B : Bk) (rs : Rs) (ad : Int → Addr) (x3 x4 x5 x6 x7 : Option V),σ = [some (.ref sa),some (.ref g.b),some (.ref ra),x3,x4,x5,x6,x7] ∧ Lp K c H sa g B ra rs ad i H' ∧ B.came ≤ i)
   ⟨B0,_,_,none,none,none,none,none,rfl,lp1,by decide⟩ ?_ ?_
  ·rintro i σ H' hi ⟨B,rs,ad,x3,x4,x5,x6,x7,rfl,lp,hle⟩
   refine (rX rfl (rX rfl (r2 rfl rfl ⟨.inl ⟨by decide,by decide⟩,r2 rfl rfl ⟨sa,ns,rX rfl ⟨lp.seq hS,fun dd t H3 hdd s3 _ ht => ?_⟩⟩⟩)))
   replace lp:=lp.same s3
   have hct : ((B.buys.length + B.sells.length : Nat) : Int) ≤ B.came:=lp.ok.ct
   have hlB : ∀ b,(B.at b).length ≤ 1000:=fun b => by
    have z1:=zda B b
    omega
   refine (rX rfl ⟨g,B,rfl,lp.R,hlB,fun lb H4 s4 shw => ?_⟩)
   have nN : ∀ x,H3 x = none → ¬ Foot g B x ∧ ¬ OwnR ra rs ad x:=fun x hx => by
    constructor
    ·intro f
     obtain ⟨v,hv⟩:=zbl lp.R f
     rw [hx] at hv
     cases hv
    ·intro o
     obtain ⟨v,hv,_⟩:=lp.rk.own_some o
     rw [hx] at hv
     cases hv
   replace lp:=lp.same s4
   replace ht:=s4 _ _ ht
   replace shw:=shw.keep (fun x o hx _ => hx) nN
   obtain ⟨dx4,hb4⟩:=id lp.R.ob
   refine (rX rfl (rM g.b dx4 rfl hb4 rfl ⟨g,B,rfl,lp.R,?_⟩))
   refine (rX rfl (rX rfl ⟨g,B,t,dd,rfl,lp.R,lp.ok,lp.ps,by omega,ht,hdd,fun fv ans B' H5 hdo hans R5 ok5 ps5 hca fr5 => ?_⟩))
   obtain ⟨da,hda,hdk,hdw⟩:=ans_dat (K:=K) hans hdo
   refine (rX rfl ⟨da,.str "wrong",hda,.str _,hdk,zdF.2.2.2.2.2,fun k hk => (rX rfl ?_)⟩)
   have hkf : k = false:=by
    cases k with
    | false => rfl
    | true => exact absurd (hk.mp rfl) hdw
   subst hkf
   refine zar rfl ?_
   have rec5 : RecOk H5 ra rs ad i:=lp.rk.same fun x o hx w => fr5.kp x o hx (lp.ow x w).1
   have ht5:=fr5.kp _ _ ht (zdY lp.R 7 ht)
   have shw5:=shw.keep (H':=H5) (fun x o hx z => fr5.kp x o hx (z.elim (fun z => zdY lp.R 7 hx z) fun z => z.1)) fun _ z => z
   refine (rX rfl (rX rfl (rX rfl ⟨ra,rs,ad,i,t,dd,fv,ans,B,B',rfl,rec5,by omega,ht5,hans,hdo,fun b x hx => (by obtain ⟨r,hr,_⟩:=lp.rn b x hx; exact ⟨r,hr⟩),fun ad' H6 rec6 k6' f6 => ?_⟩)))
   have lp6:=lp.next hdo (by omega) R5 ok5 ps5 fr5 rec6 k6' f6
   have nk : ∀ x o,H5 x = some o → kd o ≠ 6 → H6 x = some o:=fun x o hx hk => k6' _ _ hx fun w => by
    obtain ⟨u,hu,h6⟩:=rec5.own_some w
    rw [hx] at hu
    obtain rfl:=Option.some.inj hu
    exact hk h6
   have shw6:=shw5.keep (H':=H6) (fun x o hx z => z.elim (fun z => nk x o hx (by rw [z]; decide)) fun z => k6' x o hx z.2) fun _ z => z
   replace ht:=nk _ _ ht5 kd_t
   replace hans:=hans.keep nk
   have hca6 : B'.came ≤ ((i + 1 : Nat) : Int):=by omega
   have hct' : ((B'.buys.length + B'.sells.length : Nat) : Int) ≤ B'.came:=ok5.ct
   have hlB' : ∀ b,(B'.at b).length ≤ 1000:=fun b => by
    have z1:=zda B' b
    omega
   cases dd with
   | pl ow b pr many shows way =>
    cases hdo with
    | bad hb =>
     obtain rfl : fv = .str "bad":=hans
     exact (rX rfl (rT t 0 rfl rfl (SqT.of ht) (zaj (j:=0) rfl) ⟨rfl,rX rfl (zaD rfl (rX rfl ⟨_,_,false,rfl,rfl,.inl ⟨_,.str _,L.tST⟩,rX rfl (iteF (iteF ⟨B,_,_,_,_,_,_,rX rfl ⟨lp6,hca6⟩⟩))⟩))⟩))
    | now hb hc hw =>
     obtain rfl : fv = .str "now":=hans
     exact (rX rfl (rT t 0 rfl rfl (SqT.of ht) (zaj (j:=0) rfl) ⟨rfl,rX rfl (zaD rfl (rX rfl ⟨_,_,false,rfl,rfl,.inl ⟨_,.str _,L.tST⟩,rX rfl (iteF (iteF ⟨B,_,_,_,_,_,_,rX rfl ⟨lp6,hca6⟩⟩))⟩))⟩))
    | @pl _ _ _ _ _ _ evs _ hg hcw hpl =>
     obtain ⟨ft,l,ts,rfl,hft,hl,hev,hel⟩:=hans
     refine (rX rfl (rT t 0 rfl rfl (SqT.of ht) (zaj (j:=0) rfl) ⟨rfl,rX rfl (zaD rfl (rX rfl ⟨_,_,true,rfl,rfl,.inl ⟨_,.tup hft,L.tTT⟩,rX rfl (iteT (rX rfl (rX rfl ?_)))⟩))⟩))
     cases hcal : B.calling with
     | true => exact iteF ⟨B',_,_,_,_,_,_,_,rfl,lp6,hca6⟩
     | false =>
      obtain ⟨g1,_⟩:=zfP hg
      refine iteT (rX rfl (rX rfl (rX rfl (rX rfl (rX rfl ⟨g,B,B',ra,_,ad',i + 1,t,ft,l,lb,ow,b,pr,many,shows,way,B.came,ts,evs,rX rfl ⟨lp6.R,lp6.rk,ht,hft,hl,hev,hel,shw6,hpl.best lp.ok lp.ps (by omega) hcal g1,hlB,hlB',fun x hx => ?_,fun x hx => ?_,fun H7 s7 => (rX rfl (iteF ⟨B',_,_,_,_,_,_,rX rfl ⟨lp6.same s7,hca6⟩⟩))⟩⟩)))))
      ·obtain ⟨rr,h1,_,h2,_⟩:=lp.rn _ x hx
       refine ⟨rr,?_,h2⟩
       show setR rs B.came _ x.num = _
       unfold setR
       rw [if_neg fun z => by have:=(lp.ok.lt _ x hx).2; omega]
       exact h1
      ·obtain ⟨rr,h1,_,h2,_⟩:=lp6.rn _ x hx
       exact ⟨rr,h1,h2⟩
   | ca k j => exact ⟨_,rfl,t,_,0,_,rfl,rfl,SqT.of ht,zaj (j:=0) rfl,rfl,_,rfl,zar rfl (iteF ⟨B',_,_,_,_,_,_,_,rfl,lp6,hca6⟩)⟩
   | ch k j => exact ⟨_,rfl,t,_,0,_,rfl,rfl,SqT.of ht,zaj (j:=0) rfl,rfl,_,rfl,zar rfl (iteF ⟨B',_,_,_,_,_,_,_,rfl,lp6,hca6⟩)⟩
   | cl vs => exact ⟨_,rfl,t,_,0,_,rfl,rfl,SqT.of ht,zaj (j:=0) rfl,rfl,_,rfl,zar rfl (iteF ⟨B',_,_,_,_,_,_,_,rfl,lp6,hca6⟩)⟩
   | un k j => exact ⟨_,rfl,t,_,0,_,rfl,rfl,SqT.of ht,zaj (j:=0) rfl,rfl,_,rfl,zar rfl (iteF ⟨B',_,_,_,_,_,_,_,rfl,lp6,hca6⟩)⟩
  ·rintro σ H' _
   exact q _
end
end Fb
namespace Fb
open PySem L2
theorem dn_mk {K : W.Frag} {x qual : Str} {st : Stmt} {f : Addr} {ps : List Str} {oc : Value} {od an : Option Addr} {osl : Array (Option Value)} {kV doc pm cdv ct : Value} (l : K.lookup f = some ⟨oc,od,.func (W.fnOf x qual (zc3 st) (zca st) (zak st) .none kV doc pm an cdv ct),osl⟩)
  (c : W.codeIn K cdv qual = true) (k : W.keepIn K (.ref f) = true)
  (h : ∀ (kV doc pm : Value) (an : Option Addr) (cdv ct : Value) (us : List Value),us.length = ps.length → bindArgs (W.fnOf x qual (zc3 st) (zca st) (zak st) .none kV doc pm an cdv ct) ⟨us,[]⟩ = pure (ps.zip us)) : Dn K x qual st f ps :=
 ⟨_,fun_mk l c k,(fun_mk l c k).binds h⟩
theorem sqt_mk {K : W.Frag} {a : Addr} {od : Option Addr} {its : Array Value} {n : Nat} {sl : Array (Option Value)} {xs : List V} (l : K.lookup a = some ⟨.type "tuple",od,.seq its n,sl⟩) (hz : its.size ≤ sizeLine) (r : Vals xs its.toList) : ∀ H,SqT K H a xs :=
 fun _ => .inr ⟨_,its,n,l,rfl,rfl,hz,r⟩
theorem all_mk {l : W.OpenLaw} {w : World} {K : W.Frag} {h : Heap} {mg : Str → Option Value} {fa f bo nt nn be sides ways a_admit a_bookInit a_checkMany a_checkPrice a_checkShows a_checkSide a_checkWay a_entInit a_entriesOf a_find a_first a_isCalling a_numInit a_orderInit a_put a_putAnew a_record a_resting a_showA a_stand a_suits a_takeOut c_B c_E c_N c_O d_count d_may d_meetAll d_next d_other d_place e_asked e_cell e_deed e_keep e_mix e_price m_lessen m_meet n_call n_cancel n_change n_entryOf n_isCrossed n_last r_depth r_good r_shownL r_suitsL u_callPrice u_leftBy u_lessIn u_sumBy u_tradeAt u_uncross u_weigh u_weighPrices : Addr} {tg tm : Tok} (X : K.In h) (G : h.Ns mainGlobals mg) (hfa : mg "law" = some (.ref fa))
  (qaa : W.nsIn K mainGlobals "BadOrder" = some (some (.ref bo)))
  (qab : W.nsIn K mainGlobals "NotThere" = some (some (.ref nt)))
  (qac : W.nsIn K mainGlobals "NotNow" = some (some (.ref nn)))
  (qad : W.nsIn K mainGlobals "BookError" = some (some (.ref be)))
  (qae : W.nsIn K mainGlobals "SIDES" = some (some (.ref sides)))
  (qaf : W.nsIn K mainGlobals "WAYS" = some (some (.ref ways)))
  (qag : W.nsIn K mainGlobals "Order" = some (some (.ref c_O)))
  (qah : W.nsIn K mainGlobals "Numbering" = some (some (.ref c_N)))
  (qai : W.nsIn K mainGlobals "Entry" = some (some (.ref c_E)))
  (qaj : W.nsIn K mainGlobals "Book" = some (some (.ref c_B)))
  (qak : W.nsIn K mainGlobals "OTHER_SIDE" = some (some (.ref d_other)))
  (qal : W.nsIn K mainGlobals "check_side" = some (some (.ref a_checkSide)))
  (qam : W.nsIn K mainGlobals "check_way" = some (some (.ref a_checkWay)))
  (qan : W.nsIn K mainGlobals "check_price" = some (some (.ref a_checkPrice)))
  (qao : W.nsIn K mainGlobals "check_many" = some (some (.ref a_checkMany)))
  (qap : W.nsIn K mainGlobals "check_shows" = some (some (.ref a_checkShows)))
  (qaq : W.nsIn K mainGlobals "suits" = some (some (.ref a_suits)))
  (qar : W.nsIn K mainGlobals "find_rank" = some (some (.ref a_find)))
  (qas : W.nsIn K mainGlobals "place" = some (some (.ref d_place)))
  (qat : W.nsIn K mainGlobals "may_meet" = some (some (.ref d_may)))
  (qau : W.nsIn K mainGlobals "count_suiting" = some (some (.ref d_count)))
  (qav : W.nsIn K mainGlobals "meet_all" = some (some (.ref d_meetAll)))
  (qaw : W.nsIn K mainGlobals "next_to_meet" = some (some (.ref d_next)))
  (qax : W.nsIn K mainGlobals "meet" = some (some (.ref m_meet)))
  (qay : W.nsIn K mainGlobals "lessen" = some (some (.ref m_lessen)))
  (qaz : W.nsIn K mainGlobals "cancel" = some (some (.ref n_cancel)))
  (qba : W.nsIn K mainGlobals "change" = some (some (.ref n_change)))
  (qbb : W.nsIn K mainGlobals "call" = some (some (.ref n_call)))
  (qbc : W.nsIn K mainGlobals "lessen_in_place" = some (some (.ref u_lessIn)))
  (qbd : W.nsIn K mainGlobals "trade_at" = some (some (.ref u_tradeAt)))
  (qbe : W.nsIn K mainGlobals "uncross" = some (some (.ref u_uncross)))
  (qbf : W.nsIn K mainGlobals "call_price" = some (some (.ref u_callPrice)))
  (qbg : W.nsIn K mainGlobals "weigh_prices" = some (some (.ref u_weighPrices)))
  (qbh : W.nsIn K mainGlobals "left_by_price" = some (some (.ref u_leftBy)))
  (qbi : W.nsIn K mainGlobals "weigh" = some (some (.ref u_weigh)))
  (qbj : W.nsIn K mainGlobals "sum_by_price" = some (some (.ref u_sumBy)))
  (qbk : W.nsIn K mainGlobals "_law_cell" = some (some (.ref e_cell)))
  (qbl : W.nsIn K mainGlobals "_law_mix" = some (some (.ref e_mix)))
  (qbm : W.nsIn K mainGlobals "_law_price" = some (some (.ref e_price)))
  (qbn : W.nsIn K mainGlobals "_law_deed" = some (some (.ref e_deed)))
  (qbo : W.nsIn K mainGlobals "_law_asked" = some (some (.ref e_asked)))
  (qbp : W.nsIn K mainGlobals "_law_keep" = some (some (.ref e_keep)))
  (qbq : W.nsIn K mainGlobals "_law_shown" = some (some (.ref r_shownL)))
  (qbr : W.nsIn K mainGlobals "_law_suits" = some (some (.ref r_suitsL)))
  (qbs : W.nsIn K mainGlobals "_law_good" = some (some (.ref r_good)))
  (qbt : Mk K c_O a_orderInit)
  (qbu : Mk K c_N a_numInit)
  (qbv : Meth K c_N "admit" a_admit)
  (qbw : Mk K c_E a_entInit)
  (qbx : Meth K c_E "show_again" a_showA)
  (qby : Meth K c_E "stand_at" a_stand)
  (qbz : Mk K c_B a_bookInit)
  (qca : Meth K c_B "resting" a_resting)
  (qcb : Meth K c_B "is_calling" a_isCalling)
  (qcc : Meth K c_B "entries_of" a_entriesOf)
  (qcd : Meth K c_B "first" a_first)
  (qce : Meth K c_B "put" a_put)
  (qcf : Meth K c_B "take_out" a_takeOut)
  (qcg : Meth K c_B "put_anew" a_putAnew)
  (qch : Meth K c_B "record_trade" a_record)
  (qci : Meth K c_B "entry_of" n_entryOf)
  (qcj : Meth K c_B "is_crossed" n_isCrossed)
  (qck : Meth K c_B "last" n_last)
  (qcl : Meth K c_B "depth" r_depth)
  (qcm : Dn K "check_side" "check_side" zbH a_checkSide ["side"])
  (qcn : Dn K "check_way" "check_way" zb3 a_checkWay ["way"])
  (qco : Dn K "check_price" "check_price" zbu a_checkPrice ["price","way"])
  (qcp : Dn K "check_many" "check_many" zbI a_checkMany ["many"])
  (qcq : Dn K "check_shows" "check_shows" zbt a_checkShows ["shows","many","way"])
  (qcr : Dn K "suits" "suits" zgW a_suits ["price","order"])
  (qcs : Dn K "find_rank" "find_rank" sFind a_find ["entries","rank"])
  (qct : Dn K "place" "place" ziB d_place ["book","owner","side","price","many","shows","way"])
  (qcu : Dn K "may_meet" "may_meet" sMay d_may ["book","order"])
  (qcv : Dn K "count_suiting" "count_suiting" ziE d_count ["book","order"])
  (qcw : Dn K "meet_all" "meet_all" zeu d_meetAll ["book","coming"])
  (qcx : Dn K "next_to_meet" "next_to_meet" sNext d_next ["book","coming"])
  (qcy : Dn K "meet" "meet" sMeet m_meet ["book","coming","other"])
  (qcz : Dn K "lessen" "lessen" zgo m_lessen ["book","other","many"])
  (qda : Dn K "cancel" "cancel" zgt n_cancel ["book","number"])
  (qdb : Dn K "change" "change" zgs n_change ["book","number","many"])
  (qdc : Dn K "call" "call" sCall n_call ["book"])
  (qdd : Dn K "lessen_in_place" "lessen_in_place" zgp u_lessIn ["book","entry","many"])
  (qde : Dn K "trade_at" "trade_at" zeq u_tradeAt ["book","price","many"])
  (qdf : Dn K "uncross" "uncross" zep u_uncross ["book"])
  (qdg : Dn K "call_price" "call_price" zcY u_callPrice ["book"])
  (qdh : Dn K "weigh_prices" "weigh_prices" zb2 u_weighPrices ["book"])
  (qdi : Dn K "left_by_price" "left_by_price" zgq u_leftBy ["book","side"])
  (qdj : Dn K "weigh" "weigh" ziA u_weigh ["price","demand","supply","last_price"])
  (qdk : Dn K "sum_by_price" "sum_by_price" sSum u_sumBy ["pairs"])
  (qdl : Dn K "_law_cell" "_law_cell" zey e_cell ["_law_script","_law_k"])
  (qdm : Dn K "_law_mix" "_law_mix" zgr e_mix ["_law_script","_law_k"])
  (qdn : Dn K "_law_price" "_law_price" zdu e_price ["_law_script","_law_k"])
  (qdo : Dn K "_law_deed" "_law_deed" zex e_deed ["_law_script","_law_k"])
  (qdp : Dn K "_law_asked" "_law_asked" zdv e_asked ["_law_book","_law_deed_here"])
  (qdq : Dn K "_law_keep" "_law_keep" zev e_keep ["_law_record","_law_deed_here","_law_found"])
  (qdr : Dn K "_law_shown" "_law_shown" zdt r_shownL ["_law_book"])
  (qds : Dn K "_law_suits" "_law_suits" zds r_suitsL ["_law_side","_law_limit","_law_price_here"])
  (qdt : Dn K "_law_good" "_law_good" zew r_good ["_law_book","_law_record","_law_deed_here","_law_found","_law_before"])
  (qdu : Dn K "__init__" "Order.__init__" zcg a_orderInit ["self","owner","side","price","many","shows","way"])
  (qdv : Dn K "__init__" "Numbering.__init__" zdg a_numInit ["self"])
  (qdw : Dn K "admit" "Numbering.admit" zgY a_admit ["self","order"])
  (qdx : Dn K "__init__" "Entry.__init__" zdh a_entInit ["self","order"])
  (qdy : Dn K "show_again" "Entry.show_again" sShow a_showA ["self"])
  (qdz : Dn K "stand_at" "Entry.stand_at" zgX a_stand ["self","place"])
  (qea : Dn K "__init__" "Book.__init__" zdw a_bookInit ["self"])
  (qeb : Dn K "resting" "Book.resting" zes a_resting ["self","side"])
  (qec : Dn K "is_calling" "Book.is_calling" zcW a_isCalling ["self"])
  (qed : Dn K "entries_of" "Book.entries_of" zcX a_entriesOf ["self","side"])
  (qee : Dn K "first" "Book.first" ziC a_first ["self","side"])
  (qef : Dn K "put" "Book.put" sPut a_put ["self","entry"])
  (qeg : Dn K "take_out" "Book.take_out" zer a_takeOut ["self","entry"])
  (qeh : Dn K "put_anew" "Book.put_anew" zet a_putAnew ["self","entry"])
  (qei : Dn K "record_trade" "Book.record_trade" zgn a_record ["self","price","many"])
  (qej : Dn K "entry_of" "Book.entry_of" zez n_entryOf ["self","number"])
  (qek : Dn K "is_crossed" "Book.is_crossed" zd9 n_isCrossed ["self"])
  (qel : Dn K "last" "Book.last" sLast n_last ["self"])
  (qem : Dn K "depth" "Book.depth" ziD r_depth ["self","side"])
  (qen : W.nsIn K mainGlobals "law" = some (some (.ref f)))
  (qeo : Dn K "law" "law" sLaw f ["_law_script"])
  (qep : W.nsIn K mainGlobals "GREATEST_PRICE" = some (some (.int 1000000000 tg)))
  (qeq : W.nsIn K mainGlobals "MOST_WANTED" = some (some (.int 10000 tm)))
  (qer : ∀ H,SqT K H sides [.str "buy",.str "sell"])
  (qes : ∀ H,SqT K H ways [.str "rest",.str "now",.str "whole"])
  (qet : XCl K bo)
  (qeu : XCl K nt)
  (qev : XCl K nn)
  (qew : XCl K be)
  (qex : Cls K c_O)
  (qey : Cls K c_N)
  (qez : Cls K c_E)
  (qfa : Cls K c_B)
  (qfb : zay K c_O "owner")
  (qfc : zay K c_O "side")
  (qfd : zay K c_O "price")
  (qfe : zay K c_O "many")
  (qff : zay K c_O "shows")
  (qfg : zay K c_O "way")
  (qfh : zay K c_O "number")
  (qfi : zay K c_N "came")
  (qfj : zay K c_E "order")
  (qfk : zay K c_E "remaining")
  (qfl : zay K c_E "showing")
  (qfm : zay K c_E "rank")
  (qfn : zay K c_B "numbering")
  (qfo : zay K c_B "sides")
  (qfp : zay K c_B "entries")
  (qfq : zay K c_B "places")
  (qfr : zay K c_B "calling")
  (qfs : zay K c_B "last_price")
  (qft : zay K c_B "traded")
  (qfu : W.nsIn K mainGlobals "min" = some none)
  (qfv : W.nsIn K mainGlobals "len" = some none)
  (qfw : W.nsIn K mainGlobals "list" = some none)
  (qfx : W.nsIn K mainGlobals "isinstance" = some none)
  (qfy : W.nsIn K mainGlobals "ValueError" = some none)
  (qfz : W.nsIn K mainGlobals "bool" = some none)
  (qga : W.nsIn K mainGlobals "str" = some none)
  (qgb : W.nsIn K mainGlobals "tuple" = some none)
  (qgc : W.nsIn K mainGlobals "range" = some none)
  (qgd : W.nsIn K mainGlobals "abs" = some none)
  (qge : W.nsIn K mainGlobals "sum" = some none)
  (qgf : W.nsIn K mainGlobals "set" = some none)
  (qgg : W.nsIn K mainGlobals "sorted" = some none)
  (qgh : W.nsIn K mainGlobals "int" = some none)
  (qgi : W.nsIn K mainGlobals "all" = some none)
  (qgj : W.nsIn K mainGlobals "any" = some none)
  (qgk : PyProof.Rows.KTD.tabLook (PyProof.Rows.KTD.datLooks fun b => K.lookup b) (fun b => K.lookup b) d_other zha = true)
  (qgl : W.findIn K (.ref bo) "__getattribute__" = some (some (.builtin "BaseException.__getattribute__")))
  (qgm : W.findIn K (.ref bo) "__getattr__" = some none)
  (qgn : W.findIn K (.ref bo) "__class__" = some (some (.builtin "object.__class__")))
  (qgo : W.mroIn K bo (.type "BaseException") = some true)
  (qgp : W.mroIn K bo (.type "object") = some true)
  (qgq : W.mroIn K bo (.ref be) = some true)
  (qgr : W.kitOne K (.ref bo) (.type "ValueError") = some true)
  (qgs : W.kitOne K (.ref bo) (.ref bo) = some true)
  (qgt : W.kitOne K (.ref bo) (.ref nt) = some false)
  (qgu : W.kitOne K (.ref bo) (.ref nn) = some false)
  (qgv : W.findIn K (.ref nt) "__getattribute__" = some (some (.builtin "BaseException.__getattribute__")))
  (qgw : W.findIn K (.ref nt) "__getattr__" = some none)
  (qgx : W.findIn K (.ref nt) "__class__" = some (some (.builtin "object.__class__")))
  (qgy : W.mroIn K nt (.type "BaseException") = some true)
  (qgz : W.mroIn K nt (.type "object") = some true)
  (qha : W.mroIn K nt (.ref be) = some true)
  (qhb : W.kitOne K (.ref nt) (.type "ValueError") = some true)
  (qhc : W.kitOne K (.ref nt) (.ref bo) = some false)
  (qhd : W.kitOne K (.ref nt) (.ref nt) = some true)
  (qhe : W.kitOne K (.ref nt) (.ref nn) = some false)
  (qhf : W.findIn K (.ref nn) "__getattribute__" = some (some (.builtin "BaseException.__getattribute__")))
  (qhg : W.findIn K (.ref nn) "__getattr__" = some none)
  (qhh : W.findIn K (.ref nn) "__class__" = some (some (.builtin "object.__class__")))
  (qhi : W.mroIn K nn (.type "BaseException") = some true)
  (qhj : W.mroIn K nn (.type "object") = some true)
  (qhk : W.mroIn K nn (.ref be) = some true)
  (qhl : W.kitOne K (.ref nn) (.type "ValueError") = some true)
  (qhm : W.kitOne K (.ref nn) (.ref bo) = some false)
  (qhn : W.kitOne K (.ref nn) (.ref nt) = some false)
  (qho : W.kitOne K (.ref nn) (.ref nn) = some true)
  (qhp : W.kitOne K (.type "tuple") (.type "tuple") = some true)
  (qhq : W.kitOne K (.type "str") (.type "tuple") = some false)
  (qhr : W.kitOne K (.type "int") (.type "str") = some false)
  (qhs : W.kitOne K (.type "str") (.type "str") = some true)
  (qht : W.kitOne K (.type "bool") (.type "bool") = some true)
  : ∃ fd : FuncData,(∀ (s : Shared) (v : Value),BindsTo s fd ⟨[v],[]⟩ [("_law_script",v)]) ∧ ∀ base : Heap,K.In base → base.Ns mainGlobals mg → FnOk l.prog w K mg base (CXF l.prog w) 9 fa fd ["_law_script"] (spLaw K):=by
 have e0:=hfa.symm.trans (W.mg_of X G qen)
 cases e0
 have T : XTxt K mg bo nt nn be:=⟨(W.mg_of X G qaa),(W.mg_of X G qab),(W.mg_of X G qac),(W.mg_of X G qad),qet,qeu,qev,qew⟩
 have O : OTxt K mg sides ways:=⟨(W.mg_of X G qae),(W.mg_of X G qaf),qer,qes,⟨tg,(W.mg_of X G qep)⟩,⟨tm,(W.mg_of X G qeq)⟩⟩
 have C : CTxt K mg ⟨c_O,c_N,c_E,c_B⟩:=⟨qex,qey,qez,qfa,(W.mg_of X G qag),(W.mg_of X G qah),(W.mg_of X G qai),(W.mg_of X G qaj),qfb,qfc,qfd,qfe,qff,qfg,qfh,qfi,qfj,qfk,qfl,qfm,qfn,qfo,qfp,qfq,qfr,qfs,qft,(W.mg_none_of X G qfu),(W.mg_none_of X G qfv),(W.mg_none_of X G qfw)⟩
 have F : FTxt K mg ⟨a_checkSide,a_checkWay,a_checkPrice,a_checkMany,a_checkShows,a_orderInit,a_suits,a_numInit,a_admit,a_entInit,a_showA,a_stand,a_find,a_bookInit,a_resting,a_isCalling,a_entriesOf,a_first,a_put,a_takeOut,a_putAnew,a_record⟩ ⟨c_O,c_N,c_E,c_B⟩:={ checkSide:=qcm,gCheckSide:=(W.mg_of X G qal),checkWay:=qcn,gCheckWay:=(W.mg_of X G qam),checkPrice:=qco,gCheckPrice:=(W.mg_of X G qan),checkMany:=qcp,gCheckMany:=(W.mg_of X G qao),checkShows:=qcq,gCheckShows:=(W.mg_of X G qap),suits:=qcr,gSuits:=(W.mg_of X G qaq),find:=qcs,gFind:=(W.mg_of X G qar),orderInit:=qdu,mkOrder:=qbt,numInit:=qdv,mkNum:=qbu,admit:=qdw,mAdmit:=qbv,entInit:=qdx,mkEnt:=qbw,showA:=qdy,mShow:=qbx,stand:=qdz,mStand:=qby,bookInit:=qea,mkBook:=qbz,resting:=qeb,mResting:=qca,isCalling:=qec,mIsCalling:=qcb,entriesOf:=qed,mEntriesOf:=qcc,first:=qee,mFirst:=qcd,put:=qef,mPut:=qce,takeOut:=qeg,mTakeOut:=qcf,putAnew:=qeh,mPutAnew:=qcg,record:=qei,mRecord:=qch }
 have D : PTxt K mg ⟨d_place,d_may,d_count,d_meetAll,d_next,d_other⟩:={ place:=qct,gPlace:=(W.mg_of X G qas),may:=qcu,gMay:=(W.mg_of X G qat),count:=qcv,gCount:=(W.mg_of X G qau),meetAll:=qcw,gMeetAll:=(W.mg_of X G qav),next:=qcx,gNext:=(W.mg_of X G qaw),gOther:=(W.mg_of X G qak),other:=qgk }
 have M : MTxt K mg ⟨m_meet,m_lessen⟩:={ meet:=qcy,gMeet:=(W.mg_of X G qax),lessen:=qcz,gLessen:=(W.mg_of X G qay) }
 have N : NTxt K mg ⟨c_O,c_N,c_E,c_B⟩ ⟨n_entryOf,n_isCrossed,n_last,n_cancel,n_change,n_call⟩:={ entryOf:=qej,mEntryOf:=qci,isCrossed:=qek,mIsCrossed:=qcj,last:=qel,mLast:=qck,cancel:=qda,gCancel:=(W.mg_of X G qaz),change:=qdb,gChange:=(W.mg_of X G qba),call:=qdc,gCall:=(W.mg_of X G qbb) }
 have U : UTxt K mg ⟨u_lessIn,u_tradeAt,u_uncross,u_callPrice,u_weighPrices,u_leftBy,u_weigh,u_sumBy⟩:={ lessIn:=qdd,gLessIn:=(W.mg_of X G qbc),tradeAt:=qde,gTradeAt:=(W.mg_of X G qbd),uncross:=qdf,gUncross:=(W.mg_of X G qbe),callPrice:=qdg,gCallPrice:=(W.mg_of X G qbf),weighPrices:=qdh,gWeighPrices:=(W.mg_of X G qbg),leftBy:=qdi,gLeftBy:=(W.mg_of X G qbh),weigh:=qdj,gWeigh:=(W.mg_of X G qbi),sumBy:=qdk,gSumBy:=(W.mg_of X G qbj) }
 have Z : ZTxt mg:=⟨(W.mg_none_of X G qgd),(W.mg_none_of X G qge),(W.mg_none_of X G qgf),(W.mg_none_of X G qgg)⟩
 have Y : YTxt mg:=⟨(W.mg_none_of X G qgh),(W.mg_none_of X G qgi),(W.mg_none_of X G qgj)⟩
 have Lt : ETxt K mg bo nt nn be ⟨e_cell,e_mix,e_price,e_deed,e_asked,e_keep⟩:={ cell:=qdl,gCell:=(W.mg_of X G qbk),mix:=qdm,gMix:=(W.mg_of X G qbl),price:=qdn,gPrice:=(W.mg_of X G qbm),deed:=qdo,gDeed:=(W.mg_of X G qbn),asked:=qdp,gAsked:=(W.mg_of X G qbo),keep:=qdq,gKeep:=(W.mg_of X G qbp),xlB:=⟨qgl,qgm,qgn,qgo,qgp⟩,xlT:=⟨qgv,qgw,qgx,qgy,qgz⟩,xlN:=⟨qhf,qhg,qhh,qhi,qhj⟩,mB:=qgq,mT:=qha,mN:=qhk,vB:=qgr,vT:=qhb,vN:=qhl,iBB:=qgs,iBT:=qgt,iBN:=qgu,iTB:=qhc,iTT:=qhd,iTN:=qhe,iNB:=qhm,iNT:=qhn,iNN:=qho,tTT:=qhp,tST:=qhq,tIS:=qhr,tSS:=qhs,tBB:=qht,gi:=(W.mg_none_of X G qfx),gv:=(W.mg_none_of X G qfy),gbool:=(W.mg_none_of X G qfz),gstr:=(W.mg_none_of X G qga),gtuple:=(W.mg_none_of X G qgb),grange:=(W.mg_none_of X G qgc) }
 have Rt : DeTxt K mg ⟨c_O,c_N,c_E,c_B⟩ ⟨r_depth,r_shownL,r_suitsL,r_good⟩:={ depth:=qem,mDepth:=qcl,shown:=qdr,gShown:=(W.mg_of X G qbq),suits:=qds,gSuits:=(W.mg_of X G qbr),good:=qdt,gGood:=(W.mg_of X G qbs) }
 obtain ⟨fd,hfun,hbd⟩:=id qeo
 obtain ⟨oc,od,kV,doc,pm,an,cdv,ct,osl,rfl,lk,hcd⟩:=hfun.ex
 exact ⟨_,fun s v => .of_eq rfl,fun base _ _ => kLaw T O C F D M N U Z Y Lt Rt hfun⟩
theorem walk {l : W.OpenLaw} {q : Program} {loose : List Str} {XP : (Str → Option Value) → Heap → Prop} {YP : World → Heap → Prop} {d : DefRec} {K : Params → W.Frag} (hn : l.most = some 63) (hdf : d.params.defaults = [])
  (hY : ∀ (w : World) (h : Heap),YP w h → (K w.params).In h)
  (F : ∀ (w : World) (mg : Str → Option Value) (fa : Addr) (h : Heap),(K w.params).In h → h.Ns mainGlobals mg → mg d.name = some (.ref fa) →
   ∃ fd : FuncData,(∀ (s : Shared) (u : Value),BindsTo s fd ⟨[u],[]⟩ [("_law_script",u)]) ∧ ∀ base : Heap,(K w.params).In base → base.Ns mainGlobals mg → FnOk l.prog w (K w.params) mg base (CXF l.prog w) 9 fa fd ["_law_script"] (spLaw (K w.params))) :
  W.WalkO q loose XP YP l.row.toRowW d [] (fun f vs => PySem.call f vs) :=
 L2.walk_of (n:=63) (k:=9) (x:="_law_script") (CX:=fun w => CXF l.prog w) (sp:=fun w => spLaw (K w.params)) hn (by decide) hdf ⟨rfl,by decide,by decide⟩ hY F (fun _ _ a ns hl _ hS => ⟨a,ns,rfl,hS,hl,fun _ => rfl⟩) fun _ _ _ _ _ z => z.elim fun _ z => by
  obtain ⟨_,_,_,_,_,_,_,_,_,_,_,q⟩:=z
  exact q
end Fb
open PySem PySem.W PyProof.Rows
def PySem.W.Fast.tw10233208654532395942 : Unit := ()
def PySem.W.Fast.tw8225627174183210754 : Unit := ()
def PySem.W.Fast.tw5436723919624771053 : Unit := ()
def PySem.W.Fast.tw14671889351114655267 : Unit := ()
def PySem.W.Fast.tw13754259219441045949 : Unit := ()
def PySem.W.Fast.tw6011118473883172082 : Unit := ()
def PySem.W.Fast.tw14561965895230808999 : Unit := ()
def PySem.W.Fast.tw8201861515957526134 : Unit := ()
def PySem.W.Fast.tw16973823917787194653 : Unit := ()
def PySem.W.Fast.tw10171897166372517368 : Unit := ()
def PySem.W.Fast.tw11253838433027449420 : Unit := ()
def PySem.W.Fast.tw17213199955657061214 : Unit := ()
def PySem.W.Fast.tw3799508677126393495 : Unit := ()
def PySem.W.Fast.tw11292394174113169142 : Unit := ()
def PySem.W.Fast.tw940961469781263454 : Unit := ()
def PySem.W.Fast.tw1638596250394973248 : Unit := ()
def PySem.W.Fast.tw15362218374828992502 : Unit := ()
def PySem.W.Fast.tw9783384096396656983 : Unit := ()
def PySem.W.Fast.tw4022963469361635638 : Unit := ()
def PySem.W.Fast.tw14273422189157249896 : Unit := ()
def PySem.W.Fast.tw10601731387752301960 : Unit := ()
def PySem.W.Fast.tw3480899953273126979 : Unit := ()
def PySem.W.Fast.tw539756994046201453 : Unit := ()
def PySem.W.Fast.tw9596059071174261968 : Unit := ()
def PySem.W.Fast.tw6606432965933235319 : Unit := ()
def PySem.W.Fast.tw8283553466612651838 : Unit := ()
def PySem.W.Fast.tw16800052543701049591 : Unit := ()
def PySem.W.Fast.tw17028889442958545170 : Unit := ()
def PySem.W.Fast.tw2911793837502603572 : Unit := ()
def PySem.W.Fast.tw12946262277287726818 : Unit := ()
def PySem.W.Fast.tw12213921438580612936 : Unit := ()
def PySem.W.Fast.tw9844484531353491741 : Unit := ()
def PySem.W.Fast.tw12136513501799196927 : Unit := ()
def PySem.W.Fast.tw4614797468341670304 : Unit := ()
def PySem.W.Fast.tw15139544650595655496 : Unit := ()
def PySem.W.Fast.tw16148893202035706646 : Unit := ()
def PySem.W.Fast.tw4407244434548602149 : Unit := ()
def PySem.W.Fast.tw3501674203555073594 : Unit := ()
def PySem.W.Fast.tw6363683953366960496 : Unit := ()
def PySem.W.Fast.tw11444677595433131259 : Unit := ()
def PySem.W.Fast.tw12793764416261489466 : Unit := ()
def PySem.W.Fast.tw5893335210108160171 : Unit := ()
def PySem.W.Fast.tw15146292938937074618 : Unit := ()
def PySem.W.Fast.tw6684715968065474410 : Unit := ()
def PySem.W.Fast.tw1881038716088711953 : Unit := ()
def PySem.W.Fast.tw7818066026930814195 : Unit := ()
def PySem.W.Fast.tw13241816157132518065 : Unit := ()
def PySem.W.Fast.tw1372581329291187780 : Unit := ()
def PySem.W.Fast.tw1435437604834028007 : Unit := ()
def PySem.W.Fast.tw602548816982775610 : Unit := ()
def PySem.W.Fast.tw10545122738228407433 : Unit := ()
def PySem.W.Fast.tw9146730044921287156 : Unit := ()
def PySem.W.Fast.tw7115327613270484386 : Unit := ()
def PySem.W.Fast.tw3699786340515568750 : Unit := ()
def PySem.W.Fast.tw8335748134224839432 : Unit := ()
def PySem.W.Fast.tw6232926229861598728 : Unit := ()
def PySem.W.Fast.tw7878660347059097986 : Unit := ()
def PySem.W.Fast.tw12743601746223321328 : Unit := ()
def PySem.W.Fast.tw13131899557912157810 : Unit := ()
def PySem.W.Fast.tw16404118306546032796 : Unit := ()
def PySem.W.Fast.tw222215118290860982 : Unit := ()
def PySem.W.Fast.tw1342406797151186378 : Unit := ()
def PySem.W.Fast.tw4791322731444783736 : Unit := ()
set_option maxRecDepth 100000 in
set_option maxHeartbeats 0 in
theorem PySem.Challenge.cw_fairbook_k22_whole_best_first_holds : PySem.Challenge.rw_fairbook_k22_whole_best_first.Holds := by
 w_on; o_law; k_head; (case hw => w_witness2)
 k_fill
 refine Fb.walk (l := PySem.Challenge.rw_fairbook_k22_whole_best_first) rfl rfl (fun w h Y => PySem.W.kIn_of Y) ?F
 case F =>
  intro w mg fa h KX G hmg
  refine' Fb.all_mk KX G hmg ?qaa ?qab ?qac ?qad ?qae ?qaf ?qag ?qah ?qai ?qaj ?qak ?qal ?qam ?qan ?qao ?qap ?qaq ?qar ?qas ?qat ?qau ?qav ?qaw ?qax ?qay ?qaz ?qba ?qbb ?qbc ?qbd ?qbe ?qbf ?qbg ?qbh ?qbi ?qbj ?qbk ?qbl ?qbm ?qbn ?qbo ?qbp ?qbq ?qbr ?qbs ?qbt ?qbu ?qbv ?qbw ?qbx ?qby ?qbz ?qca ?qcb ?qcc ?qcd ?qce ?qcf ?qcg ?qch ?qci ?qcj ?qck ?qcl ?qcm ?qcn ?qco ?qcp ?qcq ?qcr ?qcs ?qct ?qcu ?qcv ?qcw ?qcx ?qcy ?qcz ?qda ?qdb ?qdc ?qdd ?qde ?qdf ?qdg ?qdh ?qdi ?qdj ?qdk ?qdl ?qdm ?qdn ?qdo ?qdp ?qdq ?qdr ?qds ?qdt ?qdu ?qdv ?qdw ?qdx ?qdy ?qdz ?qea ?qeb ?qec ?qed ?qee ?qef ?qeg ?qeh ?qei ?qej ?qek ?qel ?qem ?qen ?qeo ?qep ?qeq ?qer ?qes ?qet ?qeu ?qev ?qew ?qex ?qey ?qez ?qfa ?qfb ?qfc ?qfd ?qfe ?qff ?qfg ?qfh ?qfi ?qfj ?qfk ?qfl ?qfm ?qfn ?qfo ?qfp ?qfq ?qfr ?qfs ?qft ?qfu ?qfv ?qfw ?qfx ?qfy ?qfz ?qga ?qgb ?qgc ?qgd ?qge ?qgf ?qgg ?qgh ?qgi ?qgj ?qgk ?qgl ?qgm ?qgn ?qgo ?qgp ?qgq ?qgr ?qgs ?qgt ?qgu ?qgv ?qgw ?qgx ?qgy ?qgz ?qha ?qhb ?qhc ?qhd ?qhe ?qhf ?qhg ?qhh ?qhi ?qhj ?qhk ?qhl ?qhm ?qhn ?qho ?qhp ?qhq ?qhr ?qhs ?qht
  (case qaa => k_is)
  (case qab => k_is)
  (case qac => k_is)
  (case qad => k_is)
  (case qae => k_is)
  (case qaf => k_is)
  (case qag => k_is)
  (case qah => k_is)
  (case qai => k_is)
  (case qaj => k_is)
  (case qak => k_is)
  (case qal => k_is)
  (case qam => k_is)
  (case qan => k_is)
  (case qao => k_is)
  (case qap => k_is)
  (case qaq => k_is)
  (case qar => k_is)
  (case qas => k_is)
  (case qat => k_is)
  (case qau => k_is)
  (case qav => k_is)
  (case qaw => k_is)
  (case qax => k_is)
  (case qay => k_is)
  (case qaz => k_is)
  (case qba => k_is)
  (case qbb => k_is)
  (case qbc => k_is)
  (case qbd => k_is)
  (case qbe => k_is)
  (case qbf => k_is)
  (case qbg => k_is)
  (case qbh => k_is)
  (case qbi => k_is)
  (case qbj => k_is)
  (case qbk => k_is)
  (case qbl => k_is)
  (case qbm => k_is)
  (case qbn => k_is)
  (case qbo => k_is)
  (case qbp => k_is)
  (case qbq => k_is)
  (case qbr => k_is)
  (case qbs => k_is)
  (case qbt => (refine' L2.Mk.mk ?a ?b ?c ?d; (case b => k_is); (case a => k_is); (case c => k_is); (case d => k_is)))
  (case qbu => (refine' L2.Mk.mk ?a ?b ?c ?d; (case b => k_is); (case a => k_is); (case c => k_is); (case d => k_is)))
  (case qbv => (refine' L2.Meth.mk ?a ?b ?c; (case a => k_is); (case b => k_is); (case c => k_is)))
  (case qbw => (refine' L2.Mk.mk ?a ?b ?c ?d; (case b => k_is); (case a => k_is); (case c => k_is); (case d => k_is)))
  (case qbx => (refine' L2.Meth.mk ?a ?b ?c; (case a => k_is); (case b => k_is); (case c => k_is)))
  (case qby => (refine' L2.Meth.mk ?a ?b ?c; (case a => k_is); (case b => k_is); (case c => k_is)))
  (case qbz => (refine' L2.Mk.mk ?a ?b ?c ?d; (case b => k_is); (case a => k_is); (case c => k_is); (case d => k_is)))
  (case qca => (refine' L2.Meth.mk ?a ?b ?c; (case a => k_is); (case b => k_is); (case c => k_is)))
  (case qcb => (refine' L2.Meth.mk ?a ?b ?c; (case a => k_is); (case b => k_is); (case c => k_is)))
  (case qcc => (refine' L2.Meth.mk ?a ?b ?c; (case a => k_is); (case b => k_is); (case c => k_is)))
  (case qcd => (refine' L2.Meth.mk ?a ?b ?c; (case a => k_is); (case b => k_is); (case c => k_is)))
  (case qce => (refine' L2.Meth.mk ?a ?b ?c; (case a => k_is); (case b => k_is); (case c => k_is)))
  (case qcf => (refine' L2.Meth.mk ?a ?b ?c; (case a => k_is); (case b => k_is); (case c => k_is)))
  (case qcg => (refine' L2.Meth.mk ?a ?b ?c; (case a => k_is); (case b => k_is); (case c => k_is)))
  (case qch => (refine' L2.Meth.mk ?a ?b ?c; (case a => k_is); (case b => k_is); (case c => k_is)))
  (case qci => (refine' L2.Meth.mk ?a ?b ?c; (case a => k_is); (case b => k_is); (case c => k_is)))
  (case qcj => (refine' L2.Meth.mk ?a ?b ?c; (case a => k_is); (case b => k_is); (case c => k_is)))
  (case qck => (refine' L2.Meth.mk ?a ?b ?c; (case a => k_is); (case b => k_is); (case c => k_is)))
  (case qcl => (refine' L2.Meth.mk ?a ?b ?c; (case a => k_is); (case b => k_is); (case c => k_is)))
  (case qcm => (refine' Fb.dn_mk ?l ?c ?k ?b; (case l => k_is); (case c => k_is); (case k => k_is); (case b => exact fun _ _ _ _ _ _ us hl => match us, hl with | [_], _ => rfl)))
  (case qcn => (refine' Fb.dn_mk ?l ?c ?k ?b; (case l => k_is); (case c => k_is); (case k => k_is); (case b => exact fun _ _ _ _ _ _ us hl => match us, hl with | [_], _ => rfl)))
  (case qco => (refine' Fb.dn_mk ?l ?c ?k ?b; (case l => k_is); (case c => k_is); (case k => k_is); (case b => exact fun _ _ _ _ _ _ us hl => match us, hl with | [_, _], _ => rfl)))
  (case qcp => (refine' Fb.dn_mk ?l ?c ?k ?b; (case l => k_is); (case c => k_is); (case k => k_is); (case b => exact fun _ _ _ _ _ _ us hl => match us, hl with | [_], _ => rfl)))
  (case qcq => (refine' Fb.dn_mk ?l ?c ?k ?b; (case l => k_is); (case c => k_is); (case k => k_is); (case b => exact fun _ _ _ _ _ _ us hl => match us, hl with | [_, _, _], _ => rfl)))
  (case qcr => (refine' Fb.dn_mk ?l ?c ?k ?b; (case l => k_is); (case c => k_is); (case k => k_is); (case b => exact fun _ _ _ _ _ _ us hl => match us, hl with | [_, _], _ => rfl)))
  (case qcs => (refine' Fb.dn_mk ?l ?c ?k ?b; (case l => k_is); (case c => k_is); (case k => k_is); (case b => exact fun _ _ _ _ _ _ us hl => match us, hl with | [_, _], _ => rfl)))
  (case qct => (refine' Fb.dn_mk ?l ?c ?k ?b; (case l => k_is); (case c => k_is); (case k => k_is); (case b => exact fun _ _ _ _ _ _ us hl => match us, hl with | [_, _, _, _, _, _, _], _ => rfl)))
  (case qcu => (refine' Fb.dn_mk ?l ?c ?k ?b; (case l => k_is); (case c => k_is); (case k => k_is); (case b => exact fun _ _ _ _ _ _ us hl => match us, hl with | [_, _], _ => rfl)))
  (case qcv => (refine' Fb.dn_mk ?l ?c ?k ?b; (case l => k_is); (case c => k_is); (case k => k_is); (case b => exact fun _ _ _ _ _ _ us hl => match us, hl with | [_, _], _ => rfl)))
  (case qcw => (refine' Fb.dn_mk ?l ?c ?k ?b; (case l => k_is); (case c => k_is); (case k => k_is); (case b => exact fun _ _ _ _ _ _ us hl => match us, hl with | [_, _], _ => rfl)))
  (case qcx => (refine' Fb.dn_mk ?l ?c ?k ?b; (case l => k_is); (case c => k_is); (case k => k_is); (case b => exact fun _ _ _ _ _ _ us hl => match us, hl with | [_, _], _ => rfl)))
  (case qcy => (refine' Fb.dn_mk ?l ?c ?k ?b; (case l => k_is); (case c => k_is); (case k => k_is); (case b => exact fun _ _ _ _ _ _ us hl => match us, hl with | [_, _, _], _ => rfl)))
  (case qcz => (refine' Fb.dn_mk ?l ?c ?k ?b; (case l => k_is); (case c => k_is); (case k => k_is); (case b => exact fun _ _ _ _ _ _ us hl => match us, hl with | [_, _, _], _ => rfl)))
  (case qda => (refine' Fb.dn_mk ?l ?c ?k ?b; (case l => k_is); (case c => k_is); (case k => k_is); (case b => exact fun _ _ _ _ _ _ us hl => match us, hl with | [_, _], _ => rfl)))
  (case qdb => (refine' Fb.dn_mk ?l ?c ?k ?b; (case l => k_is); (case c => k_is); (case k => k_is); (case b => exact fun _ _ _ _ _ _ us hl => match us, hl with | [_, _, _], _ => rfl)))
  (case qdc => (refine' Fb.dn_mk ?l ?c ?k ?b; (case l => k_is); (case c => k_is); (case k => k_is); (case b => exact fun _ _ _ _ _ _ us hl => match us, hl with | [_], _ => rfl)))
  (case qdd => (refine' Fb.dn_mk ?l ?c ?k ?b; (case l => k_is); (case c => k_is); (case k => k_is); (case b => exact fun _ _ _ _ _ _ us hl => match us, hl with | [_, _, _], _ => rfl)))
  (case qde => (refine' Fb.dn_mk ?l ?c ?k ?b; (case l => k_is); (case c => k_is); (case k => k_is); (case b => exact fun _ _ _ _ _ _ us hl => match us, hl with | [_, _, _], _ => rfl)))
  (case qdf => (refine' Fb.dn_mk ?l ?c ?k ?b; (case l => k_is); (case c => k_is); (case k => k_is); (case b => exact fun _ _ _ _ _ _ us hl => match us, hl with | [_], _ => rfl)))
  (case qdg => (refine' Fb.dn_mk ?l ?c ?k ?b; (case l => k_is); (case c => k_is); (case k => k_is); (case b => exact fun _ _ _ _ _ _ us hl => match us, hl with | [_], _ => rfl)))
  (case qdh => (refine' Fb.dn_mk ?l ?c ?k ?b; (case l => k_is); (case c => k_is); (case k => k_is); (case b => exact fun _ _ _ _ _ _ us hl => match us, hl with | [_], _ => rfl)))
  (case qdi => (refine' Fb.dn_mk ?l ?c ?k ?b; (case l => k_is); (case c => k_is); (case k => k_is); (case b => exact fun _ _ _ _ _ _ us hl => match us, hl with | [_, _], _ => rfl)))
  (case qdj => (refine' Fb.dn_mk ?l ?c ?k ?b; (case l => k_is); (case c => k_is); (case k => k_is); (case b => exact fun _ _ _ _ _ _ us hl => match us, hl with | [_, _, _, _], _ => rfl)))
  (case qdk => (refine' Fb.dn_mk ?l ?c ?k ?b; (case l => k_is); (case c => k_is); (case k => k_is); (case b => exact fun _ _ _ _ _ _ us hl => match us, hl with | [_], _ => rfl)))
  (case qdl => (refine' Fb.dn_mk ?l ?c ?k ?b; (case l => k_is); (case c => k_is); (case k => k_is); (case b => exact fun _ _ _ _ _ _ us hl => match us, hl with | [_, _], _ => rfl)))
  (case qdm => (refine' Fb.dn_mk ?l ?c ?k ?b; (case l => k_is); (case c => k_is); (case k => k_is); (case b => exact fun _ _ _ _ _ _ us hl => match us, hl with | [_, _], _ => rfl)))
  (case qdn => (refine' Fb.dn_mk ?l ?c ?k ?b; (case l => k_is); (case c => k_is); (case k => k_is); (case b => exact fun _ _ _ _ _ _ us hl => match us, hl with | [_, _], _ => rfl)))
  (case qdo => (refine' Fb.dn_mk ?l ?c ?k ?b; (case l => k_is); (case c => k_is); (case k => k_is); (case b => exact fun _ _ _ _ _ _ us hl => match us, hl with | [_, _], _ => rfl)))
  (case qdp => (refine' Fb.dn_mk ?l ?c ?k ?b; (case l => k_is); (case c => k_is); (case k => k_is); (case b => exact fun _ _ _ _ _ _ us hl => match us, hl with | [_, _], _ => rfl)))
  (case qdq => (refine' Fb.dn_mk ?l ?c ?k ?b; (case l => k_is); (case c => k_is); (case k => k_is); (case b => exact fun _ _ _ _ _ _ us hl => match us, hl with | [_, _, _], _ => rfl)))
  (case qdr => (refine' Fb.dn_mk ?l ?c ?k ?b; (case l => k_is); (case c => k_is); (case k => k_is); (case b => exact fun _ _ _ _ _ _ us hl => match us, hl with | [_], _ => rfl)))
  (case qds => (refine' Fb.dn_mk ?l ?c ?k ?b; (case l => k_is); (case c => k_is); (case k => k_is); (case b => exact fun _ _ _ _ _ _ us hl => match us, hl with | [_, _, _], _ => rfl)))
  (case qdt => (refine' Fb.dn_mk ?l ?c ?k ?b; (case l => k_is); (case c => k_is); (case k => k_is); (case b => exact fun _ _ _ _ _ _ us hl => match us, hl with | [_, _, _, _, _], _ => rfl)))
  (case qdu => (refine' Fb.dn_mk ?l ?c ?k ?b; (case l => k_is); (case c => k_is); (case k => k_is); (case b => exact fun _ _ _ _ _ _ us hl => match us, hl with | [_, _, _, _, _, _, _], _ => rfl)))
  (case qdv => (refine' Fb.dn_mk ?l ?c ?k ?b; (case l => k_is); (case c => k_is); (case k => k_is); (case b => exact fun _ _ _ _ _ _ us hl => match us, hl with | [_], _ => rfl)))
  (case qdw => (refine' Fb.dn_mk ?l ?c ?k ?b; (case l => k_is); (case c => k_is); (case k => k_is); (case b => exact fun _ _ _ _ _ _ us hl => match us, hl with | [_, _], _ => rfl)))
  (case qdx => (refine' Fb.dn_mk ?l ?c ?k ?b; (case l => k_is); (case c => k_is); (case k => k_is); (case b => exact fun _ _ _ _ _ _ us hl => match us, hl with | [_, _], _ => rfl)))
  (case qdy => (refine' Fb.dn_mk ?l ?c ?k ?b; (case l => k_is); (case c => k_is); (case k => k_is); (case b => exact fun _ _ _ _ _ _ us hl => match us, hl with | [_], _ => rfl)))
  (case qdz => (refine' Fb.dn_mk ?l ?c ?k ?b; (case l => k_is); (case c => k_is); (case k => k_is); (case b => exact fun _ _ _ _ _ _ us hl => match us, hl with | [_, _], _ => rfl)))
  (case qea => (refine' Fb.dn_mk ?l ?c ?k ?b; (case l => k_is); (case c => k_is); (case k => k_is); (case b => exact fun _ _ _ _ _ _ us hl => match us, hl with | [_], _ => rfl)))
  (case qeb => (refine' Fb.dn_mk ?l ?c ?k ?b; (case l => k_is); (case c => k_is); (case k => k_is); (case b => exact fun _ _ _ _ _ _ us hl => match us, hl with | [_, _], _ => rfl)))
  (case qec => (refine' Fb.dn_mk ?l ?c ?k ?b; (case l => k_is); (case c => k_is); (case k => k_is); (case b => exact fun _ _ _ _ _ _ us hl => match us, hl with | [_], _ => rfl)))
  (case qed => (refine' Fb.dn_mk ?l ?c ?k ?b; (case l => k_is); (case c => k_is); (case k => k_is); (case b => exact fun _ _ _ _ _ _ us hl => match us, hl with | [_, _], _ => rfl)))
  (case qee => (refine' Fb.dn_mk ?l ?c ?k ?b; (case l => k_is); (case c => k_is); (case k => k_is); (case b => exact fun _ _ _ _ _ _ us hl => match us, hl with | [_, _], _ => rfl)))
  (case qef => (refine' Fb.dn_mk ?l ?c ?k ?b; (case l => k_is); (case c => k_is); (case k => k_is); (case b => exact fun _ _ _ _ _ _ us hl => match us, hl with | [_, _], _ => rfl)))
  (case qeg => (refine' Fb.dn_mk ?l ?c ?k ?b; (case l => k_is); (case c => k_is); (case k => k_is); (case b => exact fun _ _ _ _ _ _ us hl => match us, hl with | [_, _], _ => rfl)))
  (case qeh => (refine' Fb.dn_mk ?l ?c ?k ?b; (case l => k_is); (case c => k_is); (case k => k_is); (case b => exact fun _ _ _ _ _ _ us hl => match us, hl with | [_, _], _ => rfl)))
  (case qei => (refine' Fb.dn_mk ?l ?c ?k ?b; (case l => k_is); (case c => k_is); (case k => k_is); (case b => exact fun _ _ _ _ _ _ us hl => match us, hl with | [_, _, _], _ => rfl)))
  (case qej => (refine' Fb.dn_mk ?l ?c ?k ?b; (case l => k_is); (case c => k_is); (case k => k_is); (case b => exact fun _ _ _ _ _ _ us hl => match us, hl with | [_, _], _ => rfl)))
  (case qek => (refine' Fb.dn_mk ?l ?c ?k ?b; (case l => k_is); (case c => k_is); (case k => k_is); (case b => exact fun _ _ _ _ _ _ us hl => match us, hl with | [_], _ => rfl)))
  (case qel => (refine' Fb.dn_mk ?l ?c ?k ?b; (case l => k_is); (case c => k_is); (case k => k_is); (case b => exact fun _ _ _ _ _ _ us hl => match us, hl with | [_], _ => rfl)))
  (case qem => (refine' Fb.dn_mk ?l ?c ?k ?b; (case l => k_is); (case c => k_is); (case k => k_is); (case b => exact fun _ _ _ _ _ _ us hl => match us, hl with | [_, _], _ => rfl)))
  (case qen => k_is)
  (case qeo => (refine' Fb.dn_mk ?l ?c ?k ?b; (case l => k_is); (case c => k_is); (case k => k_is); (case b => exact fun _ _ _ _ _ _ us hl => match us, hl with | [_], _ => rfl)))
  (case qep => k_is)
  (case qeq => k_is)
  (case qer => (refine' Fb.sqt_mk ?l ?z ?r; (case l => k_is); (case z => exact (by rw [sizeLine_eq]; decide)); (case r => exact .cons ⟨_, rfl⟩ (.cons ⟨_, rfl⟩ .nil))))
  (case qes => (refine' Fb.sqt_mk ?l ?z ?r; (case l => k_is); (case z => exact (by rw [sizeLine_eq]; decide)); (case r => exact .cons ⟨_, rfl⟩ (.cons ⟨_, rfl⟩ (.cons ⟨_, rfl⟩ .nil)))))
  (case qet => (show PySem.W.excIn _ _ _ _ = true; kernel_rfl!))
  (case qeu => (show PySem.W.excIn _ _ _ _ = true; kernel_rfl!))
  (case qev => (show PySem.W.excIn _ _ _ _ = true; kernel_rfl!))
  (case qew => (show PySem.W.excIn _ _ _ _ = true; kernel_rfl!))
  (case qex => (refine' L2.Cls.mk ?a ?b ?c ?d; (case a => k_is); (case b => k_is); (case c => k_is); (case d => k_is)))
  (case qey => (refine' L2.Cls.mk ?a ?b ?c ?d; (case a => k_is); (case b => k_is); (case c => k_is); (case d => k_is)))
  (case qez => (refine' L2.Cls.mk ?a ?b ?c ?d; (case a => k_is); (case b => k_is); (case c => k_is); (case d => k_is)))
  (case qfa => (refine' L2.Cls.mk ?a ?b ?c ?d; (case a => k_is); (case b => k_is); (case c => k_is); (case d => k_is)))
  (case qfb => (show PySem.W.findIn _ _ _ = some none; k_is))
  (case qfc => (show PySem.W.findIn _ _ _ = some none; k_is))
  (case qfd => (show PySem.W.findIn _ _ _ = some none; k_is))
  (case qfe => (show PySem.W.findIn _ _ _ = some none; k_is))
  (case qff => (show PySem.W.findIn _ _ _ = some none; k_is))
  (case qfg => (show PySem.W.findIn _ _ _ = some none; k_is))
  (case qfh => (show PySem.W.findIn _ _ _ = some none; k_is))
  (case qfi => (show PySem.W.findIn _ _ _ = some none; k_is))
  (case qfj => (show PySem.W.findIn _ _ _ = some none; k_is))
  (case qfk => (show PySem.W.findIn _ _ _ = some none; k_is))
  (case qfl => (show PySem.W.findIn _ _ _ = some none; k_is))
  (case qfm => (show PySem.W.findIn _ _ _ = some none; k_is))
  (case qfn => (show PySem.W.findIn _ _ _ = some none; k_is))
  (case qfo => (show PySem.W.findIn _ _ _ = some none; k_is))
  (case qfp => (show PySem.W.findIn _ _ _ = some none; k_is))
  (case qfq => (show PySem.W.findIn _ _ _ = some none; k_is))
  (case qfr => (show PySem.W.findIn _ _ _ = some none; k_is))
  (case qfs => (show PySem.W.findIn _ _ _ = some none; k_is))
  (case qft => (show PySem.W.findIn _ _ _ = some none; k_is))
  (case qfu => k_is)
  (case qfv => k_is)
  (case qfw => k_is)
  (case qfx => k_is)
  (case qfy => k_is)
  (case qfz => k_is)
  (case qga => k_is)
  (case qgb => k_is)
  (case qgc => k_is)
  (case qgd => k_is)
  (case qge => k_is)
  (case qgf => k_is)
  (case qgg => k_is)
  (case qgh => k_is)
  (case qgi => k_is)
  (case qgj => k_is)
  (case qgk => kernel_rfl!)
  (case qgl => k_is)
  (case qgm => k_is)
  (case qgn => k_is)
  (case qgo => k_is)
  (case qgp => k_is)
  (case qgq => k_is)
  (case qgr => kernel_rfl!)
  (case qgs => kernel_rfl!)
  (case qgt => kernel_rfl!)
  (case qgu => kernel_rfl!)
  (case qgv => k_is)
  (case qgw => k_is)
  (case qgx => k_is)
  (case qgy => k_is)
  (case qgz => k_is)
  (case qha => k_is)
  (case qhb => kernel_rfl!)
  (case qhc => kernel_rfl!)
  (case qhd => kernel_rfl!)
  (case qhe => kernel_rfl!)
  (case qhf => k_is)
  (case qhg => k_is)
  (case qhh => k_is)
  (case qhi => k_is)
  (case qhj => k_is)
  (case qhk => k_is)
  (case qhl => kernel_rfl!)
  (case qhm => kernel_rfl!)
  (case qhn => kernel_rfl!)
  (case qho => kernel_rfl!)
  (case qhp => kernel_rfl!)
  (case qhq => kernel_rfl!)
  (case qhr => kernel_rfl!)
  (case qhs => kernel_rfl!)
  (case qht => kernel_rfl!)
